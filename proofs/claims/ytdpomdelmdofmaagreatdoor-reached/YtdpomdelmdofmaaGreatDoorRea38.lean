import Derived.Test.YtdpomdelmdofmaaGreatDoorRea37
open Go.RowKit.Below renaming heap_setCell->AI,heap_alloc->A3,refl->D3
open Go.AllReadyIn renaming cons->AS,nil->AT
open Go renaming wpAnyIn_ready->A1,undef->A4,wpOpIn_step->Bs,World->CH,heap_alloc_new->CL,Value->DD
open Go.World renaming cell?_of_block->A2,putObj_heap_other->A5,cell?->C1,news_of_block->Dt,frozen?->D0,setCell->F2
open Nat renaming le_refl->A6,le_trans->CD,add_le_add_right->Dp,reduceAdd->F1,zero_le->HB
open List renaming length_cons->BY,length_append->CR,flatMap_cons->D1,length_nil->D2,map_cons->F5,sum_cons->F7,map_map->G2,mem_map->G3
open Or renaming inl->C2,inr->G1
open Go.Value renaming oneCell'->Ft,ownBlock->FD
open Go.Proofs.Tryz renaming prog->G0
set_option maxRecDepth 100000
set_option maxHeartbeats 8000000
namespace Go.Proofs.YtdpomdelmdofmaaGreatDoor
open Go.Proofs.Tryz Go.RowKit Go.Maps
variable{j:List dX}{o:dX}{P:Nat}
section
attribute [local go_sem] Oper.semAt_some CO
theorem OD{L:Nat}{w:CH}{D:Nat}{rv jn iv:DD}{ch:Bool}{Tb T:dS}{Mb M:Nat->Prop}{wb:CH}{js:List dX}(h:Bv L w D rv jn iv ch Tb Mb wb T M js)(hl:js.length<=1000000000):
  Calls G0 119 #[.pointer (some ⟨D,0,none⟩)] w fun e w'=>e=.returned (.tuple #[]) /\ ∃y8,DB w' D rv (.slice none 0 0) true y8/\Kc w' (fun k=>GA L Tb wb M k\/w.heap.size<=k) y8 js.reverse/\Av (fun k=>k=D) w w':=by
 obtain⟨xs,cs,qu,qv,zv,zi⟩:=h.ex;obtain⟨y6,zx,ao,cap,g,zu,hg⟩:=Kz qv;obtain⟨hcl,qj⟩:=zv.at
 obtain⟨N,hN⟩:∃N,N=js.length:=⟨_,rfl⟩
 rw[<- hN] at y6 hg hcl zu hl zx;subst zu;have qd:=qu.lt;have hM:∀j,M j->j<w.heap.size:=fun j hj=>(h.low j hj).1;obtain⟨c,hc⟩:∃c:Nat->DD,c=fun j=>xs[j]?.getD .nilFunc:=⟨_,rfl⟩
 have z6:0<N->g<w.heap.size/\g≠D:=fun hp=>⟨(hg hp).2.2.1,fun e=>h.jD (by grind)⟩
 obtain⟨w1,qm⟩:∃w1,w1=(w.alloc (.cells #[.pointer (some ⟨D,0,none⟩)] 60)).setCell ⟨D,3,none⟩ (.slice none 0 0):=⟨_,rfl⟩
 obtain⟨wB,qf⟩:∃wB,wB=w1.alloc (.cells #[.slice ao N cap] 112):=⟨_,rfl⟩
 have y4:w1.heap.size=w.heap.size+1:=by simp_all
 have zo:wB.heap.size=w.heap.size+2:=by simp_all
 have zg:w1.heap[w.heap.size]? = some (.cells #[.pointer (some ⟨D,0,none⟩)] 60 (0,0)):=by
  rw[qm];exact (AI _ _ _ _ (by grind)).trans (CL w _)
 have zz:wB.heap[w.heap.size]? = some (.cells #[.pointer (some ⟨D,0,none⟩)] 60 (0,0)):=by rw[qf];exact (A3 w1 _ _ (by omega)).trans zg
 have zq:wB.heap[w.heap.size+1]? = some (.cells #[.slice ao N cap] 112 (0,0)):=by rw[qf,<- y4];exact CL w1 _
 have hold:∀j,j<w.heap.size->j≠D->wB.heap[j]? = w.heap[j]?:=fun j hj hne=>by
  rw[qf,A3 w1 _ j (by omega),qm];exact (AI _ _ _ _ hne).trans (A3 w _ j hj)
 have zf:DB w1 D rv (.slice ao N cap) ch (.slice none 0 0):=by
  rw[qm];exact (qu.kept (w':=w.alloc (.cells #[.pointer (some ⟨D,0,none⟩)] 60)) (A3 w _ D qd)).set3 _
 have zr:DB wB D rv (.slice ao N cap) ch (.slice none 0 0):=zf.kept (by rw[qf];exact A3 w1 _ D (by omega));obtain⟨B,hB⟩:∃B,B=w.heap.size+2:=⟨_,rfl⟩
 have h0:DX w wB D g N B rv (.slice ao N cap) ch c 0 wB:=by
  refine⟨rfl,rfl,by grind,by rw[qf,qm];rfl,by simp_all,by rw[qf,qm];rfl,by omega,hold,_,zr,⟨rfl,C2 ⟨rfl,rfl⟩⟩,fun q hq=>by cases hq⟩
 have qq:=Ab (fun (k:Nat) (hk:k<N)=>(show ∃ (fn:Nat) (caps:Array DD) (kk:Int) (pa:Option Addr) (pl pc:Nat) (x:Option Addr),c ((N-1-k)*5)=.func (.func fn) #[] caps/\c ((N-1-k)*5+1)=.int .i64 kk/\c ((N-1-k)*5+2)=.slice pa pl pc/\c ((N-1-k)*5+3)=.slice none 0 0/\c ((N-1-k)*5+4)=.pointer x from by
  have h1:N-1-k<cs.length:=by omega
  obtain⟨kv,pv,fv,vv,q0,q1,q2,q3,q4,o1,_,o2,o3,o4⟩:=qj (N-1-k) (by omega) h1;obtain⟨pa,pl,pc,rfl⟩:∃pa pl pc,pv=.slice pa pl pc:=by
   rcases o2 with⟨_,a,c,e,_⟩|⟨g,o,cap,e,_⟩
   ·grind
   grind
  obtain⟨x,rfl⟩:∃x,vv=.pointer x:=by
   rcases o4 with⟨_,e⟩|⟨_,hr⟩
   ·grind
   ·obtain⟨b,e,_⟩:=hr
    grind
  subst o1;subst o3;refine⟨cs[N-1-k].1,cs[N-1-k].2,(((js[N-1-k]'(by omega)).1:Nat):Int),pa,pl,pc,x,?_,?_,?_,?_,?_⟩
  ·rw[hc];simp only[q0];rfl
  ·grind
  ·grind
  ·grind
  grind))
 have zb:Hid (∀k,k<=N->Dc w (GA L Tb wb M) (Gt c N k) (js.reverse.take k)):=by
  intro k;induction k with
  | zero=>intro _;exact trivial
  | succ k ih=>
   intro hk;have h1:N-1-k<cs.length:=by omega
   obtain⟨kv,pv,fv,vv,q0,q1,q2,q3,q4,o1⟩:=qj (N-1-k) (by omega) h1;have e1:js.reverse.take (k+1)=js.reverse.take k++[js[N-1-k]'(by omega)]:=by
    rw[List.take_succ_eq_append_getElem (by simp;omega),List.getElem_reverse]
    grind
   rw[e1,Gt,hc];simp only[q1,q2,q3,q4,Option.getD_some];exact Dc.snoc o1 (hc▸ih (by omega))
 have qp:=Ab (fun (hp:0<N)=>(show ∀j,j<N*5->w.cell? ⟨g,j,none⟩=some (c j) from fun j hj=>by
  rw[(hg hp).2.2.2 j (by omega),hc];simp[List.getElem?_eq_getElem (show j<xs.length by omega)]))
 have qt:=Ab (fun (k q cap2:Nat) (W W2 W3:CH) (iv:DD) (hl:B+1<W.heap.size) (hI:DX w wB D g N B rv (.slice ao N cap) ch c k W)=>DX.turn (iv:=iv) (q:=q) (cap:=cap2) (W2:=W2) (W3:=W3) hB qd z6 hl hI);have HI:=Ab (fun k=>DX.apart (w:=w) (wB:=wB) (D:=D) (g:=g) (N:=N) (B:=B) (rv:=rv) (jn:=.slice ao N cap) (ch:=ch) (c:=c) hB qd (fun hp=>(z6 hp).1) k);have HA:=Ab (fun (E:Array DD) (k X:Nat)=>NF.apart (w:=w) (wB:=wB) (D:=D) (g:=g) (N:=N) (B:=B) (rv:=rv) (jn:=.slice ao N cap) (ch:=ch) (c:=c) (E:=E) hB qd (fun hp=>(z6 hp).1) k X);have y9:=Ab (fun (hp:0<N)=>(hg hp).1);have H0:=Ab h0;have yv:=Ab qu;have qx:=qu.kept (w':=w.alloc (.cells #[.pointer (some ⟨D,0,none⟩)] 60)) (A3 w _ D qd);have z1:(w.alloc (.cells #[.pointer (some ⟨D,0,none⟩)] 60)).cell? ⟨D,1,none⟩=some (.slice ao N cap):=qx.c1;have z3:(w.alloc (.cells #[.pointer (some ⟨D,0,none⟩)] 60)).cell? ⟨D,3,none⟩=some iv:=qx.c3;have y3:(w.alloc (.cells #[.pointer (some ⟨D,0,none⟩)] 60)).frozen? ⟨D,3,none⟩=false:=by simp[D0,show _=_ from qx]
 have yy:=Ab zg;have yw:=Ab zf;have zl:=Ab zz;have ya:=Ab zq;have qo:=Ab zo;have qg:=Ab hB;have yi:=Ab qf;have yg:=Ab qm;have z8:=Ab qd;have yf:=Ab hN;have yx:=Ab hM;have ye:=Ab h.dD.2;clear h qv zv zi y6 hg hcl qj h0 zg zz zq hold zf zr qu z6 qx y4 zo hB qf qm qd hN hc hM;refine (callsIn_wide (n:=0)).1 (callsIn_of_wp_marks func119 rfl trivial ?_ rfl);simp only[ntmps119,List.size_toArray,BY,D2,F1,Nat.reduceSub,Array.replicate_succ,Array.replicate_zero,List.push_toArray,List.append_toArray,List.nil_append,List.cons_append]
 gi_wp2_with (refine⟨trivial,rfl,?_⟩;gi_at_call 158;refine (callsIn_wide.2 Nb).mono ?_;rintro e w' ⟨rfl,rfl⟩)
 rw[<- Aa yg,<- Aa yi];refine Gx (gf:=204) (lb:=#[.pointer (some ⟨w.heap.size+1,0,none⟩)]) rfl (F3 func204 (by kernel_rfl) rfl) N (fun k=>#[.int .i64 ((N-1-k:Nat):Int),Hr c (N-1-k)]) (fun _=>rfl) (DX w wB D g N B rv (.slice ao N cap) ch c)
  (fun k a' W=>∃X,NF w wB D g N B rv (.slice ao N cap) ch c #[c ((N-1-k)*5),c ((N-1-k)*5+1),c ((N-1-k)*5+2),c ((N-1-k)*5+3),c ((N-1-k)*5+4)] k X W/\a'={ tmps:=#[.pointer (some ⟨D,0,none⟩),.pointer (some ⟨w.heap.size,0,none⟩),A4,.pointer (some ⟨X,0,none⟩),.pointer (some ⟨D,0,none⟩),.pointer (some ⟨D,0,none⟩),.pointer (some ⟨D,3,none⟩),.pointer (some ⟨D,0,none⟩),.pointer (some ⟨D,0,none⟩),.pointer (some ⟨D,1,none⟩),.slice ao N cap,.func (.func 204) #[] #[.pointer (some ⟨w.heap.size+1,0,none⟩)],.int .i64 ((N-1-k:Nat):Int),Hr c (N-1-k),A4,A4,A4,A4,A4,A4,A4,A4,A4,A4,A4,A4,A4,A4,A4,A4,A4],defers:=[] })
  ?hI ?hA (Aa H0) ?hiter ?hassign ?hbody ?hdone
 case hI=>
  rw[Aa qo,<- Aa qg];exact Aa HI
 case hA=>
  rw[Aa qo,<- Aa qg];rintro k a' W W' ⟨X,hX,e⟩ e1 e2 e3 e4 e5;exact⟨X,Aa HA _ k X W W' hX e1 e2 e3 e4 e5,e⟩
 case hiter=>
  intro l J W yl hY yk;refine Pk (cap:=cap) zx (Aa y9) (fun k W hj=>?_) hY yk;have hi:=yl k W hj;refine⟨?_,fun j yp=>?_⟩
  ·have:=hi.box.trans (Aa ya);simp[C1,this]
  ·have hp:0<N:=by omega
   rw[A2 (w:=w) (hi.row hp)];exact Aa qp hp j yp
 case hassign=>
  intro l k W hk hi hsz;rw[Aa qo,<- Aa qg] at hsz |-;have q9:=Ab hi;obtain⟨fn,caps,kk,pa,pl,pc,x,e0,e1,e2,e3,e4⟩:=Aa qq k hk;clear hi;unfold Hr;rw[e0,e1,e2,e3,e4];clear e0 e1 e2 e3 e4
  gi_wp2
  have hb:=(D3 W.heap.size W).alloc (A6 _) (.cells #[.func (.func fn) #[] caps,.int .i64 kk,.slice pa pl pc,.slice none 0 0,.pointer x] 230);have yj:=Aa qg;have zt:=Aa q9;obtain⟨j3,d1,d2,d3⟩:=zt.doc;have qz:=d1.lt;exact⟨⟨hb.block B (by omega),hb.block (B+1) (by omega)⟩,⟨Aa HI k W _ zt hb.os hb.tape hb.output hb.size fun j hj _ _=>hb.block j hj,by omega,CL W _,fun q yr h1 h2=>by
   have h3:DB W D rv (.slice ao N cap) ch yr:=h1.kept (hb.block D qz).symm;obtain rfl:=h3.iv d1;have:=(AA d2 q h2).1;omega⟩⟩
 case hbody=>
  rintro l k a' W hk ⟨X,hX,rfl⟩ hsz -;rw[Aa qo,<- Aa qg] at hsz |-;obtain⟨fn,caps,kk,pa,pl,pc,px,e0,e1,e2,e3,e4⟩:=Aa qq k hk;have qi:=hX.blk;rw[e0,e1,e2,e3,e4] at qi;obtain⟨iv2,q7,q5,q6⟩:=hX.inv.doc;have qz:=q7.lt;obtain⟨i0,z0,zs,hz0,y7,hz2,hz3⟩:=JP;have y5:Gt c N k++[c ((N-1-k)*5+1),c ((N-1-k)*5+2),c ((N-1-k)*5+3),c ((N-1-k)*5+4)]=Gt c N k++[.int .i64 kk,.slice pa pl pc,.slice none 0 0,.pointer px]:=by grind
  have hT:=fun q cap2 W2 W3=>Aa qt k q cap2 W W2 W3 iv2 hsz hX.inv q7;simp only[y5] at hT;have HT:=Ab hT;obtain⟨W2,qy⟩:∃W2,W2=W.drew.alloc (.cells #[.int .i64 kk,.slice pa pl pc,.slice none 0 0,.pointer px] 178):=⟨_,rfl⟩
  have hb2:Below W.heap.size W W2:=by
   rw[qy];have h1:=(D3 W.heap.size W).alloc (A6 _) (.cells #[.int .i64 kk,.slice pa pl pc,.slice none 0 0,.pointer px] 178);exact⟨h1.os,h1.tape,h1.output,h1.size,h1.block⟩
  have qw:W2.heap.size=W.heap.size+1:=by simp_all
  have zy:W2.heap[W.heap.size]? = some (.cells #[.int .i64 kk,.slice pa pl pc,.slice none 0 0,.pointer px] 178 (0,0)):=by rw[qy];exact CL W.drew _
  have qn:W.heap[w.heap.size]? = some (.cells #[.pointer (some ⟨D,0,none⟩)] 60 (0,0)):=hX.inv.bx.trans (Aa zl);have zw:w.heap.size<W.heap.size:=by grind
  have yq:X<W.heap.size:=by grind
  have z7:∀j,j<W.heap.size -> ∀z,(wz z W.drew W2).heap[j]? = W.heap[j]?:=fun j hj z=>by
   unfold wz;split
   ·exact hb2.block j hj
   ·rfl
  have qe:=AC (w':=W2) q5 fun q hq=>hb2.block q (AA q5 q hq).1;have fP:∀z,(wz z W.drew W2).cell? ⟨w.heap.size,0,none⟩=some (.pointer (some ⟨D,0,none⟩)):=fun z=>by
   rw[A2 (w:=W) (z7 _ zw z)];simp[C1,qn]
  have fD:∀z,(wz z W.drew W2).cell? ⟨D,3,none⟩=some iv2:=fun z=>by
   rw[A2 (w:=W) (z7 _ qz z)];exact q7.c3
  have fX:∀z,(wz z W.drew W2).cell? ⟨X,1,none⟩=some (.int .i64 kk)/\(wz z W.drew W2).cell? ⟨X,2,none⟩=some (.slice pa pl pc)/\(wz z W.drew W2).cell? ⟨X,3,none⟩=some (.slice none 0 0)/\(wz z W.drew W2).cell? ⟨X,4,none⟩=some (.pointer px):=fun z=>by
   refine⟨?_,?_,?_,?_⟩;all_goals (rw[A2 (w:=W) (z7 _ yq z)];simp[C1,qi])
  obtain⟨E0,zn⟩:∃E0,E0=Hr c (N-1-k):=⟨_,rfl⟩
  rw[<- zn];have yh:=Ab qy;have zk:=Ab zy;have zm:=Ab qw;have zj:=Ab hb2;have qb:=Ab qe;have za:=Ab fP;have yb:=Ab fD;have yc:=Ab fX;have HZ:=Ab (show ∀W3:CH,W2.grownBy W3 iv2.ownBlock->W3.cell? ⟨D,3,none⟩=some iv2/\W3.frozen? ⟨D,3,none⟩=false/\W3.cell? ⟨w.heap.size,0,none⟩=some (.pointer (some ⟨D,0,none⟩)) from fun W3 q8=>by
   have h3:DB W3 D rv (.slice ao N cap) ch iv2:=q7.kept ((q8.block D (by omega) (fun e=>by have:=q6 D e.symm;have:=Aa z8;omega)).trans (hb2.block D qz));have h4:W3.heap[w.heap.size]? = some (.cells #[.pointer (some ⟨D,0,none⟩)] 60 (0,0)):=((q8.block _ (by omega) (by grind)).trans (hb2.block _ zw)).trans qn;exact⟨h3.c3,by simp[D0,show W3.heap[D]? = _ from h3],by simp[C1,h4]⟩)
  obtain⟨fi,yz⟩:∃a b n,iv2=.slice a b n:=by
   rcases q5.2 with⟨e,_⟩|⟨_,_,_,e,_⟩
   ·grind
   grind
  clear qi hX e0 e1 e2 e3 e4 q7 q5 q6 hT y5 qy hb2 qw zy qn z7 qe fP fD fX zn
  gi_wp2
  refine wpIn_region_any (by kernel_rfl) ?_;refine Zh (A:=fun x y z=>{ tmps:=#[.pointer (some ⟨D,0,none⟩),.pointer (some ⟨w.heap.size,0,none⟩),A4,.pointer (some ⟨X,0,none⟩),.pointer (some ⟨D,0,none⟩),.pointer (some ⟨D,0,none⟩),.pointer (some ⟨D,3,none⟩),.pointer (some ⟨D,0,none⟩),.pointer (some ⟨D,0,none⟩),.pointer (some ⟨D,1,none⟩),.slice ao N cap,.func (.func 204) #[] #[.pointer (some ⟨w.heap.size+1,0,none⟩)],.int .i64 ((N-1-k:Nat):Int),E0,pk x 1 (.pointer (some ⟨D,0,none⟩)),pk y 1 (.pointer (some ⟨D,0,none⟩)),pk y 2 (.pointer (some ⟨D,0,none⟩)),pk y 3 (.pointer (some ⟨D,3,none⟩)),pk y 4 iv2,pk z 1 (.pointer (some ⟨X,1,none⟩)),pk z 2 (.agg #[.int .i64 kk,.slice pa pl pc,.slice none 0 0,.pointer px]),pk z 3 (.slice (some ⟨W.heap.size,0,none⟩) 1 1),A4,A4,A4,A4,A4,A4,A4,A4,A4],defers:=[] }) (W:=fun z=>wz z W.drew W2) (by kernel_rfl) ?h0 ?h1 ?h5 ?hl ?hl0
  case h0=>
   intro y z K hy hz hk;refine Bs rfl (fun K' hK=>?_);have f:=Aa za z
   go_simp;exact hK _ _ hk
  case h1=>
   intro x y z K hx hy hz hk;have f:=Aa za z;have f3:=Aa yb z;have yt:∀v,pk 1 1 v=v:=fun _=>rfl;have yu:∀v,pk 2 2 v=v:=fun _=>rfl;have j4:∀v,pk 3 3 v=v:=fun _=>rfl
   match y,hy with
   | 0,_=>
    refine Bs rfl (fun K' hK=>?_)
    go_simp;exact hK _ _ hk
   | 1,_=>
    refine Bs rfl (fun K' hK=>?_)
    go_simp;exact hK _ _ hk
   | 2,_=>
    refine Bs rfl (fun K' hK=>?_)
    go_simp;exact hK _ _ hk
   | 3,_=>
    refine Bs rfl (fun K' hK=>?_)
    go_simp;exact hK _ _ hk
  case h5=>
   intro x y z K hx hy hz hk;obtain⟨f1,f2,f3,f4⟩:=Aa yc z;have yt:∀v,pk 1 1 v=v:=fun _=>rfl;have yu:∀v,pk 2 2 v=v:=fun _=>rfl
   match z,hz with
   | 0,_=>
    refine Bs rfl (fun K' hK=>?_)
    go_simp;exact hK _ _ hk
   | 1,_=>
    refine Bs rfl (fun K' hK=>?_)
    go_simp;exact hK _ _ hk
   | 2,_=>
    have e2:wz 2 W.drew W2=W.drew:=rfl;have e3:wz 3 W.drew W2=W2:=rfl;simp only[e2] at f1 f2 f3 f4 |-;simp only[F1,e3] at hk;rw[Aa yh] at hk;refine Bs rfl (fun K' hK=>?_)
    go_simp;exact hK _ _ hk
  case hl=>
   refine A1 (rs:=[8]) (by kernel_rfl) (by simp) (AS rfl (fun K hK=>?_) AT);rw[if_pos (by rfl)];refine FI (.tmp 18) (.tmp 21) 113 rfl 0 178 i0 z0 4 64 underlying113 zs hz0 hz2 hz3 y7 (by decide) iv2 k (Gt c N k) rfl (Aa qb) ⟨W.heap.size,0,none⟩ 1 1 [.int .i64 kk,.slice pa pl pc,.slice none 0 0,.pointer px] rfl rfl (Dt (cs:=#[.int .i64 kk,.slice pa pl pc,.slice none 0 0,.pointer px]) (t:=178) (fr:=(0,0)) (Aa zk)) (by simp[Ft]) (by decide) (by omega) (by omega) (HB _) (W.heap.size+1) (Aa zm) ?_;intro q cap2 W3 ho q8 ze hlt;refine hK _ _ ?_;obtain⟨y1,y2,y3⟩:=Aa HZ W3 q8;have qh:=Ab (Aa HT q cap2 W2 W3 (Aa zj) ho q8 (by grind));clear hK ho q8 ze hlt;refine A1 (rs:=[9]) (by kernel_rfl) (by simp) (AS rfl (fun K hK=>?_) AT)
   go_simp;refine hK _ _ ?_
   clear hK;refine A1 (rs:=[10]) (by kernel_rfl) (by simp) (AS rfl (fun K hK=>?_) AT)
   go_simp;refine hK _ _ ?_
   clear hK;refine A1 (rs:=[11]) (by kernel_rfl) (by simp) (AS rfl (fun K hK=>?_) AT)
   go_simp;refine hK _ _ ?_
   clear hK;refine wpAnyIn_done (by kernel_rfl) ?_ _;exact⟨rfl,Aa qh⟩
  case hl0=>
   intro hL;refine A1 (rs:=[0,8]) (by kernel_rfl) (by simp) (AS rfl (fun K hK=>?_) (AS rfl (fun K hK=>?_) AT))
   ·have f:=Aa za 3
    go_simp;exact hK _ _ hL
   clear hL;rw[if_pos (by rfl)];refine FI (.tmp 18) (.tmp 21) 113 rfl 0 178 i0 z0 4 64 underlying113 zs hz0 hz2 hz3 y7 (by decide) iv2 k (Gt c N k) rfl (Aa qb) ⟨W.heap.size,0,none⟩ 1 1 [.int .i64 kk,.slice pa pl pc,.slice none 0 0,.pointer px] rfl rfl (Dt (cs:=#[.int .i64 kk,.slice pa pl pc,.slice none 0 0,.pointer px]) (t:=178) (fr:=(0,0)) (Aa zk)) (by simp[Ft]) (by decide) (by omega) (by omega) (HB _) (W.heap.size+1) (Aa zm) ?_;intro q cap2 W3 ho q8 ze hlt;refine hK _ _ ?_;obtain⟨y1,y2,y3⟩:=Aa HZ W3 q8;have qh:=Ab (Aa HT q cap2 W2 W3 (Aa zj) ho q8 (by grind));clear hK ho q8 ze hlt;refine A1 (rs:=[0]) (by kernel_rfl) (by simp) (AS rfl (fun K hK=>?_) AT)
   go_simp;refine hK _ _ ?_
   clear hK;refine A1 (rs:=[9]) (by kernel_rfl) (by simp) (AS rfl (fun K hK=>?_) AT)
   go_simp;refine hK _ _ ?_
   clear hK;refine A1 (rs:=[10]) (by kernel_rfl) (by simp) (AS rfl (fun K hK=>?_) AT)
   go_simp;refine hK _ _ ?_
   clear hK;refine A1 (rs:=[11]) (by kernel_rfl) (by simp) (AS rfl (fun K hK=>?_) AT)
   go_simp;refine hK _ _ ?_
   clear hK;refine wpAnyIn_done (by kernel_rfl) ?_ _;exact⟨rfl,Aa qh⟩
 case hdone=>
  intro W hI hK;rw[Aa qo,<- Aa qg] at hK |-;obtain⟨iv2,q7,q5,q6⟩:=hI.doc;have qn:W.heap[w.heap.size]? = some (.cells #[.pointer (some ⟨D,0,none⟩)] 60 (0,0)):=hI.bx.trans (Aa zl);have f0:W.cell? ⟨w.heap.size,0,none⟩=some (.pointer (some ⟨D,0,none⟩)):=by simp[C1,qn]
  have d1:=q7.c1;have d2:=q7.c2;have dz:∀o,W.frozen? ⟨D,o,none⟩=false:=fun o=>by simp[D0,show W.heap[D]? = _ from q7]
  have hne:w.heap.size≠D:=by have:=Aa z8;omega
  have yd:=Ab q7;have zc:=Ab q5;have qr:=Ab q6;have q9:=Ab hI;clear q7 q5 q6 hI qn
  gi_wp2
  have yj:=Aa qg;have qd:=Aa z8;have yo:=Aa yf;have ym:((W.setCell ⟨D,2,none⟩ (.bool true)).setCell ⟨D,1,none⟩ (.slice none 0 0)).heap[B]? = some (.deferred (some [])):=(AI _ _ _ _ (by grind)).trans ((AI _ _ _ _ (by grind)).trans hK);refine⟨by simp,.inl ⟨_,_,rfl,run_takeDeferred ym,?_⟩⟩;refine⟨_,results_none rfl _ _ _,rfl,iv2,?_,⟨Gt c N N,?_,fun q hq=>G1 (by have:=(Aa qr q hq).1;omega),?_⟩,?_⟩
  ·have h2:DB (W.setCell ⟨D,2,none⟩ (.bool true)) D rv (.slice ao N cap) true iv2:=by
    have h:=Aa yd;simp only[DB,F2,Array.getElem?_modify];rw[if_pos trivial,show W.heap[D]? = _ from h];rfl
   exact (A5 (by omega)).trans (h2.set1 _)
  ·rw[List.length_reverse,<- yo];refine AC (Aa zc) fun q hq=>?_;obtain⟨p1,p2,p3⟩:=Aa qr q hq;exact (A5 (by omega)).trans ((AI _ _ _ _ (by grind)).trans (AI _ _ _ _ (by grind)))
  ·have h1:=Aa zb N (A6 _);rw[List.take_of_length_le (by simp;omega)] at h1;refine h1.move fun q hq zh=>⟨?_,C2 hq⟩
   have qk:q≠D:=fun e=>Aa ye (e▸hq.1);exact (A5 (by omega)).trans ((AI _ _ _ _ qk).trans ((AI _ _ _ _ qk).trans ((Aa q9).old q zh qk)))
  ·refine⟨(Aa q9).os,(Aa q9).tape,(Aa q9).output,?_,fun q zh qk=>(A5 (by omega)).trans ((AI _ _ _ _ qk).trans ((AI _ _ _ _ qk).trans ((Aa q9).old q zh qk)))⟩;have:=(Aa q9).size;simp[World.putObj,F2];omega
end
def Lh(w:CH)(G:Nat->Prop)(g:Nat)(ops:List fO):Prop:=∀i (h:i<ops.length),∃pa pl pc fa fl fc y,H8 w G ops[i] pa pl pc fa fl fc y/\w.cell? ⟨g,i*4,none⟩=some (.int .i64 ops[i].1)/\w.cell? ⟨g,i*4+1,none⟩=some (.slice pa pl pc)/\w.cell? ⟨g,i*4+2,none⟩=some (.slice fa fl fc)/\w.cell? ⟨g,i*4+3,none⟩=some (.pointer y)
theorem H8.move{w w':CH}{G G':Nat->Prop}{o:fO}{pa fa y:Option Addr}{pl pc fl fc:Nat}(h:H8 w G o pa pl pc fa fl fc y)(hk:∀k,G k->k<w.heap.size->w'.heap[k]? = w.heap[k]? /\ G' k):H8 w' G' o pa pl pc fa fl fc y:=
 ⟨h.1,h.2.1.move hk,fun h3=>(h.2.2.1 h3).move hk,fun h3=>(h.2.2.2 h3).move hk⟩
def Ef(D R:Nat)(iv:DD)(ch:Bool)(Tb:dS)(Mb:Nat->Prop)(wb:CH)(M:Nat->Prop)(d x:Int)(n:Nat)(w:CH)(r:Except (Nat×Nat) (To×List dX))(e:Ending)(w':CH):Prop:=match r with
 | .ok (v,j)=>e=.returned (.tuple #[.int .i64 0,.int .i64 0]) /\ ∃wp jn T a M' wk q0,JS wk D R wp jn iv ch Tb Mb wb T a v M' j/\JEx M M' w wk/\DB w' D (.pointer (some ⟨R,0,none⟩)) (.slice none 0 0) true q0/\Kc w' (fun k=>GA (top+1) Tb wb M' k\/wk.heap.size<=k) q0 j.reverse/\Av (fun k=>k=D) wk w'/\eG d x 200000 v/\(dZ top v).length<=80000/\(∀o∈j,GC d x 200000 o)/\j.length<=2*n
 | .error (c,i)=>e=.returned (.tuple #[.int .i64 i,.int .i64 c])/\DB w' D (.pointer (some ⟨R,0,none⟩)) (.slice none 0 0) ch iv/\BP (top+1) (.pointer (some ⟨R,0,none⟩)) Tb Mb (fun k=>k=D) wb w'/\w'.os=w.os/\w'.tape=w.tape/\w'.output=w.output/\w.heap.size<=w'.heap.size
structure XB(D R:Nat)(iv:DD)(ch:Bool)(Tb:dS)(Mb:Nat->Prop)(wb:CH)(M:Nat->Prop)(d x:Int)(w:CH)(v0:To)(ops:List fO)(k:Nat)(W:CH):Prop where
 ex:∃wp jn T a v M' j,JS W D R wp jn iv ch Tb Mb wb T a v M' j/\JEx M M' w W/\j.length<=2*k/\eG d x 200000 v/\(dZ top v).length<=80000/\(∀o∈j,GC d x 200000 o)/\Cc d 0 v0 [] ops=Cc d k v j (ops.drop k)
section
variable{w:CH}{D R:Nat}{wp:Option Addr}{jn iv:DD}{ch:Bool}{Tb T a:dS}{Mb M:Nat->Prop}{wb:CH}{v:To}{d x:Int}{js:List dX}
theorem FK{c i n:Nat}{M':Nat->Prop}{W:CH}(h:JS W D R wp jn iv ch Tb Mb wb T a v M' js)(hX:JEx M M' w W)(q0:∀k,Mb k->k≠D/\k<w.heap.size):
  Calls G0 118 #[.pointer (some ⟨D,0,none⟩)] W fun e w'=>e=.returned (.tuple #[])/\Hid (Ef D R iv ch Tb Mb wb M d x n w (.error (c,i)) (.returned (.tuple #[.int .i64 i,.int .i64 c])) w'):=by
 refine (NP h.j (fun k hk=>⟨(q0 k hk).1,Nat.lt_of_lt_of_le (q0 k hk).2 hX.size⟩)).mono ?_;rintro e w' ⟨rfl,t1,t2,t3,t4,t5,t6⟩;exact⟨rfl,rfl,t1,t2,t3.trans hX.os,t4.trans hX.tape,t5.trans hX.output,CD hX.size t6⟩
theorem Sw{ao:Option Addr}{g cap:Nat}{ops:List fO}(h:JS w D R wp jn iv ch Tb Mb wb T a v M [])(hT:Ai w)(qw:∀k,k<NG->M k)(qx:∀k,Mb k->k≠D/\k<w.heap.size)(hd:d<=100)(hv:eG d x 200000 v)(z1:(dZ top v).length<=80000)(qy:0<ops.length->ao=some ⟨g,0,none⟩/\M g)(qb:Lh w (GA (top+1) Tb wb M) g ops)(qz:∀o∈ops,jA (d+2) x 200000 o)(hn:ops.length<=400000000):
  Calls G0 84 #[.pointer (some ⟨D,0,none⟩),.slice ao ops.length cap,.int .i64 d] w (Ef D R iv ch Tb Mb wb M d x ops.length w (Cc d 0 v [] ops)):=by
 have qh:Hid (XB D R iv ch Tb Mb wb M d x w v ops 0 w):=⟨wp,jn,T,a,v,M,[],h,JEx.refl _ _,by simp,hv,z1,fun o ho=>(by cases ho),rfl⟩
 have zb:=Ab (fun k (hk:M k)=>(h.j.low k hk).1);obtain⟨n,qp⟩:∃n,n=ops.length:=⟨_,rfl⟩
 obtain⟨Q,hQ⟩:∃Q,Q=Ef D R iv ch Tb Mb wb M d x ops.length w (Cc d 0 v [] ops):=⟨_,rfl⟩
 rw[<- hQ,<- qp];have zn:(n:Int)<=400000000:=by omega
 have HT:=Ab hT;have qi:=Ab qw;have qu:=Ab qx;have za:=Ab qy;have qj:=Ab qb;have zc:=Ab qz;have HN:=Ab qp;have HQ:=Ab hQ;clear h hT qw qx hv z1 qy qb qz hn qp hQ
 go_enter func84,ntmps84
 go_wp2_with (fail)
 go_loopw [13] (fun i wr=>∃k:Nat,k<=n/\i=.int .i64 k/\XB D R iv ch Tb Mb wb M d x w v ops k wr) (fun i _=>n-(intOf i).toNat)
 case atStart=>exact⟨0,by omega,rfl,Aa qh⟩
 case round=>
  obtain⟨k,hk,rfl,zm,zl,T1,a1,v1,M1,j1,i1,i2,i3,i4,i5,i6,i7⟩:=hrel;by_cases hlt:k<n
  ·have qn:k<ops.length:=by have:=Aa HN;omega
   obtain⟨zf,zh⟩:=Aa za (by omega);obtain⟨pa,pl,pc,fa,fl,fc,y,r0,r1,r2,r3,r4⟩:=Aa qj k qn;have q9:∀o:Nat,wr.cell? ⟨g,o,none⟩=w.cell? ⟨g,o,none⟩:=fun o=>A2 (w:=w) (i2.kept g zh).2;have c0:=(q9 _).trans r1;have c1:=(q9 _).trans r2;have c2:=(q9 _).trans r3;have c3:=(q9 _).trans r4;have HR:=Ab (r0.move (w':=wr) (G':=GA (top+1) Tb wb M1) fun q hq _=>⟨(i2.kept q hq.1).2,(i2.kept q hq.1).1,hq.2⟩);have q5:=Ab (Aa zc _ (List.getElem_mem qn));have qg:=Ab (show Cc d 0 v [] ops=(match gW v1 ops[k] with | .error c=>.error (c,k) | .ok (d',j')=>if Fj d d'=0 then Cc d (k+1) d' (j1++j') (ops.drop (k+1)) else .error (Fj d d',k)) by
    rw[i7,List.drop_eq_getElem_cons qn];rfl)
   obtain⟨o,ho⟩:∃o,o=ops[k]:=⟨_,rfl⟩
   rw[<- ho] at c0 HR q5 qg;have qo:(k:Int)<(n:Int):=by omega
   have HJ:=Ab i1;have HX:=Ab i2;have H3:=Ab i3;have H4:=Ab i4;have H6:=Ab i6;subst zf;clear i1 i2 i3 i4 i5 i6 i7 r0 r1 r2 r3 r4 q9 qh ho;obtain⟨kk,hkk⟩:∃kk:Nat,kk=o.1:=⟨_,rfl⟩
   rw[<- hkk] at c0;have q7:Below wr.heap.size wr (wr.alloc (.cells #[.int .i64 kk,.slice pa pl pc,.slice fa fl fc,.pointer y] 178)):=(D3 _ _).alloc (A6 _) _;have ze:=Ab ((Aa HT).jex (Aa qi) (Aa HX));have qq:=Ab q7;have qe:=Ab (aL (d:=d+2) (B:=200000) ((Aa HJ).bel q7) ((Aa ze).bel q7) (fun q hq=>((Aa HX).kept q (Aa qi q hq)).1) ((Aa H4).mono (by omega) (by omega) (A6 _)) (by omega) (by have:=Aa H3;omega) ((Aa HR).move fun q hq zj=>⟨q7.block q zj,hq⟩) (Aa q5));rw[<- hkk] at qe;clear q7 hkk
   go_wp2_with (fail);refine (Aa qe).mono ?_
   rintro e w2 he;cases hdo:gW v1 o with
   | error c=>
    rw[hdo] at he;obtain⟨rfl,z7,z6,T2,a2,v2,M2,j2,s1,s2⟩:=he;have zg:=aM hdo;have q6:=(Aa HX).trans (JEx.below (Aa qq) (fun q hq=>((Aa HJ).j.low q hq).1) s2);have qk:=Ab (FK (d:=d) (x:=x) (n:=ops.length) (c:=c) (i:=k) s1 q6 (Aa qu));have e1:((c:Int)==0)=false:=by rw[beq_eq_false_iff_ne];omega
    have e2:((c:Int) != 0)=true:=by rw[bne_iff_ne];omega
    have q0:=Ab (show Cc d 0 v [] ops=.error (c,k) by have:=Aa qg;rw[hdo] at this;exact this);clear s1 s2 q6 hdo zg qe
    go_wp2_with (fail);refine (Aa qk).mono ?_
    rintro e w3 ⟨rfl,hp⟩
    go_wp2_with (fail);show Q (.returned (.tuple #[.int .i64 k,.int .i64 c])) _
    rw[Aa HQ,Aa q0];exact Aa hp
   | ok vj=>
    obtain⟨v2,j2⟩:=vj;rw[hdo] at he;obtain⟨rfl,z7,z6,T2,a2,M2,s1,s2⟩:=he;obtain⟨f1,f2,f3⟩:=Zf (Aa H4) (Aa q5) hd hdo;have q6:=(Aa HX).trans (JEx.below (Aa qq) (fun q hq=>((Aa HJ).j.low q hq).1) s2);have qf:=Ab s1;have qv:=Ab q6;have q4:=Ab (PN (dp:=d) s1 ((Aa HT).jex (Aa qi) q6) f1 (by omega));have qt:=Ab (fun q (hq:M2 q)=>(s1.j.low q hq).1);have qm:=Aa qg;rw[hdo] at qm;have qr:=Ab qm;have HF:=Ab (show (∀o∈j1++j2,GC d x 200000 o)/\(j1++j2).length<=2*(k+1) from⟨fun o ho=>(List.mem_append.1 ho).elim (Aa H6 o) (f2 o),by have:=Aa H3;simp;omega⟩);have z8:=Ab f1;clear s1 s2 q6 hdo qe f1 f2 f3 qm
    go_wp2_with (fail);refine (Aa q4).mono ?_
    rintro e w3 ⟨rfl,hb3⟩;have qd:=Ab hb3;clear hb3 q4;obtain⟨m,hm⟩:∃m,m=Fj d v2:=⟨_,rfl⟩
    rw[<- hm];by_cases q8:m=0
    ·have HG:=Ab (show XB D R iv ch Tb Mb wb M d x w v ops (k+1) w3 from by
      obtain⟨g1,g2⟩:=Wj (Aa z8) hd (hm▸q8);refine⟨z7,z6,T2,a2,v2,M2,j1++j2,(Aa qf).bel (Aa qd),(Aa qv).trans ((Aa qf).j.bel (Aa qd)).2,(Aa HF).2,g1.mono (Int.le_refl _) (by omega) (by omega),by omega,(Aa HF).1,?_⟩;have:=Aa qr;rw[this]
      try simp only[]
      rw[if_pos (hm▸q8)])
     clear hm;subst q8
     go_wp2_with (fail);exact⟨⟨k+1,by omega,by go_num,Aa HG⟩,by simp[intOf];omega⟩
    ·have qk:=Ab (FK (d:=d) (x:=x) (n:=ops.length) (c:=m) (i:=k) ((Aa qf).bel (Aa qd)) ((Aa qv).trans ((Aa qf).j.bel (Aa qd)).2) (Aa qu));have e1:((m:Int)==0)=false:=by rw[beq_eq_false_iff_ne];omega
     have e2:((m:Int) != 0)=true:=by rw[bne_iff_ne];omega
     have q0:=Ab (show Cc d 0 v [] ops=.error (m,k) by
      have:=Aa qr;rw[this]
      try simp only[]
      rw[if_neg (hm▸q8),hm])
     clear hm q8
     go_wp2_with (fail);refine (Aa qk).mono ?_
     rintro e w4 ⟨rfl,hp⟩
     go_wp2_with (fail);show Q (.returned (.tuple #[.int .i64 k,.int .i64 m])) _
     rw[Aa HQ,Aa q0];exact Aa hp
  ·have zi:k=ops.length:=by have:=Aa HN;omega
   have HK:=Ab (OD i1.j (by omega));have q0:=Ab (show Cc d 0 v [] ops=.ok (v1,j1) by rw[i7,List.drop_eq_nil_of_le (by omega)];rfl);have HJ:=Ab i1;have HX:=Ab i2;have H4:=Ab i4;have H5:=Ab i5;have H6:=Ab i6;have H3:=Ab i3;have qo:¬ (k:Int)<(n:Int):=by omega
   clear i1 i2 i3 i4 i5 i6 i7 zi qh
   go_wp2_with (fail);refine (Aa HK).mono ?_
   rintro e w2 ⟨rfl,zk,k1,k2,k3⟩;have HP:=Ab (show Ef D R iv ch Tb Mb wb M d x ops.length w (.ok (v1,j1)) (.returned (.tuple #[.int .i64 0,.int .i64 0])) w2 from⟨rfl,zm,zl,T1,a1,M1,wr,zk,Aa HJ,Aa HX,k1,k2,k3,Aa H4,Aa H5,Aa H6,by have:=Aa H3;have:=Aa HN;omega⟩);clear k1 k2 k3
   go_wp2_with (fail);show Q (.returned (.tuple #[.int .i64 0,.int .i64 0])) _
   rw[Aa HQ,Aa q0];exact Aa HP
end
abbrev FN(F:Nat->Prop)(B:Nat):Nat->Prop:=fun k=>(F k/\k<B)\/B<=k
section
variable{w w2:CH}{D R:Nat}{wp:DD}{iv:DD}{ch:Bool}{T a:dS}{v:To}
theorem Jz(h:CX w D R wp (.slice none 0 0) iv ch T a v)(hb:Below w.heap.size w w2):
  ∃q0,wp=.pointer q0/\JS w2 D R q0 (.slice none 0 0) iv ch T (fun k=>k<w.heap.size/\k ∉ fp (top+1) T/\k≠D) w T a v (fun k=>k<w2.heap.size/\k ∉ fp (top+1) T/\k≠D) []:=by
 obtain⟨b,rfl,_⟩:=h.sub.ptr;have hs:=hb.size;refine⟨_,rfl,⟨⟨[],[],h.db.kept (hb.block D h.db.lt),⟨rfl,C2 ⟨rfl,rfl⟩⟩,trivial,fun N w' hA=>?_⟩,by simp[FD],fun g hg=>by simp[FD] at hg,h.tr.bel hb,h.nd,⟨h.nD,fun hm=>hm.2.2 rfl⟩,by grind,by grind⟩,h.move (hb.block D h.db.lt) fun k hk=>hb.block k (h.tr.lt k hk)⟩;obtain⟨T',e,t1,t2,t3⟩:=hA.tree;exact⟨by grind,fun k hm=>(hA.held k ⟨by omega,hm.2⟩).trans (hb.block k hm.1),fun k hm=>hA.low k ⟨by omega,hm.2⟩⟩
theorem CX.of{w':CH}{g:Nat}{T1:dS}{a1:dS}(hd:DB w' D (.pointer (some ⟨R,0,none⟩)) (.slice none 0 0) ch iv)(ht:Ad (top+1) w' (.pointer (some ⟨R,0,none⟩)) T1)(hn:(fp (top+1) T1).Nodup)(hD:D ∉ fp (top+1) T1)(e:er (top+1) T1=er (top+1) (dW R g (.slice [a1] []))):
  ∃wp a,CX w' D R wp (.slice none 0 0) iv ch T1 a (dV top a1):=by
 obtain⟨g',q0,rfl,e2⟩:=ht.er_arr e;obtain⟨a,rfl⟩:∃a,q0=[a]:=List.length_eq_one_iff.1 (by have:=congrArg List.length e2;simpa using this);have e3:er top a=er top a1:=by
  have:=congrArg (fun l:List dS=>l[0]?) e2;simpa using this
 obtain⟨u,hu⟩:∃u,Ad top w' u a:=Ad.at (f:=top) (p:=[0]) ht rfl;exact⟨u,a,hd,ht,⟨g',rfl⟩,hu,by rw[<- E4,e3,E4],hn,hD⟩
variable{F:Nat->Prop}{B:Nat}{d e:Int}{x:To×eL}{w':CH}
theorem Kx(h:CX w D R wp (.slice none 0 0) iv ch T a x.1)(hch:ch=x.2.isSome)(hF:∀k∈fp (top+1) T,F k)(hi:GF w (fun k=>F k/\k≠D/\k ∉ fp (top+1) T) iv x.2)(fD:F D)(hl:(dZ top x.1).length<=80000)(hg:dY d e top 1 x.1)(q0:∀k,F k->k<w.heap.size->k<B)(hB:B<=w.heap.size)(hA:BP (top+1) (.pointer (some ⟨R,0,none⟩)) T (fun k=>k<w.heap.size/\k ∉ fp (top+1) T/\k≠D) (fun k=>k=D) w w')(hd:DB w' D (.pointer (some ⟨R,0,none⟩)) (.slice none 0 0) ch iv):
  Bl w' (FN F B) (.pointer (some ⟨D,0,none⟩)) d e (some x):=by
 obtain⟨T',q6,t1,t2,t3⟩:=hA.tree;obtain⟨g,eT⟩:=h.one;have q7:=h.db.lt;have q8:=h.tr.lt;obtain⟨q9,a',q4⟩:=CX.of hd t1 t2 (fun hm=>(t3 D hm).2 rfl) (by rw[q6,eT]);rw[h.str] at q4;have hin:∀k∈fp (top+1) T',w.heap.size<=k\/k∈fp (top+1) T:=fun k hk=>by
  by_cases h1:w.heap.size<=k
  ·exact C2 h1
  ·refine G1 (Classical.byContradiction fun h2=>(t3 k hk).1 ⟨by omega,h2,fun h3=>(t3 k hk).2 h3⟩)
 refine⟨D,R,q9,rfl,⟨T',a',iv,by rw[<- hch];exact q4,fun k hk=>?_,hi.move fun k hk q5=>?_⟩,C2 ⟨fD,q0 D fD q7⟩,hl,hg⟩
 ·rcases hin k hk with h1|h1
  ·exact G1 (by omega)
  ·exact C2 ⟨hF k h1,q0 k (hF k h1) (q8 k h1)⟩
 ·refine⟨hA.held k ⟨q5,hk.2.2,hk.2.1⟩,C2 ⟨hk.1,q0 k hk.1 q5⟩,hk.2.1,fun hm=>?_⟩;rcases hin k hm with h1|h1
  ·omega
  ·exact hk.2.2 h1
theorem Kw{wk:CH}{q7:Option Addr}{jn q4:DD}{T2 a2:dS}{Mb M':Nat->Prop}{v':To}(hF:∀k∈fp (top+1) T,F k/\k<B)(fD:F D/\D<B)(hB:B<=w.heap.size)(hJ:JS wk D R q7 jn iv ch T Mb w T2 a2 v' M' j)(hd:DB w' D (.pointer (some ⟨R,0,none⟩)) (.slice none 0 0) true q4)(ho:Kc w' (fun k=>GA (top+1) T w M' k\/wk.heap.size<=k) q4 j.reverse)(hk:Av (fun k=>k=D) wk w')(hl:(dZ top v').length<=80000)(hg:dY d e top 1 v')(hp:(Br j.reverse).length<=8796093022208)(q9:∀o∈j.reverse,jK o):
  Bl w' (FN F B) (.pointer (some ⟨D,0,none⟩)) d e (some (v',some j.reverse)):=by
 have h:=hJ.t;have q5:=h.tr.lt;have q6:=hJ.j.up;have q8:=h.nD;have ht:∀k∈fp (top+1) T2,w'.heap[k]? = wk.heap[k]?:=fun k hkk=>hk.block k (q5 k hkk) fun e=>q8 (e▸hkk);have q0:∀k,k∈fp top a2->k∈fp (top+1) T2:=fun k hkk=>by
  obtain⟨g,e⟩:=h.one;rw[e,AP];exact List.mem_cons_of_mem _ (List.mem_append_right _ (by simpa using hkk))
 have hin:∀k,(w.heap.size<=k\/k∈fp (top+1) T)->FN F B k:=fun k hh=>hh.elim (fun h1=>G1 (by omega)) fun h1=>C2 (hF k h1);refine⟨D,R,.pointer q7,rfl,⟨T2,a2,q4,⟨hd,h.tr.move ht,h.one,h.sub.move fun k hkk=>ht k (q0 k hkk),h.str,h.nd,h.nD⟩,fun k hkk=>hin k (q6.2 k hkk),ho.move fun k hkk qb=>⟨rfl,?_⟩,hp,q9⟩,C2 fD,hl,hg⟩;rcases hkk with⟨h1,h2⟩|h1
 ·exact⟨hin k h2,fun e=>hJ.j.dD.2 (e▸h1),(hJ.j.low k h1).2⟩
 ·have h3:=hJ.j.dlt;exact⟨G1 (by have:=q6.1;omega),by omega,fun hm=>by have:=q5 k hm;omega⟩
end
theorem JJ:∀t:By,(Bw t).length<=2*t.length
 | []=>A6 _
 | c::r=>by
  have h1:=JJ r;have h2:(Dd c).length<=2:=by
   unfold Dd
   repeat' split
   all_goals simp
  simp only[Bw,D1,CR,BY] at h1 |-;omega
theorem Hf:∀p:List By,(AE p).length<=2*(p.map fun t=>t.length+1).sum
 | []=>A6 _
 | t::r=>by
  have h1:=Hf r;have h2:=JJ t;simp only[AE,D1,CR,BY,F5,F7] at h1 |-;omega
theorem NS{α:Type}{q:α->Nat}{m:Nat}:∀ {l:List α},(∀a∈l,q a<=m)->(l.map q).sum<=l.length*m
 | [],_=>by simp
 | a::l,h=>by
  have h1:=h a (by simp);have h2:=NS (q:=q) (l:=l) fun b hb=>h b (by simp[hb]);simp only[F5,F7,BY,Nat.add_mul];omega
theorem Po{f m:Nat}{es:List To}(h:∀e∈es,(dZ f e).length<=m):(dZ (f+1) (Af es)).length<=2+es.length*(m+1):=by
 rw[CV];have h1:=E9 (es.map (dZ f));rw[G2] at h1;have h2:(es.map ((fun x=>x.length+1) ∘ dZ f)).sum<=es.length*(m+1):=NS (by grind)
 grind
theorem Hj{f m:Nat}{es:List (Lit×To)}(h:∀k∈fB es,(eX f es k).length<=m):(dZ (f+1) (Ap es)).length<=2+(fB es).length*(m+1):=by
 rw[GX];have h1:=E9 ((eP es).map (eX f es));have hp:(eP es).Perm (fB es):=List.mergeSort_perm _ _;rw[G2] at h1;have h2:((eP es).map ((fun x=>x.length+1) ∘ eX f es)).sum<=(eP es).length*(m+1):=NS (by grind);rw[hp.length_eq] at h2;simp only[BY,CR,D2];have h3:(Am ((eP es).map (eX f es))).length<=(fB es).length*(m+1):=by omega
 exact CD (Dp (Dp h3 _) _) (by omega)
theorem QS{d x:Int}{B:Nat}{v:To}(h:eG d x B v):(dZ (top-2) v).length<=B:=by
 have hd:=h.dd;have g1:=Ci (f:=1000) h.gd (by omega);have e1:=F9 1000 (top-2) 1 v g1 (by grind [top]);have e2:=F9 1000 top 1 v g1 (by grind [top]);have h1:=(BT h.gd).1;have h2:=h.sz
 grind
theorem lG{d x:Int}(h:GC d x 200000 o):(dZ (top-1) (AQ o)).length<=7300000:=by
 obtain⟨h1,h2⟩:=h;have h3:=Hf o.2.1;have hq:=EN (AE o.2.1);have e1:(dZ (top-2) (Ao (AE o.2.1))).length=(Ag (AE o.2.1)).length:=rfl;have hn:(AM o.1).length<=7:=by
  unfold AM
  repeat' split
  all_goals decide
 have q0:=EN (AM o.1);have e2:(dZ (top-2) (Ao (AM o.1))).length=(Ag (AM o.1)).length:=rfl;have q1:(Ag fF).length=4:=rfl;have q2:(Ag AZ).length=6:=rfl;have q3:(Ag AU).length=7:=rfl;unfold AQ;split
 ·refine CD (Hj (f:=top-2) (m:=2400100) fun k hk=>?_) (by simp[fB]);have hk2:k=fF\/k=AZ:=by simpa[fB] using hk
  rw[iP];rcases hk2 with rfl|rfl
  ·have e3:fT [(.string fF,Ao (AM o.1)),(.string AZ,Ao (AE o.2.1))] fF=Ao (AM o.1):=rfl
   grind
  ·have e3:fT [(.string fF,Ao (AM o.1)),(.string AZ,Ao (AE o.2.1))] AZ=Ao (AE o.2.1):=rfl
   grind
 ·rename_i hne;have h4:=QS (h2 hne);refine CD (Hj (f:=top-2) (m:=2400100) fun k hk=>?_) (by simp[fB]);have hk2:k=fF\/k=AZ\/k=AU:=by simpa[fB] using hk
  rw[iP];rcases hk2 with rfl|rfl|rfl
  ·have e3:fT [(.string fF,Ao (AM o.1)),(.string AZ,Ao (AE o.2.1)),(.string AU,o.2.2)] fF=Ao (AM o.1):=rfl
   grind
  ·have e3:fT [(.string fF,Ao (AM o.1)),(.string AZ,Ao (AE o.2.1)),(.string AU,o.2.2)] AZ=Ao (AE o.2.1):=rfl
   grind
  ·have e3:fT [(.string fF,Ao (AM o.1)),(.string AZ,Ao (AE o.2.1)),(.string AU,o.2.2)] AU=o.2.2:=rfl
   grind
theorem Mj{d x:Int}(h:∀o∈j,GC d x 200000 o)(hn:j.length<=1000000):(Br j).length<=8796093022208:=by
 have h1:=Po (f:=top-1) (m:=7300000) (es:=j.map AQ) fun e he=>by
  obtain⟨o,ho,rfl⟩:=G3.1 he;exact lG (h o ho)
 have h2:(Br j).length<=2+(j.map AQ).length*(7300000+1):=h1
 grind
theorem LD{d x:Int}{B:Nat}(h:iE d x B P o)(hd:d<=500)(h1:o.1≠1):eG d x B o.2.2:=
 (TU (o:=(o.1,[],o.2.2)) (P:=0) ⟨h.1,A6 _,h.2.2⟩ hd (by omega)).2 h1
theorem UN{d x:Int}(h:iE d x 200000 P o)(hd:d<=500)(hP:P<=400000):(dZ (top-1) (AQ o)).length<=14500000:=by
 have h1:=h.2.1;have h3:=Hf o.2.1;have hq:=EN (AE o.2.1);have e1:(dZ (top-2) (Ao (AE o.2.1))).length=(Ag (AE o.2.1)).length:=rfl;have hn:(AM o.1).length<=7:=by
  unfold AM
  repeat' split
  all_goals decide
 have q0:=EN (AM o.1);have e2:(dZ (top-2) (Ao (AM o.1))).length=(Ag (AM o.1)).length:=rfl;have q1:(Ag fF).length=4:=rfl;have q2:(Ag AZ).length=6:=rfl;have q3:(Ag AU).length=7:=rfl;unfold AQ;split
 ·refine CD (Hj (f:=top-2) (m:=4800100) fun k hk=>?_) (by simp[fB]);have hk2:k=fF\/k=AZ:=by simpa[fB] using hk
  rw[iP];rcases hk2 with rfl|rfl
  ·have e3:fT [(.string fF,Ao (AM o.1)),(.string AZ,Ao (AE o.2.1))] fF=Ao (AM o.1):=rfl
   grind
  ·have e3:fT [(.string fF,Ao (AM o.1)),(.string AZ,Ao (AE o.2.1))] AZ=Ao (AE o.2.1):=rfl
   grind
 ·rename_i hne;have h4:=QS (LD h hd hne);refine CD (Hj (f:=top-2) (m:=4800100) fun k hk=>?_) (by simp[fB]);have hk2:k=fF\/k=AZ\/k=AU:=by simpa[fB] using hk
  rw[iP];rcases hk2 with rfl|rfl|rfl
  ·have e3:fT [(.string fF,Ao (AM o.1)),(.string AZ,Ao (AE o.2.1)),(.string AU,o.2.2)] fF=Ao (AM o.1):=rfl
   grind
  ·have e3:fT [(.string fF,Ao (AM o.1)),(.string AZ,Ao (AE o.2.1)),(.string AU,o.2.2)] AZ=Ao (AE o.2.1):=rfl
   grind
  ·have e3:fT [(.string fF,Ao (AM o.1)),(.string AZ,Ao (AE o.2.1)),(.string AU,o.2.2)] AU=o.2.2:=rfl
   grind
theorem Ry{d x:Int}(h:∀o∈j,iE d x 200000 P o)(hd:d<=500)(hP:P<=400000)(hn:j.length<=400000):(Br j).length<=8796093022208:=by
 have h1:=Po (f:=top-1) (m:=14500000) (es:=j.map AQ) fun e he=>by
  obtain⟨o,ho,rfl⟩:=G3.1 he;exact UN (h o ho) hd hP
 have h2:(Br j).length<=2+(j.map AQ).length*(14500000+1):=h1
 grind
theorem Zg{d x n:Int}{a b:To}(hd:d<=500)(ha:dY d x top 1 a)(hb:dY d x top 1 b)(hsa:dT top a<=160000)(hsb:dT top b<=160000):(Br (A9 n top [] a b)).length<=8796093022208 /\ ∀o∈A9 n top [] a b,jK o:=by
 have h1:=J5 (n:=n) (s:=[]) ha hb;have h2:=J4 (n:=n) (B:=200000) (P:=400000) (s:=[]) (by omega) ha hb (by omega) (by omega) (by omega) (by show 0+dT top a+dT top b+1001<=400000;omega);refine⟨Ry h2 hd (A6 _) (by omega),fun o ho=>⟨by have:=(h2 o ho).2.1;omega,fun hne=>?_⟩⟩;have h3:=LD (h2 o ho) hd hne;exact⟨d,x,h3.gd,h3.dd⟩
end Go.Proofs.YtdpomdelmdofmaaGreatDoor
