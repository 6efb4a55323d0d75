import Derived.Test.YtdpomdelmdofmaaGreatDoorUnd33
namespace Go.Proofs.YtdpomdelmdofmaaGreatDoor
open Go.Proofs.Tryz
section
set_option maxRecDepth 100000
set_option maxHeartbeats 8000000
open Go.RowKit Go.Maps
attribute [local go_sem] Oper.semAt_some CG
theorem M7{L:Nat}{w:World}{D:Nat}{rv jn iv:Value}{ch:Bool}{Tb T:Sp.A}{Mb M:Nat->Prop}{wb:World}{js:List Sp.Opn}(h:Bm L w D rv jn iv ch Tb Mb wb T M js)(hl:js.length<=1000000000) :
  Calls Tryz.prog 119 #[.pointer (some ⟨D,0,none⟩)] w fun e w'=>e = .returned (.tuple #[]) /\ ∃iv',DB w' D rv (.slice none 0 0) true iv'/\JA w' (fun k=>GA L Tb wb M k\/w.heap.size<=k) iv' js.reverse/\As (fun k=>k=D) w w':=by
 obtain⟨xs,cs,hDB,hown,hjr,hund⟩:=h.ex;obtain⟨hxl,hlm,ao,cap,g,hjn,hg⟩:=JU hown;obtain⟨hcl,hent⟩:=hjr.at
 obtain⟨N,hN⟩:∃N,N=js.length:=⟨_,rfl⟩
 rw[<- hN] at hxl hg hcl hjn hl hlm;subst hjn;have hDl:=hDB.lt;have hM:∀j,M j->j<w.heap.size:=fun j hj=>(h.low j hj).1;obtain⟨c,hc⟩:∃c:Nat->Value,c=fun j=>xs[j]?.getD .nilFunc:=⟨_,rfl⟩
 have hgl:0<N->g<w.heap.size/\g≠D:=fun hp=>⟨(hg hp).2.2.1,fun e=>h.jD (by rw[<- e];exact (hg hp).2.1)⟩
 obtain⟨w1,hw1⟩:∃w1,w1=(w.alloc (.cells #[.pointer (some ⟨D,0,none⟩)] 60)).setCell ⟨D,3,none⟩ (.slice none 0 0):=⟨_,rfl⟩
 obtain⟨wB,hwB⟩:∃wB,wB=w1.alloc (.cells #[.slice ao N cap] 112):=⟨_,rfl⟩
 have hs1:w1.heap.size=w.heap.size+1:=by rw[hw1];simp[World.setCell]
 have hbs:wB.heap.size=w.heap.size+2:=by rw[hwB];simp[hs1]
 have hp1:w1.heap[w.heap.size]? = some (.cells #[.pointer (some ⟨D,0,none⟩)] 60 (0,0)):=by
  rw[hw1];exact (Below.heap_setCell _ _ _ _ (by show w.heap.size≠D;omega)).trans (heap_alloc_new w _)
 have hpB:wB.heap[w.heap.size]? = some (.cells #[.pointer (some ⟨D,0,none⟩)] 60 (0,0)):=by rw[hwB];exact (Below.heap_alloc w1 _ _ (by omega)).trans hp1
 have hbx:wB.heap[w.heap.size+1]? = some (.cells #[.slice ao N cap] 112 (0,0)):=by rw[hwB,<- hs1];exact heap_alloc_new w1 _
 have hold:∀j,j<w.heap.size->j≠D->wB.heap[j]? = w.heap[j]?:=fun j hj hne=>by
  rw[hwB,Below.heap_alloc w1 _ j (by omega),hw1];exact (Below.heap_setCell _ _ _ _ hne).trans (Below.heap_alloc w _ j hj)
 have hd1:DB w1 D rv (.slice ao N cap) ch (.slice none 0 0):=by
  rw[hw1];exact (hDB.kept (w':=w.alloc (.cells #[.pointer (some ⟨D,0,none⟩)] 60)) (Below.heap_alloc w _ D hDl)).set3 _
 have hdB:DB wB D rv (.slice ao N cap) ch (.slice none 0 0):=hd1.kept (by rw[hwB];exact Below.heap_alloc w1 _ D (by omega));obtain⟨B,hB⟩:∃B,B=w.heap.size+2:=⟨_,rfl⟩
 have h0:DQ w wB D g N B rv (.slice ao N cap) ch c 0 wB:=by
  refine⟨rfl,rfl,fun hp=>hold g (hgl hp).1 (hgl hp).2,by rw[hwB,hw1];rfl,by rw[hwB,hw1];rfl,by rw[hwB,hw1];rfl,by omega,hold,_,hdB,⟨rfl,Or.inl ⟨rfl,rfl⟩⟩,fun q hq=>by cases hq⟩
 have HCLO:=Ab (fun (k:Nat) (hk:k<N)=>(show ∃ (fn:Nat) (caps:Array Value) (kk:Int) (pa:Option Addr) (pl pc:Nat) (x:Option Addr),c ((N-1-k)*5) = .func (.func fn) #[] caps/\c ((N-1-k)*5+1) = .int .i64 kk/\c ((N-1-k)*5+2) = .slice pa pl pc/\c ((N-1-k)*5+3) = .slice none 0 0/\c ((N-1-k)*5+4) = .pointer x from by
  have h1:N-1-k<cs.length:=by omega
  obtain⟨kv,pv,fv,vv,q0,q1,q2,q3,q4,o1,_,o2,o3,o4⟩:=hent (N-1-k) (by omega) h1;obtain⟨pa,pl,pc,rfl⟩:∃pa pl pc,pv = .slice pa pl pc:=by
   rcases o2 with⟨_,a,c,e,_⟩|⟨g,o,cap,e,_⟩
   ·exact⟨_,_,_,e⟩
   ·exact⟨_,_,_,e⟩
  obtain⟨x,rfl⟩:∃x,vv = .pointer x:=by
   rcases o4 with⟨_,e⟩|⟨_,hr⟩
   ·exact⟨_,e⟩
   ·obtain⟨b,e,_⟩:=hr;exact⟨_,e⟩
  subst o1;subst o3;refine⟨cs[N-1-k].1,cs[N-1-k].2,(((js[N-1-k]'(by omega)).1:Nat):Int),pa,pl,pc,x,?_,?_,?_,?_,?_⟩
  ·rw[hc];simp only[q0];rfl
  ·rw[hc];simp only[q1];rfl
  ·rw[hc];simp only[q2];rfl
  ·rw[hc];simp only[q3];rfl
  ·rw[hc];simp only[q4];rfl))
 have HOPS:Hid (∀k,k<=N->D6 w (GA L Tb wb M) (FX c N k) (js.reverse.take k)):=by
  intro k;induction k with
  | zero=>intro _;exact trivial
  | succ k ih =>
   intro hk;have h1:N-1-k<cs.length:=by omega
   obtain⟨kv,pv,fv,vv,q0,q1,q2,q3,q4,o1⟩:=hent (N-1-k) (by omega) h1;have e1:js.reverse.take (k+1)=js.reverse.take k++[js[N-1-k]'(by omega)]:=by
    rw[List.take_succ_eq_append_getElem (by simp;omega),List.getElem_reverse];congr 3;omega
   rw[e1,FX,hc];simp only[q1,q2,q3,q4,Option.getD_some];exact D6.snoc o1 (hc▸ih (by omega))
 have HCELL:=Ab (fun (hp:0<N)=>(show ∀j,j<N*5->w.cell? ⟨g,j,none⟩=some (c j) from fun j hj=>by
  rw[(hg hp).2.2.2 j (by omega),hc];simp[List.getElem?_eq_getElem (show j<xs.length by omega)]))
 have HTURN:=Ab (fun (k q cap2:Nat) (W W2 W3:World) (iv:Value) (hl:B+1<W.heap.size) (hI:DQ w wB D g N B rv (.slice ao N cap) ch c k W)=>DQ.turn (iv:=iv) (q:=q) (cap:=cap2) (W2:=W2) (W3:=W3) hB hDl hgl hl hI);have HI:=Ab (fun k=>DQ.apart (w:=w) (wB:=wB) (D:=D) (g:=g) (N:=N) (B:=B) (rv:=rv) (jn:=.slice ao N cap) (ch:=ch) (c:=c) hB hDl (fun hp=>(hgl hp).1) k);have HA:=Ab (fun (E:Array Value) (k X:Nat)=>Mf.apart (w:=w) (wB:=wB) (D:=D) (g:=g) (N:=N) (B:=B) (rv:=rv) (jn:=.slice ao N cap) (ch:=ch) (c:=c) (E:=E) hB hDl (fun hp=>(hgl hp).1) k X);have HAO:=Ab (fun (hp:0<N)=>(hg hp).1);have H0:=Ab h0;have HD0:=Ab hDB;have hDa:=hDB.kept (w':=w.alloc (.cells #[.pointer (some ⟨D,0,none⟩)] 60)) (Below.heap_alloc w _ D hDl);have z1:(w.alloc (.cells #[.pointer (some ⟨D,0,none⟩)] 60)).cell? ⟨D,1,none⟩=some (.slice ao N cap):=hDa.c1;have z3:(w.alloc (.cells #[.pointer (some ⟨D,0,none⟩)] 60)).cell? ⟨D,3,none⟩=some iv:=hDa.c3;have y3:(w.alloc (.cells #[.pointer (some ⟨D,0,none⟩)] 60)).frozen? ⟨D,3,none⟩=false:=by simp[World.frozen?,show _=_ from hDa]
 have HP1:=Ab hp1;have HD1:=Ab hd1;have HPB:=Ab hpB;have HBX:=Ab hbx;have HBS:=Ab hbs;have HBe:=Ab hB;have HWB:=Ab hwB;have HW1:=Ab hw1;have HDL:=Ab hDl;have HNJ:=Ab hN;have HMM:=Ab hM;have HMD:=Ab h.dD.2;clear h hown hjr hund hxl hg hcl hent h0 hp1 hpB hbx hold hd1 hdB hDB hgl hDa hs1 hbs hB hwB hw1 hDl hN hc hM;refine (callsIn_wide (n:=0)).1 (callsIn_of_wp_marks func119 rfl trivial ?_ rfl);simp only[ntmps119,List.size_toArray,List.length_cons,List.length_nil,Nat.reduceAdd,Nat.reduceSub,Array.replicate_succ,Array.replicate_zero,List.push_toArray,List.append_toArray,List.nil_append,List.cons_append]
 gi_wp2_with (refine⟨trivial,rfl,?_⟩;gi_at_call 158;refine (callsIn_wide.2 LO).mono ?_;rintro e w' ⟨rfl,rfl⟩)
 rw[<- Aa HW1,<- Aa HWB];refine II (gf:=204) (lb:=#[.pointer (some ⟨w.heap.size+1,0,none⟩)]) rfl (Hv func204 (by kernel_rfl) rfl) N (fun k=>#[.int .i64 ((N-1-k:Nat):Int),GP c (N-1-k)]) (fun _=>rfl) (DQ w wB D g N B rv (.slice ao N cap) ch c)
  (fun k a' W=>∃X,Mf w wB D g N B rv (.slice ao N cap) ch c #[c ((N-1-k)*5),c ((N-1-k)*5+1),c ((N-1-k)*5+2),c ((N-1-k)*5+3),c ((N-1-k)*5+4)] k X W/\a'={ tmps:=#[.pointer (some ⟨D,0,none⟩),.pointer (some ⟨w.heap.size,0,none⟩),undef,.pointer (some ⟨X,0,none⟩),.pointer (some ⟨D,0,none⟩),.pointer (some ⟨D,0,none⟩),.pointer (some ⟨D,3,none⟩),.pointer (some ⟨D,0,none⟩),.pointer (some ⟨D,0,none⟩),.pointer (some ⟨D,1,none⟩),.slice ao N cap,.func (.func 204) #[] #[.pointer (some ⟨w.heap.size+1,0,none⟩)],.int .i64 ((N-1-k:Nat):Int),GP c (N-1-k),undef,undef,undef,undef,undef,undef,undef,undef,undef,undef,undef,undef,undef,undef,undef,undef,undef],defers:=[] })
  ?hI ?hA (Aa H0) ?hiter ?hassign ?hbody ?hdone
 case hI =>
  rw[Aa HBS,<- Aa HBe];exact Aa HI
 case hA =>
  rw[Aa HBS,<- Aa HBe];rintro k a' W W' ⟨X,hX,e⟩ e1 e2 e3 e4 e5;exact⟨X,Aa HA _ k X W W' hX e1 e2 e3 e4 e5,e⟩
 case hiter =>
  intro l J W hJI hY hJ0;refine NM (cap:=cap) hlm (Aa HAO) (fun k W hj=>?_) hY hJ0;have hi:=hJI k W hj;refine⟨?_,fun j hj2=>?_⟩
  ·have:=hi.box.trans (Aa HBX);simp[World.cell?,this]
  ·have hp:0<N:=by omega
   rw[World.cell?_of_block (w:=w) (hi.row hp)];exact Aa HCELL hp j hj2
 case hassign =>
  intro l k W hk hi hsz;rw[Aa HBS,<- Aa HBe] at hsz |-;have HII:=Ab hi;obtain⟨fn,caps,kk,pa,pl,pc,x,e0,e1,e2,e3,e4⟩:=Aa HCLO k hk;clear hi;unfold GP;rw[e0,e1,e2,e3,e4];clear e0 e1 e2 e3 e4
  gi_wp2
  have hb:=(Below.refl W.heap.size W).alloc (Nat.le_refl _) (.cells #[.func (.func fn) #[] caps,.int .i64 kk,.slice pa pl pc,.slice none 0 0,.pointer x] 230);have hBe:=Aa HBe;have hiI:=Aa HII;obtain⟨iv0,d1,d2,d3⟩:=hiI.doc;have hdl:=d1.lt;exact⟨⟨hb.block B (by omega),hb.block (B+1) (by omega)⟩,⟨Aa HI k W _ hiI hb.os hb.tape hb.output hb.size fun j hj _ _=>hb.block j hj,⟨by omega,by omega,by omega⟩,heap_alloc_new W _,fun q iv1 h1 h2=>by
   have h3:DB W D rv (.slice ao N cap) ch iv1:=h1.kept (hb.block D hdl).symm;obtain rfl:=h3.iv d1;have:=(BP d2 q h2).1;omega⟩⟩
 case hbody =>
  rintro l k a' W hk ⟨X,hX,rfl⟩ hsz -;rw[Aa HBS,<- Aa HBe] at hsz |-;obtain⟨fn,caps,kk,pa,pl,pc,px,e0,e1,e2,e3,e4⟩:=Aa HCLO k hk;have hblk:=hX.blk;rw[e0,e1,e2,e3,e4] at hblk;obtain⟨iv2,hiv,hrow,hfar⟩:=hX.inv.doc;have hdl:=hiv.lt;obtain⟨i0,z0,hi0,hz0,hz1,hz2,hz3⟩:=MR;have hsp:FX c N k++[c ((N-1-k)*5+1),c ((N-1-k)*5+2),c ((N-1-k)*5+3),c ((N-1-k)*5+4)]=FX c N k++[.int .i64 kk,.slice pa pl pc,.slice none 0 0,.pointer px]:=by rw[e1,e2,e3,e4]
  have hT:=fun q cap2 W2 W3=>Aa HTURN k q cap2 W W2 W3 iv2 hsz hX.inv hiv;simp only[hsp] at hT;have HT:=Ab hT;obtain⟨W2,hW2⟩:∃W2,W2=W.drew.alloc (.cells #[.int .i64 kk,.slice pa pl pc,.slice none 0 0,.pointer px] 178):=⟨_,rfl⟩
  have hb2:Below W.heap.size W W2:=by
   rw[hW2];have h1:=(Below.refl W.heap.size W).alloc (Nat.le_refl _) (.cells #[.int .i64 kk,.slice pa pl pc,.slice none 0 0,.pointer px] 178);exact⟨h1.os,h1.tape,h1.output,h1.size,h1.block⟩
  have hw2s:W2.heap.size=W.heap.size+1:=by rw[hW2];simp
  have hn2:W2.heap[W.heap.size]? = some (.cells #[.int .i64 kk,.slice pa pl pc,.slice none 0 0,.pointer px] 178 (0,0)):=by rw[hW2];exact heap_alloc_new W.drew _
  have hPX:W.heap[w.heap.size]? = some (.cells #[.pointer (some ⟨D,0,none⟩)] 60 (0,0)):=hX.inv.bx.trans (Aa HPB);have hlP:w.heap.size<W.heap.size:=(Array.getElem?_eq_some_iff.1 hPX).1;have hlX:X<W.heap.size:=(Array.getElem?_eq_some_iff.1 hblk).1;have hwz:∀j,j<W.heap.size -> ∀z,(wz z W.drew W2).heap[j]? = W.heap[j]?:=fun j hj z=>by
   unfold wz;split
   ·exact hb2.block j hj
   ·rfl
  have hown2:=BG (w':=W2) hrow fun q hq=>hb2.block q (BP hrow q hq).1;have fP:∀z,(wz z W.drew W2).cell? ⟨w.heap.size,0,none⟩=some (.pointer (some ⟨D,0,none⟩)):=fun z=>by
   rw[World.cell?_of_block (w:=W) (hwz _ hlP z)];simp[World.cell?,hPX]
  have fD:∀z,(wz z W.drew W2).cell? ⟨D,3,none⟩=some iv2:=fun z=>by
   rw[World.cell?_of_block (w:=W) (hwz _ hdl z)];exact hiv.c3
  have fX:∀z,(wz z W.drew W2).cell? ⟨X,1,none⟩=some (.int .i64 kk)/\(wz z W.drew W2).cell? ⟨X,2,none⟩=some (.slice pa pl pc)/\(wz z W.drew W2).cell? ⟨X,3,none⟩=some (.slice none 0 0)/\(wz z W.drew W2).cell? ⟨X,4,none⟩=some (.pointer px):=fun z=>by
   refine⟨?_,?_,?_,?_⟩;all_goals (rw[World.cell?_of_block (w:=W) (hwz _ hlX z)];simp[World.cell?,hblk])
  obtain⟨E0,hE0⟩:∃E0,E0=GP c (N-1-k):=⟨_,rfl⟩
  rw[<- hE0];have HW2:=Ab hW2;have HN2:=Ab hn2;have HWS:=Ab hw2s;have HB2:=Ab hb2;have HOWN2:=Ab hown2;have HFP:=Ab fP;have HFD:=Ab fD;have HFX:=Ab fX;have HZ:=Ab (show ∀W3:World,W2.grownBy W3 iv2.ownBlock->W3.cell? ⟨D,3,none⟩=some iv2/\W3.frozen? ⟨D,3,none⟩=false/\W3.cell? ⟨w.heap.size,0,none⟩=some (.pointer (some ⟨D,0,none⟩)) from fun W3 hgr=>by
   have h3:DB W3 D rv (.slice ao N cap) ch iv2:=hiv.kept ((hgr.block D (by omega) (fun e=>by have:=hfar D e.symm;have:=Aa HDL;omega)).trans (hb2.block D hdl));have h4:W3.heap[w.heap.size]? = some (.cells #[.pointer (some ⟨D,0,none⟩)] 60 (0,0)):=((hgr.block _ (by omega) (fun e=>by have:=hfar _ e.symm;omega)).trans (hb2.block _ hlP)).trans hPX;exact⟨h3.c3,by simp[World.frozen?,show W3.heap[D]? = _ from h3],by simp[World.cell?,h4]⟩)
  obtain⟨fi,hfi⟩:∃a b n,iv2 = .slice a b n:=by
   rcases hrow.2 with⟨e,_⟩|⟨_,_,_,e,_⟩
   ·exact⟨_,_,_,e⟩
   ·exact⟨_,_,_,e⟩
  clear hblk hX e0 e1 e2 e3 e4 hiv hrow hfar hT hsp hW2 hb2 hw2s hn2 hPX hwz hown2 fP fD fX hE0
  gi_wp2
  refine wpIn_region_any (by kernel_rfl) ?_;refine WI (A:=fun x y z=>{ tmps:=#[.pointer (some ⟨D,0,none⟩),.pointer (some ⟨w.heap.size,0,none⟩),undef,.pointer (some ⟨X,0,none⟩),.pointer (some ⟨D,0,none⟩),.pointer (some ⟨D,0,none⟩),.pointer (some ⟨D,3,none⟩),.pointer (some ⟨D,0,none⟩),.pointer (some ⟨D,0,none⟩),.pointer (some ⟨D,1,none⟩),.slice ao N cap,.func (.func 204) #[] #[.pointer (some ⟨w.heap.size+1,0,none⟩)],.int .i64 ((N-1-k:Nat):Int),E0,pk x 1 (.pointer (some ⟨D,0,none⟩)),pk y 1 (.pointer (some ⟨D,0,none⟩)),pk y 2 (.pointer (some ⟨D,0,none⟩)),pk y 3 (.pointer (some ⟨D,3,none⟩)),pk y 4 iv2,pk z 1 (.pointer (some ⟨X,1,none⟩)),pk z 2 (.agg #[.int .i64 kk,.slice pa pl pc,.slice none 0 0,.pointer px]),pk z 3 (.slice (some ⟨W.heap.size,0,none⟩) 1 1),undef,undef,undef,undef,undef,undef,undef,undef,undef],defers:=[] }) (W:=fun z=>wz z W.drew W2) (by kernel_rfl) ?h0 ?h1 ?h5 ?hl ?hl0
  case h0 =>
   intro y z K hy hz hk;refine wpOpIn_step rfl (fun K' hK=>?_);have f:=Aa HFP z
   go_simp;exact hK _ _ hk
  case h1 =>
   intro x y z K hx hy hz hk;have f:=Aa HFP z;have f3:=Aa HFD z;have p11:∀v,pk 1 1 v=v:=fun _=>rfl;have p22:∀v,pk 2 2 v=v:=fun _=>rfl;have p33:∀v,pk 3 3 v=v:=fun _=>rfl
   match y,hy with
   | 0,_ =>
    refine wpOpIn_step rfl (fun K' hK=>?_)
    go_simp;exact hK _ _ hk
   | 1,_ =>
    refine wpOpIn_step rfl (fun K' hK=>?_)
    go_simp;exact hK _ _ hk
   | 2,_ =>
    refine wpOpIn_step rfl (fun K' hK=>?_)
    go_simp;exact hK _ _ hk
   | 3,_ =>
    refine wpOpIn_step rfl (fun K' hK=>?_)
    go_simp;exact hK _ _ hk
  case h5 =>
   intro x y z K hx hy hz hk;obtain⟨f1,f2,f3,f4⟩:=Aa HFX z;have p11:∀v,pk 1 1 v=v:=fun _=>rfl;have p22:∀v,pk 2 2 v=v:=fun _=>rfl
   match z,hz with
   | 0,_ =>
    refine wpOpIn_step rfl (fun K' hK=>?_)
    go_simp;exact hK _ _ hk
   | 1,_ =>
    refine wpOpIn_step rfl (fun K' hK=>?_)
    go_simp;exact hK _ _ hk
   | 2,_ =>
    have e2:wz 2 W.drew W2=W.drew:=rfl;have e3:wz 3 W.drew W2=W2:=rfl;simp only[e2] at f1 f2 f3 f4 |-;simp only[Nat.reduceAdd,e3] at hk;rw[Aa HW2] at hk;refine wpOpIn_step rfl (fun K' hK=>?_)
    go_simp;exact hK _ _ hk
  case hl =>
   refine wpAnyIn_ready (rs:=[8]) (by kernel_rfl) (by simp) (AllReadyIn.cons rfl (fun K hK=>?_) AllReadyIn.nil);rw[if_pos (by rfl)];refine Fg (.tmp 18) (.tmp 21) 113 rfl 0 178 i0 z0 4 64 underlying113 hi0 hz0 hz2 hz3 hz1 (by decide) iv2 k (FX c N k) rfl (Aa HOWN2) ⟨W.heap.size,0,none⟩ 1 1 [.int .i64 kk,.slice pa pl pc,.slice none 0 0,.pointer px] rfl rfl (World.news_of_block (cs:=#[.int .i64 kk,.slice pa pl pc,.slice none 0 0,.pointer px]) (t:=178) (fr:=(0,0)) (Aa HN2)) (by simp[Value.oneCell']) (by decide) (by unfold maxLen;omega) (by omega) (Nat.zero_le _) (W.heap.size+1) (Aa HWS) ?_;intro q cap2 W3 ho hgr hat hlt;refine hK _ _ ?_;obtain⟨y1,y2,y3⟩:=Aa HZ W3 hgr;have HEND:=Ab (Aa HT q cap2 W2 W3 (Aa HB2) ho hgr (hat.imp id (fun h=>by omega)));clear hK ho hgr hat hlt;refine wpAnyIn_ready (rs:=[9]) (by kernel_rfl) (by simp) (AllReadyIn.cons rfl (fun K hK=>?_) AllReadyIn.nil)
   go_simp;refine hK _ _ ?_
   clear hK;refine wpAnyIn_ready (rs:=[10]) (by kernel_rfl) (by simp) (AllReadyIn.cons rfl (fun K hK=>?_) AllReadyIn.nil)
   go_simp;refine hK _ _ ?_
   clear hK;refine wpAnyIn_ready (rs:=[11]) (by kernel_rfl) (by simp) (AllReadyIn.cons rfl (fun K hK=>?_) AllReadyIn.nil)
   go_simp;refine hK _ _ ?_
   clear hK;refine wpAnyIn_done (by kernel_rfl) ?_ _;exact⟨rfl,Aa HEND⟩
  case hl0 =>
   intro hL;refine wpAnyIn_ready (rs:=[0,8]) (by kernel_rfl) (by simp) (AllReadyIn.cons rfl (fun K hK=>?_) (AllReadyIn.cons rfl (fun K hK=>?_) AllReadyIn.nil))
   ·have f:=Aa HFP 3
    go_simp;exact hK _ _ hL
   clear hL;rw[if_pos (by rfl)];refine Fg (.tmp 18) (.tmp 21) 113 rfl 0 178 i0 z0 4 64 underlying113 hi0 hz0 hz2 hz3 hz1 (by decide) iv2 k (FX c N k) rfl (Aa HOWN2) ⟨W.heap.size,0,none⟩ 1 1 [.int .i64 kk,.slice pa pl pc,.slice none 0 0,.pointer px] rfl rfl (World.news_of_block (cs:=#[.int .i64 kk,.slice pa pl pc,.slice none 0 0,.pointer px]) (t:=178) (fr:=(0,0)) (Aa HN2)) (by simp[Value.oneCell']) (by decide) (by unfold maxLen;omega) (by omega) (Nat.zero_le _) (W.heap.size+1) (Aa HWS) ?_;intro q cap2 W3 ho hgr hat hlt;refine hK _ _ ?_;obtain⟨y1,y2,y3⟩:=Aa HZ W3 hgr;have HEND:=Ab (Aa HT q cap2 W2 W3 (Aa HB2) ho hgr (hat.imp id (fun h=>by omega)));clear hK ho hgr hat hlt;refine wpAnyIn_ready (rs:=[0]) (by kernel_rfl) (by simp) (AllReadyIn.cons rfl (fun K hK=>?_) AllReadyIn.nil)
   go_simp;refine hK _ _ ?_
   clear hK;refine wpAnyIn_ready (rs:=[9]) (by kernel_rfl) (by simp) (AllReadyIn.cons rfl (fun K hK=>?_) AllReadyIn.nil)
   go_simp;refine hK _ _ ?_
   clear hK;refine wpAnyIn_ready (rs:=[10]) (by kernel_rfl) (by simp) (AllReadyIn.cons rfl (fun K hK=>?_) AllReadyIn.nil)
   go_simp;refine hK _ _ ?_
   clear hK;refine wpAnyIn_ready (rs:=[11]) (by kernel_rfl) (by simp) (AllReadyIn.cons rfl (fun K hK=>?_) AllReadyIn.nil)
   go_simp;refine hK _ _ ?_
   clear hK;refine wpAnyIn_done (by kernel_rfl) ?_ _;exact⟨rfl,Aa HEND⟩
 case hdone =>
  intro W hI hK;rw[Aa HBS,<- Aa HBe] at hK |-;obtain⟨iv2,hiv,hrow,hfar⟩:=hI.doc;have hPX:W.heap[w.heap.size]? = some (.cells #[.pointer (some ⟨D,0,none⟩)] 60 (0,0)):=hI.bx.trans (Aa HPB);have f0:W.cell? ⟨w.heap.size,0,none⟩=some (.pointer (some ⟨D,0,none⟩)):=by simp[World.cell?,hPX]
  have d1:=hiv.c1;have d2:=hiv.c2;have dz:∀o,W.frozen? ⟨D,o,none⟩=false:=fun o=>by simp[World.frozen?,show W.heap[D]? = _ from hiv]
  have hne:w.heap.size≠D:=by have:=Aa HDL;omega
  have HIV:=Ab hiv;have HROW:=Ab hrow;have HFAR:=Ab hfar;have HII:=Ab hI;clear hiv hrow hfar hI hPX
  gi_wp2
  have hBe:=Aa HBe;have hDl:=Aa HDL;have hNJ:=Aa HNJ;have hK2:((W.setCell ⟨D,2,none⟩ (.bool true)).setCell ⟨D,1,none⟩ (.slice none 0 0)).heap[B]? = some (.deferred (some [])):=(Below.heap_setCell _ _ _ _ (by show B≠D;omega)).trans ((Below.heap_setCell _ _ _ _ (by show B≠D;omega)).trans hK);refine⟨by simp,.inl ⟨_,_,rfl,run_takeDeferred hK2,?_⟩⟩;refine⟨_,results_none rfl _ _ _,rfl,iv2,?_,⟨FX c N N,?_,fun q hq=>Or.inr (by have:=(Aa HFAR q hq).1;omega),?_⟩,?_⟩
  ·have h2:DB (W.setCell ⟨D,2,none⟩ (.bool true)) D rv (.slice ao N cap) true iv2:=by
    have h:=Aa HIV;simp only[DB,World.setCell,Array.getElem?_modify];rw[if_pos trivial,show W.heap[D]? = _ from h];rfl
   exact (World.putObj_heap_other (by omega)).trans (h2.set1 _)
  ·rw[List.length_reverse,<- hNJ];refine BG (Aa HROW) fun q hq=>?_;obtain⟨p1,p2,p3⟩:=Aa HFAR q hq;exact (World.putObj_heap_other (by omega)).trans ((Below.heap_setCell _ _ _ _ (by show q≠D;omega)).trans (Below.heap_setCell _ _ _ _ (by show q≠D;omega)))
  ·have h1:=Aa HOPS N (Nat.le_refl _);rw[List.take_of_length_le (by simp;omega)] at h1;refine h1.move fun q hq hql=>⟨?_,Or.inl hq⟩
   have hqD:q≠D:=fun e=>Aa HMD (e▸hq.1);exact (World.putObj_heap_other (by omega)).trans ((Below.heap_setCell _ _ _ _ hqD).trans ((Below.heap_setCell _ _ _ _ hqD).trans ((Aa HII).old q hql hqD)))
  ·refine⟨(Aa HII).os,(Aa HII).tape,(Aa HII).output,?_,fun q hql hqD=>(World.putObj_heap_other (by omega)).trans ((Below.heap_setCell _ _ _ _ hqD).trans ((Below.heap_setCell _ _ _ _ hqD).trans ((Aa HII).old q hql hqD)))⟩;have:=(Aa HII).size;simp[World.putObj,World.setCell];omega
end

section
set_option maxRecDepth 100000
set_option maxHeartbeats 8000000
open Go.RowKit Go.Maps
def Ko(w:World)(G:Nat->Prop)(g:Nat)(ops:List Sp.Op2):Prop:=∀i (h:i<ops.length),∃pa pl pc fa fl fc y,GX w G ops[i] pa pl pc fa fl fc y/\w.cell? ⟨g,i*4,none⟩=some (.int .i64 ops[i].1)/\w.cell? ⟨g,i*4+1,none⟩=some (.slice pa pl pc)/\w.cell? ⟨g,i*4+2,none⟩=some (.slice fa fl fc)/\w.cell? ⟨g,i*4+3,none⟩=some (.pointer y)
theorem GX.move{w w':World}{G G':Nat->Prop}{o:Sp.Op2}{pa fa y:Option Addr}{pl pc fl fc:Nat}(h:GX w G o pa pl pc fa fl fc y)(hk:∀k,G k->k<w.heap.size->w'.heap[k]? = w.heap[k]? /\ G' k):GX w' G' o pa pl pc fa fl fc y :=
 ⟨h.1,h.2.1.move hk,fun h3=>(h.2.2.1 h3).move hk,fun h3=>(h.2.2.2 h3).move hk⟩
def D5(D R:Nat)(iv:Value)(ch:Bool)(Tb:Sp.A)(Mb:Nat->Prop)(wb:World)(M:Nat->Prop)(d x:Int)(n:Nat)(w:World)(r:Except (Nat×Nat) (Sp.V×List Sp.Opn))(e:Ending)(w':World):Prop:=match r with
 | .ok (v,j)=>e = .returned (.tuple #[.int .i64 0,.int .i64 0]) /\ ∃wp jn T a M' wk iv',JS wk D R wp jn iv ch Tb Mb wb T a v M' j/\JEx M M' w wk/\DB w' D (.pointer (some ⟨R,0,none⟩)) (.slice none 0 0) true iv'/\JA w' (fun k=>GA (top+1) Tb wb M' k\/wk.heap.size<=k) iv' j.reverse/\As (fun k=>k=D) wk w'/\Sp.Fit d x 200000 v/\(Sp.can top v).length<=80000/\(∀o∈j,Sp.FF d x 200000 o)/\j.length<=2*n
 | .error (c,i)=>e = .returned (.tuple #[.int .i64 i,.int .i64 c])/\DB w' D (.pointer (some ⟨R,0,none⟩)) (.slice none 0 0) ch iv/\BR (top+1) (.pointer (some ⟨R,0,none⟩)) Tb Mb (fun k=>k=D) wb w'/\w'.os=w.os/\w'.tape=w.tape/\w'.output=w.output/\w.heap.size<=w'.heap.size
structure U3(D R:Nat)(iv:Value)(ch:Bool)(Tb:Sp.A)(Mb:Nat->Prop)(wb:World)(M:Nat->Prop)(d x:Int)(w:World)(v0:Sp.V)(ops:List Sp.Op2)(k:Nat)(W:World):Prop where
 ex:∃wp jn T a v M' j,JS W D R wp jn iv ch Tb Mb wb T a v M' j/\JEx M M' w W/\j.length<=2*k/\Sp.Fit d x 200000 v/\(Sp.can top v).length<=80000/\(∀o∈j,Sp.FF d x 200000 o)/\Sp.Bb d 0 v0 [] ops=Sp.Bb d k v j (ops.drop k)
section
variable{w:World}{D R:Nat}{wp:Option Addr}{jn iv:Value}{ch:Bool}{Tb T a:Sp.A}{Mb M:Nat->Prop}{wb:World}{v:Sp.V}{d x:Int}{js:List Sp.Opn}
theorem Fk{c i n:Nat}{M':Nat->Prop}{W:World}(h:JS W D R wp jn iv ch Tb Mb wb T a v M' js)(hX:JEx M M' w W)(hMb:∀k,Mb k->k≠D/\k<w.heap.size) :
  Calls Tryz.prog 118 #[.pointer (some ⟨D,0,none⟩)] W fun e w'=>e = .returned (.tuple #[])/\Hid (D5 D R iv ch Tb Mb wb M d x n w (.error (c,i)) (.returned (.tuple #[.int .i64 i,.int .i64 c])) w'):=by
 refine (Mp h.j (fun k hk=>⟨(hMb k hk).1,Nat.lt_of_lt_of_le (hMb k hk).2 hX.size⟩)).mono ?_;rintro e w' ⟨rfl,t1,t2,t3,t4,t5,t6⟩;exact⟨rfl,rfl,t1,t2,t3.trans hX.os,t4.trans hX.tape,t5.trans hX.output,Nat.le_trans hX.size t6⟩
theorem Qu{ao:Option Addr}{g cap:Nat}{ops:List Sp.Op2}(h:JS w D R wp jn iv ch Tb Mb wb T a v M [])(hT:Af w)(hM0:∀k,k<NG->M k)(hMb:∀k,Mb k->k≠D/\k<w.heap.size)(hd:d<=100)(hv:Sp.Fit d x 200000 v)(hvl:(Sp.can top v).length<=80000)
  (hgM:0<ops.length->ao=some ⟨g,0,none⟩/\M g) (hops:Ko w (GA (top+1) Tb wb M) g ops) (hok:∀o∈ops,Sp.OpOk (d+2) x 200000 o) (hn:ops.length<=400000000) :
  Calls Tryz.prog 84 #[.pointer (some ⟨D,0,none⟩),.slice ao ops.length cap,.int .i64 d] w (D5 D R iv ch Tb Mb wb M d x ops.length w (Sp.Bb d 0 v [] ops)):=by
 have HI0:Hid (U3 D R iv ch Tb Mb wb M d x w v ops 0 w):=⟨wp,jn,T,a,v,M,[],h,JEx.refl _ _,by simp,hv,hvl,fun o ho=>(by cases ho),rfl⟩
 have HLOW:=Ab (fun k (hk:M k)=>(h.j.low k hk).1);obtain⟨n,hnn⟩:∃n,n=ops.length:=⟨_,rfl⟩
 obtain⟨Q,hQ⟩:∃Q,Q=D5 D R iv ch Tb Mb wb M d x ops.length w (Sp.Bb d 0 v [] ops):=⟨_,rfl⟩
 rw[<- hQ,<- hnn];have hn1:(n:Int)<=400000000:=by omega
 have HT:=Ab hT;have HM0:=Ab hM0;have HMB:=Ab hMb;have HGM:=Ab hgM;have HOPS:=Ab hops;have HOK:=Ab hok;have HN:=Ab hnn;have HQ:=Ab hQ;clear h hT hM0 hMb hv hvl hgM hops hok hn hnn hQ
 go_enter func84,ntmps84
 go_wp2_with (fail)
 go_loopw [13] (fun i wr=>∃k:Nat,k<=n/\i = .int .i64 k/\U3 D R iv ch Tb Mb wb M d x w v ops k wr) (fun i _=>n-(intOf i).toNat)
 case atStart=>exact⟨0,by omega,rfl,Aa HI0⟩
 case round =>
  obtain⟨k,hk,rfl,wp1,jn1,T1,a1,v1,M1,j1,i1,i2,i3,i4,i5,i6,i7⟩:=hrel;by_cases hlt:k<n
  ·have hkl:k<ops.length:=by have:=Aa HN;omega
   obtain⟨hao,hgm⟩:=Aa HGM (by omega);obtain⟨pa,pl,pc,fa,fl,fc,y,r0,r1,r2,r3,r4⟩:=Aa HOPS k hkl;have hmv:∀o:Nat,wr.cell? ⟨g,o,none⟩=w.cell? ⟨g,o,none⟩:=fun o=>World.cell?_of_block (w:=w) (i2.kept g hgm).2;have c0:=(hmv _).trans r1;have c1:=(hmv _).trans r2;have c2:=(hmv _).trans r3;have c3:=(hmv _).trans r4;have HR:=Ab (r0.move (w':=wr) (G':=GA (top+1) Tb wb M1) fun q hq _=>⟨(i2.kept q hq.1).2,(i2.kept q hq.1).1,hq.2⟩);have HOKK:=Ab (Aa HOK _ (List.getElem_mem hkl));have HEQ:=Ab (show Sp.Bb d 0 v [] ops=(match Sp.do1 v1 ops[k] with | .error c=>.error (c,k) | .ok (d',j')=>if Sp.Ex d d'=0 then Sp.Bb d (k+1) d' (j1++j') (ops.drop (k+1)) else .error (Sp.Ex d d',k)) by
    rw[i7,List.drop_eq_getElem_cons hkl];rfl)
   obtain⟨o,ho⟩:∃o,o=ops[k]:=⟨_,rfl⟩
   rw[<- ho] at c0 HR HOKK HEQ;have hlt2:(k:Int)<(n:Int):=by omega
   have HJ:=Ab i1;have HX:=Ab i2;have H3:=Ab i3;have H4:=Ab i4;have H6:=Ab i6;subst hao;clear i1 i2 i3 i4 i5 i6 i7 r0 r1 r2 r3 r4 hmv HI0 ho;obtain⟨kk,hkk⟩:∃kk:Nat,kk=o.1:=⟨_,rfl⟩
   rw[<- hkk] at c0;have hbx:Below wr.heap.size wr (wr.alloc (.cells #[.int .i64 kk,.slice pa pl pc,.slice fa fl fc,.pointer y] 178)):=(Below.refl _ _).alloc (Nat.le_refl _) _;have HTw:=Ab ((Aa HT).jex (Aa HM0) (Aa HX));have HBX:=Ab hbx;have HDO:=Ab (XZ (d:=d+2) (B:=200000) ((Aa HJ).bel hbx) ((Aa HTw).bel hbx) (fun q hq=>((Aa HX).kept q (Aa HM0 q hq)).1) ((Aa H4).mono (by omega) (by omega) (Nat.le_refl _)) (by omega) (by have:=Aa H3;omega) ((Aa HR).move fun q hq hql=>⟨hbx.block q hql,hq⟩) (Aa HOKK));rw[<- hkk] at HDO;clear hbx hkk
   go_wp2_with (fail);refine (Aa HDO).mono ?_
   rintro e w2 he;cases hdo:Sp.do1 v1 o with
   | error c =>
    rw[hdo] at he;obtain⟨rfl,wp2,jn2,T2,a2,v2,M2,j2,s1,s2⟩:=he;have hc0:=Sp.Sr hdo;have hX2:=(Aa HX).trans (JEx.below (Aa HBX) (fun q hq=>((Aa HJ).j.low q hq).1) s2);have HTB:=Ab (Fk (d:=d) (x:=x) (n:=ops.length) (c:=c) (i:=k) s1 hX2 (Aa HMB));have e1:((c:Int) == 0)=false:=by rw[beq_eq_false_iff_ne];omega
    have e2:((c:Int) != 0)=true:=by rw[bne_iff_ne];omega
    have HFIN:=Ab (show Sp.Bb d 0 v [] ops = .error (c,k) by have:=Aa HEQ;rw[hdo] at this;exact this);clear s1 s2 hX2 hdo hc0 HDO
    go_wp2_with (fail);refine (Aa HTB).mono ?_
    rintro e w3 ⟨rfl,hp⟩
    go_wp2_with (fail);show Q (.returned (.tuple #[.int .i64 k,.int .i64 c])) _
    rw[Aa HQ,Aa HFIN];exact Aa hp
   | ok vj =>
    obtain⟨v2,j2⟩:=vj;rw[hdo] at he;obtain⟨rfl,wp2,jn2,T2,a2,M2,s1,s2⟩:=he;obtain⟨f1,f2,f3⟩:=Sp.Iy (Aa H4) (Aa HOKK) hd hdo;have hX2:=(Aa HX).trans (JEx.below (Aa HBX) (fun q hq=>((Aa HJ).j.low q hq).1) s2);have HJ2:=Ab s1;have HX2:=Ab hX2;have HMEAS:=Ab (N8 (dp:=d) s1 ((Aa HT).jex (Aa HM0) hX2) f1 (by omega));have HLOW2:=Ab (fun q (hq:M2 q)=>(s1.j.low q hq).1);have hE2:=Aa HEQ;rw[hdo] at hE2;have HE2:=Ab hE2;have HF:=Ab (show (∀o∈j1++j2,Sp.FF d x 200000 o)/\(j1++j2).length<=2*(k+1) from⟨fun o ho=>(List.mem_append.1 ho).elim (Aa H6 o) (f2 o),by have:=Aa H3;simp;omega⟩);have HF1:=Ab f1;clear s1 s2 hX2 hdo HDO f1 f2 f3 hE2
    go_wp2_with (fail);refine (Aa HMEAS).mono ?_
    rintro e w3 ⟨rfl,hb3⟩;have HB3:=Ab hb3;clear hb3 HMEAS;obtain⟨m,hm⟩:∃m,m=Sp.Ex d v2:=⟨_,rfl⟩
    rw[<- hm];by_cases hm0:m=0
    ·have HG:=Ab (show U3 D R iv ch Tb Mb wb M d x w v ops (k+1) w3 from by
      obtain⟨g1,g2⟩:=Sp.Jg (Aa HF1) hd (hm▸hm0);refine⟨wp2,jn2,T2,a2,v2,M2,j1++j2,(Aa HJ2).bel (Aa HB3),(Aa HX2).trans ((Aa HJ2).j.bel (Aa HB3)).2,(Aa HF).2,g1.mono (Int.le_refl _) (by omega) (by omega),by omega,(Aa HF).1,?_⟩;have:=Aa HE2;rw[this]
      try simp only[]
      rw[if_pos (hm▸hm0)])
     clear hm;subst hm0
     go_wp2_with (fail);exact⟨⟨k+1,by omega,by go_num,Aa HG⟩,by simp[intOf];omega⟩
    ·have HTB:=Ab (Fk (d:=d) (x:=x) (n:=ops.length) (c:=m) (i:=k) ((Aa HJ2).bel (Aa HB3)) ((Aa HX2).trans ((Aa HJ2).j.bel (Aa HB3)).2) (Aa HMB));have e1:((m:Int) == 0)=false:=by rw[beq_eq_false_iff_ne];omega
     have e2:((m:Int) != 0)=true:=by rw[bne_iff_ne];omega
     have HFIN:=Ab (show Sp.Bb d 0 v [] ops = .error (m,k) by
      have:=Aa HE2;rw[this]
      try simp only[]
      rw[if_neg (hm▸hm0),hm])
     clear hm hm0
     go_wp2_with (fail);refine (Aa HTB).mono ?_
     rintro e w4 ⟨rfl,hp⟩
     go_wp2_with (fail);show Q (.returned (.tuple #[.int .i64 k,.int .i64 m])) _
     rw[Aa HQ,Aa HFIN];exact Aa hp
  ·have hkn:k=ops.length:=by have:=Aa HN;omega
   have HK:=Ab (M7 i1.j (by omega));have HFIN:=Ab (show Sp.Bb d 0 v [] ops = .ok (v1,j1) by rw[i7,List.drop_eq_nil_of_le (by omega)];rfl);have HJ:=Ab i1;have HX:=Ab i2;have H4:=Ab i4;have H5:=Ab i5;have H6:=Ab i6;have H3:=Ab i3;have hlt2:¬ (k:Int)<(n:Int):=by omega
   clear i1 i2 i3 i4 i5 i6 i7 hkn HI0
   go_wp2_with (fail);refine (Aa HK).mono ?_
   rintro e w2 ⟨rfl,iv',k1,k2,k3⟩;have HP:=Ab (show D5 D R iv ch Tb Mb wb M d x ops.length w (.ok (v1,j1)) (.returned (.tuple #[.int .i64 0,.int .i64 0])) w2 from⟨rfl,wp1,jn1,T1,a1,M1,wr,iv',Aa HJ,Aa HX,k1,k2,k3,Aa H4,Aa H5,Aa H6,by have:=Aa H3;have:=Aa HN;omega⟩);clear k1 k2 k3
   go_wp2_with (fail);show Q (.returned (.tuple #[.int .i64 0,.int .i64 0])) _
   rw[Aa HQ,Aa HFIN];exact Aa HP
end
end

section
open Go.RowKit Go.Maps
def Dq(w:World)(G:Nat->Prop)(xs:List Value)(ops:List Sp.Op2):Prop:=∀i (h:i<ops.length),∃pa pl pc fa fl fc y,GX w G ops[i] pa pl pc fa fl fc y/\xs[i*4]? = some (.int .i64 ops[i].1)/\xs[i*4+1]? = some (.slice pa pl pc)/\xs[i*4+2]? = some (.slice fa fl fc)/\xs[i*4+3]? = some (.pointer y)
theorem Dq.move{w w':World}{G G':Nat->Prop}{xs:List Value}{ops:List Sp.Op2}(h:Dq w G xs ops)(hk:∀k,G k->k<w.heap.size->w'.heap[k]? = w.heap[k]? /\ G' k):Dq w' G' xs ops:=fun i hi=>by
 obtain⟨pa,pl,pc,fa,fl,fc,y,h1,h2⟩:=h i hi;exact⟨pa,pl,pc,fa,fl,fc,y,h1.move hk,h2⟩
theorem Dq.snoc{w:World}{G:Nat->Prop}{xs:List Value}{ops:List Sp.Op2}{o:Sp.Op2}{pa fa y:Option Addr}{pl pc fl fc:Nat}(h:Dq w G xs ops)(hl:xs.length=ops.length*4)(ho:GX w G o pa pl pc fa fl fc y) :
  Dq w G (xs++[.int .i64 o.1,.slice pa pl pc,.slice fa fl fc,.pointer y]) (ops++[o]):=fun i hi=>by
 by_cases hlt:i<ops.length
 ·obtain⟨pa,pl,pc,fa,fl,fc,y,h1,h2,h3,h4,h5⟩:=h i hlt;rw[List.getElem_append_left hlt];exact⟨pa,pl,pc,fa,fl,fc,y,h1,by rw[List.getElem?_append_left (by omega)];exact h2,by rw[List.getElem?_append_left (by omega)];exact h3,by rw[List.getElem?_append_left (by omega)];exact h4,by rw[List.getElem?_append_left (by omega)];exact h5⟩
 ·obtain rfl:i=ops.length:=by simp at hi;omega
  refine⟨pa,pl,pc,fa,fl,fc,y,?_,?_,?_,?_,?_⟩
  ·simpa using ho
  ·rw[List.getElem?_append_right (by omega)];simp[show ops.length*4-xs.length=0 by omega]
  ·rw[List.getElem?_append_right (by omega)];simp[show ops.length*4+1-xs.length=1 by omega]
  ·rw[List.getElem?_append_right (by omega)];simp[show ops.length*4+2-xs.length=2 by omega]
  ·rw[List.getElem?_append_right (by omega)];simp[show ops.length*4+3-xs.length=3 by omega]
theorem GC{w:World}{B e n:Nat}{v:Value}{xs:List Value}(h:w.ownsRow B e 4 v n xs):∃ao cap g,v = .slice ao n cap/\(0<n->ao=some ⟨g,0,none⟩/\v.ownBlock=some g/\B<=g /\ ∀k (hk:k<xs.length),w.cell? ⟨g,k,none⟩=some xs[k]):=by
 obtain⟨hlen,h⟩:=h;rcases h with⟨h1,h0⟩|⟨g,cap,cur,h1,hB,h3,h4,h5,h6,h7⟩
 ·subst h0;exact⟨none,0,0,h1,fun h=>absurd h (by omega)⟩
 ·refine⟨_,cap,g,h1,fun _=>⟨rfl,by rw[h1];rfl,hB,fun k hk=>?_⟩⟩;have h8:cur.toList[k]? = some xs[k]:=by
   have h9:(cur.toList.take (n*4))[k]? = some xs[k]:=by rw[h7];exact List.getElem?_eq_getElem hk
   rw[List.getElem?_take_of_lt (by omega)] at h9;exact h9
  have h10:cur[k]? = some xs[k]:=by rw[<- h8,Array.getElem?_toList]
  simp[World.cell?,h3,h10]
theorem Dq.mem{w:World}{G:Nat->Prop}{xs:List Value}{ops:List Sp.Op2}(h:Dq w G xs ops){g:Nat}(hc:0<ops.length -> ∀k (hk:k<xs.length),w.cell? ⟨g,k,none⟩=some xs[k]):Ko w G g ops:=fun i hi=>by
 obtain⟨pa,pl,pc,fa,fl,fc,y,h1,h2,h3,h4,h5⟩:=h i hi;have hget:∀k u,xs[k]? = some u->w.cell? ⟨g,k,none⟩=some u:=fun k u hu=>by
  obtain⟨hk,e⟩:=List.getElem?_eq_some_iff.1 hu;rw[hc (by omega) k hk,e]
 exact⟨pa,pl,pc,fa,fl,fc,y,h1,hget _ _ h2,hget _ _ h3,hget _ _ h4,hget _ _ h5⟩
def Dg(F:Nat->Prop)(d:Sp.V)(w:World)(e:Ending)(w':World):Prop:=match Sp.Dv d with
 | .error i=>e = .returned (.tuple #[.slice none 0 0,.int .i64 i,.bool false])
 | .ok l=>∃ao g cap,e = .returned (.tuple #[.slice ao l.length cap,.int .i64 0,.bool true])/\(0<l.length->ao=some ⟨g,0,none⟩/\w.heap.size<=g)/\Ko w' (fun k=>(F k/\k<w.heap.size)\/w.heap.size<=k) g l
structure RdI(F:Nat->Prop)(w1:World)(es:List Sp.V)(k:Nat)(pv:Value)(xs:List Value)(ops:List Sp.Op2)(W:World):Prop where
 len:ops.length=k
 own:W.ownsRow w1.heap.size 178 4 pv k xs
 bel:Below w1.heap.size w1 W
 rops:Dq W (fun q=>((F q/\q<w1.heap.size)\/w1.heap.size<=q)/\pv.ownBlock≠some q) xs ops
 eq:Sp.Cn 0 es=match Sp.Cn k (es.drop k) with
  | .ok l=>.ok (ops++l)
  | .error c=>.error c
theorem RdI.next{F:Nat->Prop}{w1:World}{es:List Sp.V}{k:Nat}{pv pv':Value}{xs:List Value}{ops:List Sp.Op2}{W W4 W5:World}{o:Sp.Op2}{pa fa y:Option Addr}{pl pc fl fc:Nat}(h:RdI F w1 es k pv xs ops W)(hk:k<es.length)(ho:Sp.CF es[k]=some o)
  (hb:Below W.heap.size W W4) (hop:GX W4 (fun q=>((F q/\q<w1.heap.size)/\q<W.heap.size)\/W.heap.size<q) o pa pl pc fa fl fc y)
  (hown:W5.ownsRow w1.heap.size 178 4 pv' (k+1) (xs++[.int .i64 o.1,.slice pa pl pc,.slice fa fl fc,.pointer y])) (hg:W4.grownBy W5 pv.ownBlock) (hnb:pv'.ownBlock=pv.ownBlock\/pv'.ownBlock=some W4.heap.size) :
  RdI F w1 es (k+1) pv' (xs++[.int .i64 o.1,.slice pa pl pc,.slice fa fl fc,.pointer y]) (ops++[o]) W5:=by
 have hsz:=h.bel.size;have hrow:∀g,pv.ownBlock=some g->g<W.heap.size/\w1.heap.size<=g:=fun g hg=>BP h.own g hg;have hne:∀q,q<W4.heap.size->pv.ownBlock≠some q->pv'.ownBlock≠some q:=fun q hq h1 h2=>by
  rcases hnb with e|e
  ·exact h1 (e▸h2)
  ·rw[e] at h2;injection h2 with h2;omega
 refine⟨by simp[h.len],hown,(h.bel.trans (hb.mono hsz)).grown hg (Nat.le_trans hsz hb.size) (fun g hgg=>(hrow g hgg).2),?_,?_⟩
 ·refine Dq.snoc ((h.rops.move (w':=W4) (G':=fun q=>(((F q/\q<w1.heap.size)\/w1.heap.size<=q)/\pv.ownBlock≠some q)) fun q hq hql=>⟨hb.block q hql,hq⟩).move fun q hq hql=>⟨hg.block q hql fun e=>hq.2 e.symm,hq.1,hne q hql hq.2⟩) (by rw[h.own.1,h.len]) ?_;refine hop.move fun q hq hql=>?_;have hr:pv.ownBlock≠some q:=fun e=>by
   obtain⟨a,b⟩:=hrow q e;rcases hq with⟨⟨_,h1⟩,_⟩|h1<;>omega
  refine⟨hg.block q hql fun e=>hr e.symm,?_,hne q hql hr⟩;rcases hq with⟨h1,_⟩|h1
  ·exact Or.inl h1
  ·exact Or.inr (by omega)
 ·rw[h.eq,List.drop_eq_getElem_cons hk,Sp.Cn,ho];simp only;cases Sp.Cn (k+1) (es.drop (k+1))<;>simp
end

section
set_option maxRecDepth 100000
set_option maxHeartbeats 4000000
open Go.RowKit Go.Maps
theorem Ot(w:World)(o:Obj):(w.alloc o).heap.size=w.heap.size+1:=by simp
section
variable{f:Nat}{F:Nat->Prop}{w:World}{v:Value}{d:Sp.V}
theorem PM(h:Rep (f+2) F w v d)(hf:f<=top)(hs:∀es y,d = .slice es y->es.length<=400000000 /\ ∀x∈es,∀k s,Sp.Cc (Sp.AK x k)=some s->s.length<=1048576)(hT:Af w)(hO:GY w) :
  Calls Tryz.prog 83 #[v] w fun e w'=>Dg F d w e w'/\Below w.heap.size w w':=by
 obtain⟨b,rfl,hb,h⟩:=h;have hK:=Ab (RO hO);by_cases harr:∃es,d=Sp.Ar es
 ·obtain⟨es,rfl⟩:=harr;obtain⟨sl,ps,hv,ho,hF,ha⟩:∃sl ps,VB w b 5 n0 [] sl (.map none)/\w.ownsRow 0 80 1 sl ps.length ps/\(∀g,sl.ownBlock=some g->F g)/\Al (Rep (f+1) F w) ps es:=by
   rcases h with⟨k,_,e,h⟩|⟨n,e,h,_⟩|⟨s,e,h⟩|⟨es',sl,ps,e,h1,h2,h3,h4⟩|⟨es',m,n,D,e,_⟩
   ·cases e
   ·cases e
   ·cases e
   ·cases e;exact⟨sl,ps,h1,h2,h3,h4⟩
   ·cases e
  obtain⟨hN4,hstr⟩:=hs es [] rfl;have hal:=ha.length;have c0:=hv.c0;have c5:=hv.c5;have hbl:=hv.lt;obtain⟨N,hN⟩:∃N,N=ps.length:=⟨_,rfl⟩
  obtain⟨ao,cap,g,rfl,hrow⟩:∃ao cap g,sl = .slice ao ps.length cap/\(0<ps.length->ao=some ⟨g,0,none⟩/\g<w.heap.size/\ps.length<=cap /\ ∀k (hk:k<ps.length),w.cell? ⟨g,k,none⟩=some ps[k]):=by
   rcases ho.2 with⟨h1,h0⟩|⟨g',cap,cur,h1,_⟩
   ·exact⟨none,0,0,by rw[h1,h0],fun h=>absurd h (by omega)⟩
   ·refine⟨some ⟨g',0,none⟩,cap,g',h1,fun hp=>?_⟩;obtain⟨g2,cap2,e,a1,a2,a3,a4⟩:=BF ho hp;rw[h1] at e;injection e with e1 e2 e3;injection e1 with e1;injection e1 with e1;subst e1;subst e3;exact⟨rfl,a3,a1,fun k hk=>a4 k hk⟩
  rw[<- hN] at c5 hal;obtain⟨i0,z0,hi,hz,hz1,hz2,hz3⟩:=MR;have HT:=Ab hT;have HA:=Ab ha;have HROW:=Ab hrow;have HSTR:=Ab hstr;have HNN:=Ab hN;have HNE:=Ab hal;have HBL:=Ab hbl;have HC5:=Ab c5;have hN3:(N:Int)<=400000000:=by omega
  obtain⟨Q,hQ⟩:∃Q,Q=Dg F (Sp.Ar es) w:=⟨_,rfl⟩
  rw[<- hQ];have HQ:=Ab hQ;clear h hb hs hT hO hv ho hF ha hN4 hstr hal hbl hN hrow hQ c5
  go_enter func83,ntmps83
  go_wp2_with (fail);refine (Aa hK).mono ?_
  rintro e w1 ⟨m,rfl,hm0,hm,hb1⟩;have c51:=(hb1.cell (p:=⟨b,5,none⟩) (Aa HBL)).trans (Aa HC5);have HB1:=Ab hb1;have HM:=Ab hm;have hml:m<w1.heap.size:=by obtain⟨es,clock,hb,_⟩:=hm;exact (Array.getElem?_eq_some_iff.1 hb).1
  have HML:=Ab hml;have H0:=Ab (show RdI F w1 es 0 (.slice none 0 0) [] [] w1 from⟨rfl,⟨rfl,Or.inl ⟨rfl,rfl⟩⟩,Below.refl _ _,fun i hi=>absurd hi (by simp),by simp only[List.drop_zero];cases Sp.Cn 0 es<;>rfl⟩);clear hK hm0 hm hb1 hml
  go_wp2_with (fail)
  go_loopw [2,21] (fun pv i wr=>∃ (k:Nat) (xs:List Value) (ops:List Sp.Op2),k<=N/\i = .int .i64 k/\Hid (RdI F w1 es k pv xs ops wr)) (fun _ i _=>N-(intOf i).toNat)
  case atStart=>exact⟨0,[],[],by omega,rfl,H0⟩
  case round =>
   obtain⟨k,xs,ops,hk,rfl,HI⟩:=hrel;by_cases hlt:k<N
   ·have hkl:k<ps.length:=by have:=Aa HNN;omega
    have hke:k<es.length:=by have:=Aa HNE;omega
    obtain⟨hao,hgl,hcap,hcell⟩:=Aa HROW (by omega);subst hao;have hbw:Below w.heap.size w wr:=(Aa HB1).trans ((Aa HI).bel.mono (Aa HB1).size);have ck:=(hbw.cell (p:=⟨g,k,none⟩) hgl).trans (hcell k hkl);obtain⟨ek,hek⟩:∃ek,ek=es[k]:=⟨_,rfl⟩
    have hrep:Rep (f+1) (fun q=>F q/\q<w1.heap.size) wr ps[k] ek:=hek▸((Aa HA).get k hkl hke).move fun j hj hjl=>⟨hbw.block j hjl,hj,Nat.lt_of_lt_of_le hjl (Aa HB1).size⟩
    have hTr:Af wr:=(Aa HT).below (hbw.mono (Aa HT).ng);have HITEM:=Ab (Uh hrep hf (Aa HSTR ek (hek▸List.getElem_mem hke)) (Hs (Aa HM) ((Aa HI).bel.block m (Aa HML))) hTr);have hn1:(N:Int)<=(cap:Int):=by have:=Aa HNN;omega
    have hlt2:(k:Int)<(N:Int):=by omega
    have hlt3:(k:Int)<(cap:Int):=by omega
    obtain⟨pk,hpk⟩:∃pk,pk=ps[k]:=⟨_,rfl⟩
    rw[<- hpk] at ck HITEM;have HKL:=Ab hkl;have HKE:=Ab hke;have HEK:=Ab hek;clear hbw hcell hrep hTr hkl hpk hek
    go_wp2_with (fail);refine (Aa HITEM).mono ?_
    rintro e W2 ⟨hend,hb2⟩;have HB2:=Ab hb2;unfold Fe at hend;cases hit:Sp.CF ek with
    | none =>
     rw[hit] at hend;subst hend;have HEND:=Ab (show Sp.Dv (Sp.Ar es) = .error k by
      show Sp.Cn 0 es=_;rw[(Aa HI).eq,List.drop_eq_getElem_cons (Aa HKE),Sp.Cn,<- Aa HEK,hit])
     clear hit hb2;unfold opV
     go_wp2_with (fail)
     go_ret3
     refine⟨?_,(((Aa HB1).trans (((Aa HI).bel.trans ((Aa HB2).mono (Aa HI).bel.size)).mono (Aa HB1).size)).alloc (Nat.le_trans (Aa HB1).size (Nat.le_trans (Aa HI).bel.size (Aa HB2).size)) _)⟩;rw[Aa HQ,Dg,Aa HEND];rfl
    | some o =>
     rw[hit] at hend;obtain⟨pa,pl,pc,fa,fl,fc,y,rfl,hop⟩:=hend;obtain⟨ok,hok⟩:∃ok:Nat,ok=o.1:=⟨_,rfl⟩
     have HOP:=Ab hop;have HIT:=Ab hit;have HOK:=Ab hok;unfold opV;rw[<- hok];have hs2:=hb2.size;have hsw:=(Aa HI).bel.size;have hb4:Below wr.heap.size wr ((W2.alloc (.cells #[.int .i64 ok,.slice pa pl pc,.slice fa fl fc,.pointer y] 178)).alloc (.cells #[.int .i64 ok,.slice pa pl pc,.slice fa fl fc,.pointer y] 178)):=(hb2.alloc hs2 _).alloc (by simp;omega) _;have HB4:=Ab hb4;have HOWN:=Ab ((Aa HI).own.kept ⟨hb4.os,hb4.tape,hb4.output,hb4.size,fun j hj _=>hb4.block j hj⟩ (row:=none) (Classical.em _));have HS2:=Ab hs2;have HSW:=Ab hsw;have hk64:((k:Nat)+1)*64<=140737488355328:=by omega
     have hkm:k+1<=maxLen:=by unfold maxLen;omega
     clear hit hb2 hop hok hb4
     go_wp2_with (first
      | (at_builtin;refine wpList_append_own_at _ rfl _ _ 113 rfl w1.heap.size 178 i0 z0 4 64 underlying113 hi hz hz2 hz3 hz1 (by decide) _ _ _ rfl (Aa HOWN) ⟨W2.heap.size+1,0,none⟩ 1 1 [.int .i64 ok,.slice pa pl pc,.slice fa fl fc,.pointer y] rfl rfl (World.news_of_block (cs:=#[.int .i64 ok,.slice pa pl pc,.slice fa fl fc,.pointer y]) (t:=178) (fr:=(0,0)) (by have:=heap_alloc_new (W2.alloc (.cells #[.int .i64 ok,.slice pa pl pc,.slice fa fl fc,.pointer y] 178)) (.cells #[.int .i64 ok,.slice pa pl pc,.slice fa fl fc,.pointer y] 178);rw[Ot] at this;exact this)) (by intro u hu;simp at hu;rcases hu with rfl|rfl|rfl|rfl<;>rfl) hkm hk64 (by simp;omega) ?_;intro v' w5 hown' hgrow hnil hloc))
     have hbb:=Below.refl W2.heap.size W2;have hb9:=(hbb.alloc (Nat.le_refl _) (.cells #[.int .i64 ok,.slice pa pl pc,.slice fa fl fc,.pointer y] 178)).alloc (by simp) (.cells #[.int .i64 ok,.slice pa pl pc,.slice fa fl fc,.pointer y] 178);rw[Aa HOK] at hown' hgrow hb9 hloc;have HB5:=Aa HB4;rw[Aa HOK] at HB5;exact⟨⟨k+1,_,_,by omega,by go_num,RdI.next (Aa HI) (Aa HKE) (by rw[<- Aa HEK];exact Aa HIT) HB5 ((Aa HOP).move fun j hj hjl=>⟨hb9.block j hjl,hj⟩) hown' hgrow hloc⟩,by simp[intOf];omega⟩
   ·obtain rfl:k=N:=by omega
    have hI:=Aa HI;have hlen:k=es.length:=by have:=Aa HNE;omega
    have heq:Sp.Dv (Sp.Ar es) = .ok ops:=by
     show Sp.Cn 0 es=_;rw[hI.eq,List.drop_eq_nil_of_le (by omega)];simp[Sp.Cn]
    obtain⟨ao2,cap2,g2,rfl,hc4⟩:=GC hI.own;have hfin:Q (.returned (.tuple #[.slice ao2 k cap2,.int .i64 0,.bool true])) wr:=by
     rw[Aa HQ,Dg,heq];refine⟨ao2,g2,cap2,by rw[hI.len],fun hp=>?_,?_⟩
     ·obtain⟨a1,a2,a3,a4⟩:=hc4 (by rw[<- hI.len];exact hp);exact⟨a1,Nat.le_trans (Aa HB1).size a3⟩
     ·refine Dq.mem (hI.rops.move fun j hj hjl=>⟨rfl,?_⟩) fun hp=>(hc4 (by rw[<- hI.len];exact hp)).2.2.2;rcases hj.1 with⟨h1,h2⟩|h1
      ·by_cases h3:j<w.heap.size
       ·exact Or.inl ⟨h1,h3⟩
       ·exact Or.inr (by omega)
      ·exact Or.inr (Nat.le_trans (Aa HB1).size h1)
    have HFIN:=Ab hfin;have HBW:=Ab ((Aa HB1).trans (hI.bel.mono (Aa HB1).size));have hlt2:¬ (k:Int)<(k:Int):=by omega
    clear hI hlen heq hc4 hfin
    go_wp2_with (fail)
    go_ret3
    exact⟨Aa HFIN,Aa HBW⟩
 ·obtain⟨x,n,s,sl,mv,hv,hx⟩:∃ (x:Nat) (n:Sp.Nm) (s:Sp.By) (sl mv:Value),VB w b x n s sl mv/\x≠5:=by
   rcases h with⟨k,hk,rfl,h⟩|⟨n,rfl,h,_⟩|⟨s,rfl,h⟩|⟨es,sl,ps,rfl,h,_⟩|⟨es,m,n,D,rfl,h,_⟩
   ·exact⟨k,_,_,_,_,h,by omega⟩
   ·exact⟨3,_,_,_,_,h,by omega⟩
   ·exact⟨4,_,_,_,_,h,by omega⟩
   ·exact absurd ⟨es,rfl⟩ harr
   ·exact⟨6,_,_,_,_,h,by omega⟩
  have hpr:Sp.Dv d = .error 0:=by
   unfold Sp.Dv;split
   ·rename_i es y
    exfalso
    rcases h with⟨k,_,e,h⟩|⟨n,e,h,_⟩|⟨s,e,h⟩|⟨es',sl,ps,e,_⟩|⟨es',m,n,D,e,_⟩
    ·cases e
    ·cases e
    ·cases e
    ·exact harr ⟨es',e⟩
    ·cases e
   ·rfl
  have c0:=hv.c0;have e1:((x:Int) != 5)=true:=by rw[bne_iff_ne];omega
  have HOUT:=Ab (show Dg F d w (.returned (.tuple #[.slice none 0 0,.int .i64 0,.bool false])) w by unfold Dg;rw[hpr];rfl);clear h hb harr hv hpr hs hT hO hK hx
  go_enter func83,ntmps83
  go_wp2_with (fail)
  go_ret3
  exact⟨Aa HOUT,Below.refl _ _⟩
end
end

section
open Go.RowKit Go.Maps
abbrev FN(F:Nat->Prop)(B:Nat):Nat->Prop:=fun k=>(F k/\k<B)\/B<=k
section
variable{w w2:World}{D R:Nat}{wp:Value}{iv:Value}{ch:Bool}{T a:Sp.A}{v:Sp.V}
theorem IK(h:C8 w D R wp (.slice none 0 0) iv ch T a v)(hb:Below w.heap.size w w2) :
  ∃wp0,wp = .pointer wp0/\JS w2 D R wp0 (.slice none 0 0) iv ch T (fun k=>k<w.heap.size/\k ∉ Sp.fp (top+1) T/\k≠D) w T a v (fun k=>k<w2.heap.size/\k ∉ Sp.fp (top+1) T/\k≠D) []:=by
 obtain⟨b,rfl,_⟩:=h.sub.ptr;have hs:=hb.size;refine⟨_,rfl,⟨⟨[],[],h.db.kept (hb.block D h.db.lt),⟨rfl,Or.inl ⟨rfl,rfl⟩⟩,trivial,fun N w' hA=>?_⟩,by simp[Value.ownBlock],fun g hg=>by simp[Value.ownBlock] at hg,h.tr.bel hb,h.nd,⟨h.nD,fun hm=>hm.2.2 rfl⟩,fun k hk=>⟨hk.1,hk.2.1⟩,⟨hs,fun k hk=>Or.inr hk⟩⟩,h.move (hb.block D h.db.lt) fun k hk=>hb.block k (h.tr.lt k hk)⟩;obtain⟨T',e,t1,t2,t3⟩:=hA.tree;exact⟨⟨T',e,t1,t2,fun k hk=>⟨fun hm=>(t3 k hk).1 ⟨by omega,hm.2⟩,(t3 k hk).2⟩⟩,fun k hm=>(hA.held k ⟨by omega,hm.2⟩).trans (hb.block k hm.1),fun k hm=>hA.low k ⟨by omega,hm.2⟩⟩
theorem C8.of{w':World}{g:Nat}{T1:Sp.A}{a1:Sp.A}(hd:DB w' D (.pointer (some ⟨R,0,none⟩)) (.slice none 0 0) ch iv)(ht:Ae (top+1) w' (.pointer (some ⟨R,0,none⟩)) T1)(hn:(Sp.fp (top+1) T1).Nodup)(hD:D ∉ Sp.fp (top+1) T1)(e:Sp.er (top+1) T1=Sp.er (top+1) (Sp.nd R g (.slice [a1] []))) :
  ∃wp a,C8 w' D R wp (.slice none 0 0) iv ch T1 a (Sp.str top a1):=by
 obtain⟨g',al',rfl,e2⟩:=ht.er_arr e;obtain⟨a,rfl⟩:∃a,al'=[a]:=List.length_eq_one_iff.1 (by have:=congrArg List.length e2;simpa using this);have e3:Sp.er top a=Sp.er top a1:=by
  have:=congrArg (fun l:List Sp.A=>l[0]?) e2;simpa using this
 obtain⟨u,hu⟩:∃u,Ae top w' u a:=Ae.at (f:=top) (p:=[0]) ht rfl;exact⟨u,a,hd,ht,⟨g',rfl⟩,hu,by rw[<- Sp.EP,e3,Sp.EP],hn,hD⟩
variable{F:Nat->Prop}{B:Nat}{d e:Int}{x:Sp.V×Sp.Inv}{w':World}
theorem JR(h:C8 w D R wp (.slice none 0 0) iv ch T a x.1)(hch:ch=x.2.isSome)(hF:∀k∈Sp.fp (top+1) T,F k)(hi:Ic w (fun k=>F k/\k≠D/\k ∉ Sp.fp (top+1) T) iv x.2)(fD:F D)(hl:(Sp.can top x.1).length<=80000)(hg:Sp.gd d e top 1 x.1)(hFB:∀k,F k->k<w.heap.size->k<B)(hB:B<=w.heap.size)
  (hA:BR (top+1) (.pointer (some ⟨R,0,none⟩)) T (fun k=>k<w.heap.size/\k ∉ Sp.fp (top+1) T/\k≠D) (fun k=>k=D) w w') (hd:DB w' D (.pointer (some ⟨R,0,none⟩)) (.slice none 0 0) ch iv) :
  Bn w' (FN F B) (.pointer (some ⟨D,0,none⟩)) d e (some x):=by
 obtain⟨T',er',t1,t2,t3⟩:=hA.tree;obtain⟨g,eT⟩:=h.one;have hDl:=h.db.lt;have hTl:=h.tr.lt;obtain⟨wp',a',hd'⟩:=C8.of hd t1 t2 (fun hm=>(t3 D hm).2 rfl) (by rw[er',eT]);rw[h.str] at hd';have hin:∀k∈Sp.fp (top+1) T',w.heap.size<=k\/k∈Sp.fp (top+1) T:=fun k hk=>by
  by_cases h1:w.heap.size<=k
  ·exact Or.inl h1
  ·refine Or.inr (Classical.byContradiction fun h2=>(t3 k hk).1 ⟨by omega,h2,fun h3=>(t3 k hk).2 h3⟩)
 refine⟨D,R,wp',rfl,⟨T',a',iv,by rw[<- hch];exact hd',fun k hk=>?_,hi.move fun k hk hkl=>?_⟩,Or.inl ⟨fD,hFB D fD hDl⟩,hl,hg⟩
 ·rcases hin k hk with h1|h1
  ·exact Or.inr (by omega)
  ·exact Or.inl ⟨hF k h1,hFB k (hF k h1) (hTl k h1)⟩
 ·refine⟨hA.held k ⟨hkl,hk.2.2,hk.2.1⟩,Or.inl ⟨hk.1,hFB k hk.1 hkl⟩,hk.2.1,fun hm=>?_⟩;rcases hin k hm with h1|h1
  ·omega
  ·exact hk.2.2 h1
theorem JQ{wk:World}{wp':Option Addr}{jn iv':Value}{T2 a2:Sp.A}{Mb M':Nat->Prop}{j:List Sp.Opn}{v':Sp.V}(hF:∀k∈Sp.fp (top+1) T,F k/\k<B)(fD:F D/\D<B)(hB:B<=w.heap.size)
  (hJ:JS wk D R wp' jn iv ch T Mb w T2 a2 v' M' j) (hd:DB w' D (.pointer (some ⟨R,0,none⟩)) (.slice none 0 0) true iv') (ho:JA w' (fun k=>GA (top+1) T w M' k\/wk.heap.size<=k) iv' j.reverse) (hk:As (fun k=>k=D) wk w')
  (hl:(Sp.can top v').length<=80000) (hg:Sp.gd d e top 1 v') (hp:(Sp.BW j.reverse).length<=8796093022208) (hok:∀o∈j.reverse,Sp.IOk o) :
  Bn w' (FN F B) (.pointer (some ⟨D,0,none⟩)) d e (some (v',some j.reverse)):=by
 have h:=hJ.t;have hTl:=h.tr.lt;have hup:=hJ.j.up;have hnD:=h.nD;have ht:∀k∈Sp.fp (top+1) T2,w'.heap[k]? = wk.heap[k]?:=fun k hkk=>hk.block k (hTl k hkk) fun e=>hnD (e▸hkk);have hsub:∀k,k∈Sp.fp top a2->k∈Sp.fp (top+1) T2:=fun k hkk=>by
  obtain⟨g,e⟩:=h.one;rw[e,Sp.AQ];exact List.mem_cons_of_mem _ (List.mem_append_right _ (by simpa using hkk))
 have hin:∀k,(w.heap.size<=k\/k∈Sp.fp (top+1) T)->FN F B k:=fun k hh=>hh.elim (fun h1=>Or.inr (by omega)) fun h1=>Or.inl (hF k h1);refine⟨D,R,.pointer wp',rfl,⟨T2,a2,iv',⟨hd,h.tr.move ht,h.one,h.sub.move fun k hkk=>ht k (hsub k hkk),h.str,h.nd,h.nD⟩,fun k hkk=>hin k (hup.2 k hkk),ho.move fun k hkk hkl=>⟨rfl,?_⟩,hp,hok⟩,Or.inl fD,hl,hg⟩;rcases hkk with⟨h1,h2⟩|h1
 ·exact⟨hin k h2,fun e=>hJ.j.dD.2 (e▸h1),(hJ.j.low k h1).2⟩
 ·have h3:=hJ.j.dlt;exact⟨Or.inr (by have:=hup.1;omega),by omega,fun hm=>by have:=hTl k hm;omega⟩
end
end

section
open Go.RowKit Go.Maps
namespace Sp
theorem IZ:∀t:By,(Bq t).length<=2*t.length
 | []=>Nat.le_refl _
 | c::r=>by
  have h1:=IZ r;have h2:(Da c).length<=2:=by
   unfold Da
   repeat' split
   all_goals simp
  simp only[Bq,List.flatMap_cons,List.length_append,List.length_cons] at h1 |-;omega
theorem Jc:∀p:List By,(AY p).length<=2*(p.map fun t=>t.length+1).sum
 | []=>Nat.le_refl _
 | t::r=>by
  have h1:=Jc r;have h2:=IZ t;simp only[AY,List.flatMap_cons,List.length_append,List.length_cons,List.map_cons,List.sum_cons] at h1 |-;omega
theorem Ms{α:Type}{q:α->Nat}{m:Nat}:∀ {l:List α},(∀a∈l,q a<=m)->(l.map q).sum<=l.length*m
 | [],_=>by simp
 | a::l,h=>by
  have h1:=h a (by simp);have h2:=Ms (q:=q) (l:=l) fun b hb=>h b (by simp[hb]);simp only[List.map_cons,List.sum_cons,List.length_cons,Nat.add_mul];omega
theorem UY{f m:Nat}{es:List V}(h:∀e∈es,(can f e).length<=m):(can (f+1) (Ar es)).length<=2+es.length*(m+1):=by
 rw[CP];have h1:=ET (es.map (can f));rw[List.map_map] at h1;have h2:(es.map ((fun x=>x.length+1) ∘ can f)).sum<=es.length*(m+1):=Ms fun e he=>by have:=h e he;simp only[Function.comp];omega
 simp only[List.length_cons,List.length_append,List.length_nil];omega
theorem MU{f m:Nat}{es:List (Lit×V)}(h:∀k∈keys es,(item f es k).length<=m):(can (f+1) (Av es)).length<=2+(keys es).length*(m+1):=by
 rw[IB];have h1:=ET ((skeys es).map (item f es));have hp:(skeys es).Perm (keys es):=List.mergeSort_perm _ _;rw[List.map_map] at h1;have h2:((skeys es).map ((fun x=>x.length+1) ∘ item f es)).sum<=(skeys es).length*(m+1):=Ms fun k hk=>by have:=h k (hp.mem_iff.1 hk);simp only[Function.comp];omega
 rw[hp.length_eq] at h2;simp only[List.length_cons,List.length_append,List.length_nil];have h3:(Ai ((skeys es).map (item f es))).length<=(keys es).length*(m+1):=by omega
 exact Nat.le_trans (Nat.add_le_add_right (Nat.add_le_add_right h3 _) _) (by omega)
theorem Wz{d x:Int}{B:Nat}{v:V}(h:Fit d x B v):(can (top-2) v).length<=B:=by
 have hd:=h.dd;have g1:=Cj (f:=1000) h.gd (by omega);have e1:=FD 1000 (top-2) 1 v g1 (by unfold top;omega);have e2:=FD 1000 top 1 v g1 (by unfold top;omega);have h1:=(CO h.gd).1;have h2:=h.sz;rw[e1,<- e2];omega
theorem Jt{d x:Int}{o:Opn}(h:FF d x 200000 o):(can (top-1) (A0 o)).length<=7300000:=by
 obtain⟨h1,h2⟩:=h;have h3:=Jc o.2.1;have hq:=Gm (AY o.2.1);have e1:(can (top-2) (Az (AY o.2.1))).length=(Ah (AY o.2.1)).length:=rfl;have hn:(BD o.1).length<=7:=by
  unfold BD
  repeat' split
  all_goals decide
 have hn2:=Gm (BD o.1);have e2:(can (top-2) (Az (BD o.1))).length=(Ah (BD o.1)).length:=rfl;have q1:(Ah op_).length=4:=rfl;have q2:(Ah BE).length=6:=rfl;have q3:(Ah Bg).length=7:=rfl;unfold A0;split
 ·refine Nat.le_trans (MU (f:=top-2) (m:=2400100) fun k hk=>?_) (by simp[keys]);have hk2:k=op_\/k=BE:=by simpa[keys] using hk
  rw[item_len];rcases hk2 with rfl|rfl
  ·have e3:look [(.string op_,Az (BD o.1)),(.string BE,Az (AY o.2.1))] op_=Az (BD o.1):=rfl;rw[e3,q1];omega
  ·have e3:look [(.string op_,Az (BD o.1)),(.string BE,Az (AY o.2.1))] BE=Az (AY o.2.1):=rfl;rw[e3,q2];omega
 ·rename_i hne;have h4:=Wz (h2 hne);refine Nat.le_trans (MU (f:=top-2) (m:=2400100) fun k hk=>?_) (by simp[keys]);have hk2:k=op_\/k=BE\/k=Bg:=by simpa[keys] using hk
  rw[item_len];rcases hk2 with rfl|rfl|rfl
  ·have e3:look [(.string op_,Az (BD o.1)),(.string BE,Az (AY o.2.1)),(.string Bg,o.2.2)] op_=Az (BD o.1):=rfl;rw[e3,q1];omega
  ·have e3:look [(.string op_,Az (BD o.1)),(.string BE,Az (AY o.2.1)),(.string Bg,o.2.2)] BE=Az (AY o.2.1):=rfl;rw[e3,q2];omega
  ·have e3:look [(.string op_,Az (BD o.1)),(.string BE,Az (AY o.2.1)),(.string Bg,o.2.2)] Bg=o.2.2:=rfl;rw[e3,q3];omega
theorem La{d x:Int}{j:List Opn}(h:∀o∈j,FF d x 200000 o)(hn:j.length<=1000000):(BW j).length<=8796093022208:=by
 have h1:=UY (f:=top-1) (m:=7300000) (es:=j.map A0) fun e he=>by
  obtain⟨o,ho,rfl⟩:=List.mem_map.1 he;exact Jt (h o ho)
 have h2:(BW j).length<=2+(j.map A0).length*(7300000+1):=h1;rw[List.length_map] at h2;have h3:j.length*(7300000+1)<=1000000*7300001:=Nat.mul_le_mul_right _ hn;omega
end Sp
end
end Go.Proofs.YtdpomdelmdofmaaGreatDoor
