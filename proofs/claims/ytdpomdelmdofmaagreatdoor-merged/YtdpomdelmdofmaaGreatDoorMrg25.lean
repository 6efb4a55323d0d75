/-
  slices.Backward over the journal: what its function does to any loop; takeBack.
-/
import Derived.Test.YtdpomdelmdofmaaGreatDoorMrg22
import Derived.Test.YtdpomdelmdofmaaGreatDoorMrg24
import Derived.Test.YtdpomdelmdofmaaGreatDoorMrg16
namespace Go.Proofs.YtdpomdelmdofmaaGreatDoor
section
set_option maxRecDepth 100000
set_option maxHeartbeats 4000000
open Go.RowKit Go.Maps
attribute [local go_sem] Oper.semAt_some
def entV (c:Nat→Value) (i:Nat):Value:=.agg #[c (i*5),c (i*5+1),c (i*5+2),c (i*5+3),c (i*5+4)]
theorem back1_in {l Bs g N cap:Nat} {ao:Option Addr} {c:Nat→Value} {J:Nat→World→Prop} {W:World} (hN:N≤maxLen) (hao:0<N→ao=some ⟨g,0,none⟩)
  (hJ:∀k W,J k W→W.cell? ⟨Bs,0,none⟩=some (.slice ao N cap) ∧ ∀j,j<N*5→W.cell? ⟨g,j,none⟩=some (c j))
  (hY:∀k W,k<N→J k W→YieldAt Fence.wide 0 Tryz.prog l #[.int .i64 ((N-1-k:Nat):Int),entV c (N-1-k)] W fun e W'=>e = .returned (.bool true)∧J (k+1) W') (h0:J 0 W) :
  CallsIn Fence.wide 0 Tryz.prog 204 (#[.func (.yield l) #[] #[]] ++ #[.pointer (some ⟨Bs,0,none⟩)]) W fun e W'=>(∃v,e = .returned v)∧J N W':=by
 have HJ:=hide hJ
 have HY:=hide hY
 have HAO:=hide hao
 have hb0:=(hJ 0 W h0).1
 have H0:=hide h0
 unfold maxLen at hN
 have w1:IntKind.i64.wrap ((N:Int)-1)=(N:Int)-1:=by rw[IntKind.wrap_i64];omega
 clear hJ hY h0 hao
 refine callsIn_of_wp Tryz.func204 rfl trivial ?_ rfl
 simp only[Tryz.ntmps204,List.size_toArray,List.length_cons,List.length_nil,Nat.reduceAdd,Nat.reduceSub,Array.replicate_succ,Array.replicate_zero,List.push_toArray,List.append_toArray,List.nil_append,List.cons_append]
 gi_wp2
 gi_loopw [3] (fun i wr=>∃r:Nat,r≤N∧i = .int .i64 ((r:Int)-1)∧J (N-r) wr) (fun i _=>((intOf i)+1).toNat)
 case atStart=>exact⟨N,Nat.le_refl _,rfl,by rw[Nat.sub_self];exact unhide H0⟩
 case round =>
  obtain⟨r,hr,rfl,hj⟩:=hrel
  cases r with
  | zero =>
   have HJ2:=hide hj
   clear hj
   gi_wp2
   go_end0
   exact⟨⟨_,rfl⟩,unhide HJ2⟩
  | succ i =>
   obtain⟨hb,hc⟩:=unhide HJ _ _ hj
   obtain rfl:=unhide HAO (by omega)
   have e1:(((i+1:Nat):Int)-1)=(i:Int):=by omega
   have hk:N-(i+1)<N:=by omega
   have e2:N-1-(N-(i+1))=i:=by omega
   have e3:N-(i+1)+1=N-i:=by omega
   have c0:=hc (i*5) (by omega)
   have c1:=hc (i*5+1) (by omega)
   have c2:=hc (i*5+2) (by omega)
   have c3:=hc (i*5+3) (by omega)
   have c4:=hc (i*5+4) (by omega)
   obtain⟨fn,tmps,assign,body,hy,hR⟩:=unhide HY _ _ hk hj
   rw[e2,entV] at hy
   rw[e3] at hR
   have HR:=hide hR
   have hlt:(i:Int)<(N:Int):=by omega
   have hge:(0:Int)≤(i:Int):=by omega
   have w2:IntKind.i64.wrap ((i:Int)-1)=(i:Int)-1:=by rw[IntKind.wrap_i64];omega
   rw[e1]
   clear hj hc hR e1 e2 e3
   gi_wp2
   refine⟨rfl,(unhide HR).mono ?_⟩
   rintro e W3 ⟨rfl,hJ3⟩
   have HJ3:=hide hJ3
   clear hJ3
   gi_wp2
   go_roundw
   case rel=>exact⟨i,by omega,rfl,unhide HJ3⟩
   case measure=>simp[intOf]
theorem backC_any {a:Option Addr} {n cap:Nat} {w:World}:Calls Tryz.prog 158 #[.slice a n cap] w fun e w'=>e = .returned (.func (.func 204) #[] #[.pointer (some ⟨w.heap.size,0,none⟩)])∧w'=w.alloc (.cells #[.slice a n cap] 112):=by
 go_enter Tryz.func158,Tryz.ntmps158
 go_wp2_with (fail)
 go_ret
 exact⟨rfl,rfl⟩
end

section
set_option maxRecDepth 100000
set_option maxHeartbeats 8000000
open Go.RowKit Go.Maps
theorem run_store_func (w:World) (a:Addr) (m:Mode) (f:Fn) (b c:Array Value):(store a (.func f b c) m).run Tryz.prog w=stored Tryz.prog w a (.func f b c) m:=run_store Tryz.prog w a _ m rfl
attribute [local go_sem] Oper.semAt_some run_store_func
theorem owns_cell5 {w:World} {B e n:Nat} {v:Value} {xs:List Value} (h:w.ownsRow B e 5 v n xs):xs.length=n*5∧n≤maxLen ∧ ∃ao cap g,v = .slice ao n cap∧(0<n→ao=some ⟨g,0,none⟩∧v.ownBlock=some g∧g<w.heap.size ∧ ∀k (hk:k<xs.length),w.cell? ⟨g,k,none⟩=some xs[k]):=by
 obtain⟨hlen,h⟩:=h
 rcases h with⟨h1,h0⟩|⟨g,cap,cur,h1,_,h3,h4,h5,h6,h7⟩
 ·subst h0
  exact⟨hlen,Nat.zero_le _,none,0,0,h1,fun h=>by omega⟩
 ·refine⟨hlen,by omega,some ⟨g,0,none⟩,cap,g,h1,fun _=>⟨rfl,by rw[h1];rfl,(Array.getElem?_eq_some_iff.1 h3).1,fun k hk=>?_⟩⟩
  have hkc:k<cur.size:=by rw[h6];omega
  have e:w.cell? ⟨g,k,none⟩=cur[k]?:=by simp[World.cell?,h3]
  rw[e,Array.getElem?_eq_getElem hkc]
  congr 1
  have h8:xs[k]? = some cur[k]:=by
   rw[← h7,List.getElem?_take,if_pos (by omega)]
   simp
  rw[List.getElem?_eq_getElem hk] at h8
  exact (Option.some.inj h8).symm
theorem Jrn.at {w:World} {G:Nat→Prop}:∀ {xs:List Value} {cs:List Clo} {js:List Sp.Opn},Jrn w G xs cs js→cs.length=js.length ∧ ∀i (h:i<js.length) (h2:i<cs.length),∃kv pv fv vv,xs[i*5]? = some (cloV cs[i])∧xs[i*5+1]? = some kv∧xs[i*5+2]? = some pv∧xs[i*5+3]? = some fv∧xs[i*5+4]? = some vv∧OpnR w G kv pv fv vv js[i]
 | [],[],[],_=>⟨rfl,fun i h=>by cases h⟩
 | cv::kv::pv::fv::vv::r,c::s,o::t,⟨e,a,b⟩=>by
  obtain⟨h1,h2⟩:=Jrn.at b
  refine⟨by simp[h1],fun i h h'=>?_⟩
  cases i with
  | zero=>exact⟨kv,pv,fv,vv,by rw[e];rfl,rfl,rfl,rfl,rfl,a⟩
  | succ i =>
   obtain⟨kv',pv',fv',vv',q0,q1,q2,q3,q4,q5⟩:=h2 i (by simpa using h) (by simpa using h')
   refine⟨kv',pv',fv',vv',?_,?_,?_,?_,?_,q5⟩
   ·rw[show (i+1)*5=i*5+5 by omega];exact q0
   ·rw[show (i+1)*5+1=i*5+1+5 by omega];exact q1
   ·rw[show (i+1)*5+2=i*5+2+5 by omega];exact q2
   ·rw[show (i+1)*5+3=i*5+3+5 by omega];exact q3
   ·rw[show (i+1)*5+4=i*5+4+5 by omega];exact q4
structure TakeI (L:Nat) (w wB:World) (D Bs g N B:Nat) (rv:Value) (Tb:Sp.A) (Mb M:Nat→Prop) (wb:World) (cs:List Clo) (k:Nat) (W:World):Prop where
 box:W.heap[Bs]? = wB.heap[Bs]?
 row:0<N→W.heap[g]? = w.heap[g]?
 doc:W.heap[D]? = w.heap[D]?
 os:W.os=w.os
 tape:W.tape=w.tape
 output:W.output=w.output
 size:B≤W.heap.size
 back:∃Tk Mk wk,Und L w.heap.size rv Tb Mb wb (cs.reverse.drop k) Tk Mk wk∧(∀j,Mk j→M j)∧TreeAt L rv Tk Mk (fun j=>j=D∨j=Bs∨(0<N∧j=g)∨j=B∨j=B+1) wk W
structure TakeA (L:Nat) (w wB:World) (D Bs g N B:Nat) (rv:Value) (Tb:Sp.A) (Mb M:Nat→Prop) (wb:World) (cs:List Clo) (E:Array Value) (k X:Nat) (W:World):Prop where
 inv:TakeI L w wB D Bs g N B rv Tb Mb M wb cs k W
 ne:X≠B∧X≠B+1
 blk:W.heap[X]? = some (.cells E 230 (0,0))
section
variable {L:Nat} {w wB:World} {D Bs g N B:Nat} {rv:Value} {Tb:Sp.A} {Mb M:Nat→Prop} {wb:World} {cs:List Clo}
theorem TakeI.apart (hM:∀j,M j→j<w.heap.size) (hB:B=w.heap.size+1) (hBs:Bs=w.heap.size) (hD:D<w.heap.size) (hg:0<N→g<w.heap.size) (k:Nat):Apart2 B (TakeI L w wB D Bs g N B rv Tb Mb M wb cs k):=by
 intro W W' h e1 e2 e3 e4 e5
 have hs:=h.size
 obtain⟨Tk,Mk,wk,h1,h2,h3⟩:=h.back
 refine⟨(e5 Bs (by omega) (by omega) (by omega)).trans h.box,fun hN=>(e5 g (by have:=hg hN;omega) (by have:=hg hN;omega) (by have:=hg hN;omega)).trans (h.row hN),(e5 D (by omega) (by omega) (by omega)).trans h.doc,e1.trans h.os,e2.trans h.tape,e3.trans h.output,Nat.le_trans hs e4,Tk,Mk,wk,h1,h2,?_⟩
 obtain⟨T',r1,r2,r3,r4⟩:=h3.tree
 refine⟨⟨T',r1,r2.move fun j hj=>e5 j (r2.lt j hj) (fun e=>(r4 j hj).2 (by rw[e];simp)) (fun e=>(r4 j hj).2 (by rw[e];simp)),r3,r4⟩,fun j hj=>(e5 j (h3.low j hj) (by have:=hM j (h2 j hj);omega) (by have:=hM j (h2 j hj);omega)).trans (h3.held j hj),fun j hj=>Nat.lt_of_lt_of_le (h3.low j hj) e4⟩
theorem TakeA.apart {E:Array Value} (hM:∀j,M j→j<w.heap.size) (hB:B=w.heap.size+1) (hBs:Bs=w.heap.size) (hD:D<w.heap.size) (hg:0<N→g<w.heap.size) (k X:Nat):Apart2 B (TakeA L w wB D Bs g N B rv Tb Mb M wb cs E k X):=by
 intro W W' h e1 e2 e3 e4 e5
 exact⟨TakeI.apart hM hB hBs hD hg k W W' h.inv e1 e2 e3 e4 e5,h.ne,(e5 X (Array.getElem?_eq_some_iff.1 h.blk).1 h.ne.1 h.ne.2).trans h.blk⟩
theorem TakeI.turn {k:Nat} {c:Clo} {W:World} (hM:∀j,M j→j<w.heap.size) (hMD:¬ M D) (hMg:0<N → ¬ M g) (hB:B=w.heap.size+1) (hBs:Bs=w.heap.size) (hD:D<w.heap.size) (hg:0<N→g<w.heap.size) (hl:B+1<W.heap.size)
  (h:TakeI L w wB D Bs g N B rv Tb Mb M wb cs k W) (hc:cs.reverse[k]? = some c) :
  Ent c.1∧Calls Tryz.prog c.1 c.2 W fun e W'=>e = .returned (.tuple #[])∧Two B W W'∧TakeI L w wB D Bs g N B rv Tb Mb M wb cs (k+1) W':=by
 obtain⟨Tk,Mk,wk,h1,h2,h3⟩:=h.back
 obtain⟨hk,hck⟩:=List.getElem?_eq_some_iff.1 hc
 rw[List.drop_eq_getElem_cons hk,hck] at h1
 obtain⟨T0,M0,wk0,u1,u2,u3,u4,u5⟩:=h1
 refine⟨u5,(u2 _ W (fun j hj=>?_) h3).mono ?_⟩
 ·have hs:=h.size
  refine⟨fun hm=>?_,?_⟩
  ·have:=hM j (h2 j hm)
   rcases hj with rfl|rfl|⟨hN,rfl⟩|rfl|rfl
   ·exact hMD (h2 _ hm)
   ·omega
   ·exact hMg hN (h2 _ hm)
   ·omega
   ·omega
  ·rcases hj with rfl|rfl|⟨hN,rfl⟩|rfl|rfl
   ·omega
   ·omega
   ·have:=hg hN;omega
   ·omega
   ·omega
 ·rintro e W' ⟨rfl,t1,k1,k2,k3,k4,k5⟩
  refine⟨rfl,⟨k5 _ (by simp),k5 _ (by simp)⟩,(k5 _ (by simp)).trans h.box,fun hN=>(k5 _ (Or.inr (Or.inr (Or.inl ⟨hN,rfl⟩)))).trans (h.row hN),(k5 _ (by simp)).trans h.doc,k1.trans h.os,k2.trans h.tape,k3.trans h.output,Nat.le_trans h.size k4,T0,M0,wk0,u1,fun j hj=>h2 j (u3 j hj),t1⟩
end
theorem takeBack_any {L:Nat} {w:World} {D:Nat} {rv jn iv:Value} {ch:Bool} {Tb T:Sp.A} {Mb M:Nat→Prop} {wb:World} {js:List Sp.Opn} (h:JDoc L w D rv jn iv ch Tb Mb wb T M js) (hMb:∀k,Mb k→k≠D∧k<w.heap.size) :
  Calls Tryz.prog 118 #[.pointer (some ⟨D,0,none⟩)] w fun e w'=>e = .returned (.tuple #[])∧DB w' D rv (.slice none 0 0) ch iv∧TreeAt L rv Tb Mb (fun k=>k=D) wb w'∧w'.os=w.os∧w'.tape=w.tape∧w'.output=w.output∧w.heap.size≤w'.heap.size:=by
 obtain⟨xs,cs,hDB,hown,hjr,hund⟩:=h.ex
 obtain⟨hxl,hl,ao,cap,g,hjn,hg⟩:=owns_cell5 hown
 obtain⟨hcl,hent⟩:=hjr.at
 obtain⟨N,hN⟩:∃N,N=js.length:=⟨_,rfl⟩
 rw[← hN] at hxl hg hcl hjn hl
 subst hjn
 have hDl:=hDB.lt
 have hM:∀j,M j→j<w.heap.size:=fun j hj=>(h.low j hj).1
 obtain⟨c,hc⟩:∃c:Nat→Value,c=fun j=>xs[j]?.getD .nilFunc:=⟨_,rfl⟩
 obtain⟨wB,hwB⟩:∃wB,wB=w.alloc (.cells #[.slice ao N cap] 112):=⟨_,rfl⟩
 have hbx:wB.heap[w.heap.size]? = some (.cells #[.slice ao N cap] 112 (0,0)):=by rw[hwB];exact heap_alloc_new w _
 have hbs:wB.heap.size=w.heap.size+1:=by rw[hwB];simp
 have hbb:Below w.heap.size w wB:=by rw[hwB];exact (Below.refl _ _).alloc (Nat.le_refl _) _
 obtain⟨B,hB⟩:∃B,B=w.heap.size+1:=⟨_,rfl⟩
 have hgl:0<N→g<w.heap.size:=fun hp=>(hg hp).2.2.1
 have hgM:0<N → ¬ M g:=fun hp=>(h.jM g (hg hp).2.1).1
 have h0:TakeI L w wB D w.heap.size g N B rv Tb Mb M wb cs 0 wB:=by
  refine⟨rfl,fun hp=>hbb.block g (hgl hp),hbb.block D hDl,hbb.os,hbb.tape,hbb.output,by omega,T,M,w,hund,fun _ hj=>hj,⟨T,rfl,h.tr.bel hbb,h.nd,fun k hk=>⟨fun hm=>(h.low k hm).2 hk,fun hn=>?_⟩⟩,fun k hk=>hbb.block k (hM k hk),fun k hk=>by have:=hM k hk;omega⟩
  have hkl:=h.tr.lt k hk
  rcases hn with rfl|rfl|⟨hp,rfl⟩|rfl|rfl
  ·exact h.dD.1 hk
  ·omega
  ·exact (h.jM _ (hg hp).2.1).2 hk
  ·omega
  ·omega
 have HTURN:=hide (fun (k:Nat) (cc:Clo) (W:World) (hl2:B+1<W.heap.size) (hI:TakeI L w wB D w.heap.size g N B rv Tb Mb M wb cs k W) (hcc:cs.reverse[k]? = some cc)=>TakeI.turn hM h.dD.2 hgM hB rfl hDl hgl hl2 hI hcc)
 have HI:=hide (fun k=>TakeI.apart (L:=L) (w:=w) (wB:=wB) (D:=D) (Bs:=w.heap.size) (g:=g) (N:=N) (B:=B) (rv:=rv) (Tb:=Tb) (Mb:=Mb) (M:=M) (wb:=wb) (cs:=cs) hM hB rfl hDl hgl k)
 have HA:=hide (fun (E:Array Value) (k X:Nat)=>TakeA.apart (L:=L) (w:=w) (wB:=wB) (D:=D) (Bs:=w.heap.size) (g:=g) (N:=N) (B:=B) (rv:=rv) (Tb:=Tb) (Mb:=Mb) (M:=M) (wb:=wb) (cs:=cs) (E:=E) hM hB rfl hDl hgl k X)
 have HCLO:=hide (fun (k:Nat) (hk:k<N)=>(show ∃ (fn:Nat) (caps:Array Value) (kk:Int) (pa:Option Addr) (pl pc:Nat) (x:Option Addr),cs.reverse[k]? = some (fn,caps)∧c ((N-1-k)*5) = .func (.func fn) #[] caps∧c ((N-1-k)*5+1) = .int .i64 kk∧c ((N-1-k)*5+2) = .slice pa pl pc∧c ((N-1-k)*5+3) = .slice none 0 0∧c ((N-1-k)*5+4) = .pointer x from by
  have h1:N-1-k<cs.length:=by omega
  obtain⟨kv,pv,fv,vv,q0,q1,q2,q3,q4,o1,_,o2,o3,o4⟩:=hent (N-1-k) (by omega) h1
  obtain⟨pa,pl,pc,rfl⟩:∃pa pl pc,pv = .slice pa pl pc:=by
   rcases o2 with⟨_,a,c,e,_⟩|⟨g,o,cap,e,_⟩
   ·exact⟨_,_,_,e⟩
   ·exact⟨_,_,_,e⟩
  obtain⟨x,rfl⟩:∃x,vv = .pointer x:=by
   rcases o4 with⟨_,e⟩|⟨_,hr⟩
   ·exact⟨_,e⟩
   ·obtain⟨b,e,_⟩:=hr
    exact⟨_,e⟩
  subst o1;subst o3
  refine⟨cs[N-1-k].1,cs[N-1-k].2,(((js[N-1-k]'(by omega)).1:Nat):Int),pa,pl,pc,x,?_,?_,?_,?_,?_,?_⟩
  ·rw[List.getElem?_reverse (by omega),List.getElem?_eq_getElem (by omega)]
   congr 2
   omega
  ·rw[hc];simp only[q0];rfl
  ·rw[hc];simp only[q1];rfl
  ·rw[hc];simp only[q2];rfl
  ·rw[hc];simp only[q3];rfl
  ·rw[hc];simp only[q4];rfl))
 have HCELL:=hide (fun (hp:0<N)=>(show ∀j,j<N*5→w.cell? ⟨g,j,none⟩=some (c j) from fun j hj=>by
  rw[(hg hp).2.2.2 j (by omega),hc]
  simp[List.getElem?_eq_getElem (show j<xs.length by omega)]))
 have HAO:=hide (fun (hp:0<N)=>(hg hp).1)
 have H0:=hide h0
 have HEND:=hide (fun (W:World) (hI:TakeI L w wB D w.heap.size g N B rv Tb Mb M wb cs N W)=>(show TreeAt L rv Tb Mb (fun j=>j=D∨j=w.heap.size∨(0<N∧j=g)∨j=B∨j=B+1) wb W from by
  obtain⟨Tk,Mk,wk,u1,_,u3⟩:=hI.back
  rw[List.drop_eq_nil_of_le (by simp;omega)] at u1
  exact u1 _ W u3))
 have HMB:=hide hMb
 have HDB:=hide hDB
 have c1:=hDB.c1
 have HBX:=hide hbx
 have HBS:=hide hbs
 have hNl:N≤maxLen:=hl
 clear h hown hjr hund hxl hg hcl hent hM hgM h0 hDB hbx hbb hMb hl hN hc
 have HBe:=hide hB
 have HWB:=hide hwB
 clear hB hwB
 refine (callsIn_wide (n:=0)).1 (callsIn_of_wp_marks Tryz.func118 rfl trivial ?_ rfl)
 simp only[Tryz.ntmps118,List.size_toArray,List.length_cons,List.length_nil,Nat.reduceAdd,Nat.reduceSub,Array.replicate_succ,Array.replicate_zero,List.push_toArray,List.append_toArray,List.nil_append,List.cons_append]
 gi_wp2_with (refine⟨trivial,rfl,?_⟩;gi_at_call 158;refine (callsIn_wide.2 backC_any).mono ?_;rintro e w' ⟨rfl,rfl⟩)
 rw[← unhide HWB]
 refine range_turns (gf:=204) (lb:=#[.pointer (some ⟨w.heap.size,0,none⟩)]) rfl (ent_of Tryz.func204 (by kernel_rfl) rfl) N (fun k=>#[.int .i64 ((N-1-k:Nat):Int),entV c (N-1-k)]) (fun _=>rfl) (TakeI L w wB D w.heap.size g N B rv Tb Mb M wb cs)
  (fun k a' W=>∃X,TakeA L w wB D w.heap.size g N B rv Tb Mb M wb cs #[c ((N-1-k)*5),c ((N-1-k)*5+1),c ((N-1-k)*5+2),c ((N-1-k)*5+3),c ((N-1-k)*5+4)] k X W∧a'={ tmps:=#[.pointer (some ⟨D,0,none⟩),undef,undef,.pointer (some ⟨X,0,none⟩),.pointer (some ⟨D,0,none⟩),.pointer (some ⟨D,0,none⟩),.pointer (some ⟨D,1,none⟩),.slice ao N cap,.func (.func 204) #[] #[.pointer (some ⟨w.heap.size,0,none⟩)],.int .i64 ((N-1-k:Nat):Int),entV c (N-1-k),undef,undef,undef,undef,undef,undef],defers:=[] })
  ?hI ?hA (unhide H0) ?hiter ?hassign ?hbody ?hdone
 case hI =>
  rw[unhide HBS,← unhide HBe]
  exact unhide HI
 case hA =>
  rw[unhide HBS,← unhide HBe]
  rintro k a' W W' ⟨X,hX,e⟩ e1 e2 e3 e4 e5
  exact⟨X,unhide HA _ k X W W' hX e1 e2 e3 e4 e5,e⟩
 case hiter =>
  intro l J W hJI hY hJ0
  refine back1_in (cap:=cap) hNl (unhide HAO) (fun k W hj=>?_) hY hJ0
  have hi:=hJI k W hj
  refine⟨?_,fun j hj2=>?_⟩
  ·have:=hi.box.trans (unhide HBX)
   simp[World.cell?,this]
  ·have hp:0<N:=by omega
   rw[World.cell?_of_block (w:=w) (hi.row hp)]
   exact unhide HCELL hp j hj2
 case hassign =>
  intro l k W hk hi hsz
  rw[unhide HBS,← unhide HBe] at hsz ⊢
  have HII:=hide hi
  obtain⟨fn,caps,kk,pa,pl,pc,x,_,e0,e1,e2,e3,e4⟩:=unhide HCLO k hk
  clear hi
  unfold entV
  rw[e0,e1,e2,e3,e4]
  clear e0 e1 e2 e3 e4
  gi_wp2
  have hb:=(Below.refl W.heap.size W).alloc (Nat.le_refl _) (.cells #[.func (.func fn) #[] caps,.int .i64 kk,.slice pa pl pc,.slice none 0 0,.pointer x] 230)
  exact⟨⟨hb.block B (by omega),hb.block (B+1) (by omega)⟩,⟨unhide HI k W _ (unhide HII) hb.os hb.tape hb.output hb.size fun j hj _ _=>hb.block j hj,⟨by omega,by omega⟩,heap_alloc_new W _⟩⟩
 case hbody =>
  rintro l k a' W hk ⟨X,hX,rfl⟩ hsz -
  rw[unhide HBS,← unhide HBe] at hsz ⊢
  obtain⟨fn,caps,kk,pa,pl,pc,x,hc1,hc2,e1,e2,e3,e4⟩:=unhide HCLO k hk
  obtain⟨hent,hcall⟩:=unhide HTURN k (fn,caps) W hsz hX.inv hc1
  have x0:W.cell? ⟨X,0,none⟩=some (.func (.func fn) #[] caps):=by
   have:=hX.blk
   rw[hc2] at this
   simp[World.cell?,this]
  have HENT:=hide hent
  have HCALL:=hide hcall
  clear hent hcall hc1 hc2 hX e1 e2 e3 e4
  gi_wp2
  rw[unhide HENT,Oper.uponIn_enter]
  refine⟨trivial,fun hh=>(by cases hh),((callsIn_wide (n:=0)).2 (unhide HCALL)).mono ?_⟩
  rintro e W' ⟨rfl,ht,hI2⟩
  gi_wp2
 case hdone =>
  intro W hI hK
  rw[unhide HBS,← unhide HBe] at hK ⊢
  have hW:=unhide HEND W hI
  have hBe:=unhide HBe
  have hd:=(unhide HDB).kept hI.doc
  have d1:=hd.c1
  have dz:W.frozen? ⟨D,1,none⟩=false:=by simp[World.frozen?,show W.heap[D]? = _ from hd]
  have HW:=hide hW
  have HD2:=hide hd
  have HII:=hide hI
  clear hW hd hI hBe
  gi_wp2
  have hBe:=unhide HBe
  have hK2:(W.setCell ⟨D,1,none⟩ (.slice none 0 0)).heap[B]? = some (.deferred (some [])):=(Below.heap_setCell _ _ _ _ (by have:=unhide HBe;show B≠D;omega)).trans hK
  refine⟨by simp,.inl ⟨_,_,rfl,run_takeDeferred hK2,?_⟩⟩
  refine⟨_,results_none rfl _ _ _,rfl,?_⟩
  have hD0:DB (W.setCell ⟨D,1,none⟩ (.slice none 0 0)) D rv (.slice none 0 0) ch iv:=(unhide HD2).set1 _
  have hne:∀j,j≠D→j≠B→((W.setCell ⟨D,1,none⟩ (.slice none 0 0)).putObj B (.deferred none)).heap[j]? = W.heap[j]?:=fun j h1 h2=>(World.putObj_heap_other (by omega)).trans (Below.heap_setCell _ _ _ _ h1)
  obtain⟨T',r1,r2,r3,r4⟩:=(unhide HW).tree
  refine⟨(World.putObj_heap_other (by omega)).trans hD0,⟨⟨T',r1,r2.move fun j hj=>hne j (fun e=>(r4 j hj).2 (Or.inl e)) (fun e=>(r4 j hj).2 (by rw[e];simp)),r3,fun j hj=>⟨(r4 j hj).1,fun e=>(r4 j hj).2 (Or.inl e)⟩⟩,fun j hj=>?_,fun j hj=>?_⟩,(unhide HII).os,(unhide HII).tape,(unhide HII).output,?_⟩
  ·obtain⟨m1,m2⟩:=unhide HMB j hj
   exact (hne j m1 (by omega)).trans ((unhide HW).held j hj)
  ·have:=(unhide HW).low j hj
   simpa[World.putObj,World.setCell] using this
  ·have:=(unhide HII).size
   simp[World.putObj,World.setCell];omega
end

section
open Go.RowKit Go.Maps
attribute [local go_sem] run_store_func
section
variable {w:World} {D k:Nat} {pa fa y wp:Option Addr} {pl pc fl fc:Nat}
end
end

section
open Go.RowKit Go.Maps
namespace Sp
variable {d d' x:Int} {B B':Nat} {v n e xv:V} {s p q:List By} {t:By}
theorem Fit.mono (h:Fit d x B v) (hd:d≤d') (h5:d'≤500) (hB:B≤B'):Fit d' x B' v:=⟨gd_mono hd h.gd,h5,Nat.le_trans h.sz hB⟩
def OnOk (d x:Int) (B:Nat) (o:Opn):Prop:=(o.2.1.map fun t=>t.length+1).sum≤200000∧(o.1≠1→Fit d x B o.2.2)
theorem sum_snoc (s:List By) (t:By):((s++[t]).map fun t=>t.length+1).sum=(s.map fun t=>t.length+1).sum+(t.length+1):=by simp
theorem itoa_small (i:Nat) (h:i≤1000000000000):(Lib.itoa (i:Int)).length≤1000:=by
 have:=Lib.itoa_length_le (i:Int) (by omega) (by omega)
 omega
end Sp
end

section
open Go.RowKit Go.Maps
namespace Sp
def mstep (m:Option V→List By→V→V×List Opn) (s:List By) (q:Lit×V) (es:List (Lit×V)):List (Lit×V)×List Opn :=
 if isNull q.2 then (match get? es q.1 with
  | none=>(es,[])
  | some o=>(mdel q.1 es,[(0,s++[keyB q.1],o)]))
 else (mput q.1 (m (get? es q.1) (s++[keyB q.1]) q.2).1 es,(m (get? es q.1) (s++[keyB q.1]) q.2).2)
def mall (m:Option V→List By→V→V×List Opn) (s:List By):List (Lit×V)→List (Lit×V)→List (Lit×V)×List Opn
 | [],es=>(es,[])
 | q::r,es=>((mall m s r (mstep m s q es).1).1,(mstep m s q es).2++(mall m s r (mstep m s q es).1).2)
theorem mrgs_eq (m:Option V→List By→V→V×List Opn) (s:List By):∀ (l es:List (Lit×V)),mrgs m s l es=(.map (mall m s l es).1,(mall m s l es).2)
 | [],es=>rfl
 | (k,q)::r,es=>by
  unfold mrgs mall mstep
  by_cases hn:isNull q=true
  ·rw[if_pos hn,if_pos hn]
   cases hg:get? es k with
   | none=>simp only;rw[mrgs_eq];rfl
   | some o=>simp only;rw[mrgs_eq];rfl
  ·rw[if_neg hn,if_neg hn]
   simp only
   rw[mrgs_eq]
theorem mall_snoc (m:Option V→List By→V→V×List Opn) (s:List By) (q:Lit×V):∀ (l es:List (Lit×V)),mall m s (l++[q]) es=((mstep m s q (mall m s l es).1).1,(mall m s l es).2++(mstep m s q (mall m s l es).1).2)
 | [],es=>by simp[mall]
 | a::l,es=>by
  simp only[List.cons_append,mall]
  rw[mall_snoc m s q l]
  simp only[List.append_assoc]
theorem get_yes {es:List (Lit×V)} {k:By} {c:V} (hs:Skey es) (h:(Lit.string k,c)∈es):get? es (.string k)=some c:=by
 have hap:=apart_of_rising hs.1
 have h1:Maps.has (.map es:V) (.string k)=true:=List.any_eq_true.2 ⟨_,h,sameKey_str.2 rfl⟩
 unfold get?
 rw[if_pos h1,WideAt.atKey_mem .nil (by exact trivial) hap h]
theorem get_no {es:List (Lit×V)} {k:By} (h:∀p∈es,p.1≠Lit.string k):get? es (.string k)=none:=by
 unfold get?
 rw[if_neg]
 intro h1
 obtain⟨p,hp,h2⟩:=List.any_eq_true.1 (show (es.any fun p=>p.1.sameKey (.string k))=true from h1)
 exact h p hp (WideAt.sameKey_eq h2)
theorem key_two {α:Type} (es:List (Lit×DataW α)) (k:By):(∃c,(Lit.string k,c)∈es) ∨ ∀p∈es,p.1≠Lit.string k:=by
 by_cases h:∃p∈es,p.1=Lit.string k
 ·obtain⟨p,hp,e⟩:=h
  exact Or.inl ⟨p.2,e▸hp⟩
 ·exact Or.inr fun p hp e=>h ⟨p,hp,e⟩
theorem before_irr (k:By):(Lit.string k).before (.string k)=false:=by
 cases h:(Lit.string k).before (.string k) with
 | false=>rfl
 | true=>exact absurd (before_le k k h) (List.lt_irrefl k)
theorem before_asym {a b:By} (h:(Lit.string a).before (.string b)=true):(Lit.string b).before (.string a)=false:=by
 cases h2:(Lit.string b).before (.string a) with
 | false=>rfl
 | true=>exact absurd (List.lt_trans (before_le a b h) (before_le b a h2)) (List.lt_irrefl a)
theorem insert_last {α:Type} {k:By} {x:DataW α}:∀ {r:List (Lit×DataW α)},(∀p∈r,(Lit.string k).before p.1=true)→DataW.insert (.string k,x) r=(.string k,x)::r
 | [],_=>rfl
 | a::r,h=>by
  unfold DataW.insert
  rw[if_pos (h a List.mem_cons_self)]
theorem modify_mput {α:Type} {k:By} {c x:DataW α}:∀ {es:List (Lit×DataW α)} {i:Nat},Skey es→es[i]? = some (.string k,c)→(es.modify i fun p=>(p.1,x))=mput (.string k) x es
 | [],i,_,h=>by simp at h
 | p::r,0,hs,h=>by
  obtain rfl:p=(.string k,c):=by simpa using h
  have h1:=List.pairwise_cons.1 hs.1
  have hr:∀q∈r,q.1≠Lit.string k:=fun q hq e=>by
   have:=h1.1 q hq
   rw[e] at this
   rw[before_irr] at this;cases this
  unfold mput
  rw[List.filter_cons,if_neg (by simp[sameKey_str.2 rfl]),filter_self hr,insert_last fun q hq=>h1.1 q hq]
  rfl
 | p::r,i+1,hs,h=>by
  have h1:=List.pairwise_cons.1 hs.1
  have hm:(Lit.string k,c)∈r:=List.mem_of_getElem? (by simpa using h)
  have hb:=h1.1 _ hm
  have hne:p.1≠Lit.string k:=fun e=>by
   rw[e] at hb
   rw[before_irr] at hb;cases hb
  have ih:=modify_mput (x:=x) (es:=r) (i:=i) ⟨h1.2,fun q hq=>hs.2 q (List.mem_cons_of_mem _ hq)⟩ (by simpa using h)
  have hnb:(Lit.string k).before p.1=false:=by
   obtain⟨s,e⟩:=hs.2 p List.mem_cons_self
   rw[e] at hb ⊢
   exact before_asym hb
  rw[List.modify_succ_cons,ih]
  unfold mput
  rw[List.filter_cons,if_pos (by rw[sameKey_ne hne];rfl)]
  conv=>rhs;unfold DataW.insert
  rw[if_neg (by rw[hnb];decide)]
theorem put_snoc {j:Nat} {c m:A} (n:A) (hc:(kids m)[j]? = some c):∀ {p:List Nat} {T:A},sub p T=some m→put (p++[j]) n T=put p (kid m j n) T
 | [],T,h=>by
  obtain rfl:T=m:=by simpa[sub] using h
  rw[List.nil_append,put_cons n hc]
  rfl
 | i::r,T,h=>by
  obtain⟨e,he,hr⟩:=sub_cons h
  rw[List.cons_append,put_cons _ he,put_cons _ he,put_snoc n hc hr]
theorem er_next {f:Nat} {p:List Nat} {T T1 T2 N N1 m0:A} (h0:sub p T=some m0) (h1:er (f+p.length) T1=er (f+p.length) (put p N T)) (h2:∀n1,sub p T1=some n1→er (f+p.length) T2=er (f+p.length) (put p N1 T1)) :
  (∃n2,sub p T2=some n2∧er f n2=er f N1) ∧ ∀n2,er f n2=er f N1→er (f+p.length) T2=er (f+p.length) (put p n2 T):=by
 have hs:(sub p T1).map (er f)=some (er f N):=by
  rw[← er_sub,h1,er_sub,sub_put _ h0];rfl
 obtain⟨n1,hn1,e1⟩:=Option.map_eq_some_iff.1 hs
 have h2':=h2 n1 hn1
 have h0':sub p (er (f+p.length) T)=some (er f m0):=by rw[er_sub,h0];rfl
 have e2:er (f+p.length) T2=put p (er f N1) (er (f+p.length) T):=by
  rw[h2',er_put p f N1 hn1,h1,er_put p f N h0,put_put _ _ h0']
 refine⟨?_,fun n2 hn=>?_⟩
 ·have hs2:(sub p T2).map (er f)=some (er f N1):=by
   rw[← er_sub,e2,sub_put _ h0']
  exact Option.map_eq_some_iff.1 hs2
 ·rw[e2,er_put p f n2 h0,hn]
end Sp
theorem Stands.kid {m c:Sp.A} {i:Nat} {key:Sp.By} (h:Stands m i key c):∃j,(Sp.kids m)[j]? = some c ∧ ∀x,Sp.kid m j x=Sp.setT i key x m:=by
 rcases h with⟨b,g,al,rfl,h⟩|⟨b,g,es,rfl,h,hs⟩
 ·exact⟨i,h,fun x=>by rw[Sp.kid_arr];unfold Sp.setT;rw[Sp.ed_arr]⟩
 ·obtain⟨j,hj⟩:=List.getElem?_of_mem h
  refine⟨j,by rw[Sp.kids_obj,List.getElem?_map,hj];rfl,fun x=>?_⟩
  rw[Sp.kid_obj,Sp.modify_mput hs hj]
  unfold Sp.setT
  rw[Sp.ed_obj]
end
end Go.Proofs.YtdpomdelmdofmaaGreatDoor
