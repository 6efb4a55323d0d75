import Derived.Test.YtdpomdelmdofmaaGreatDoorRea46
import Derived.RangeFuncWrites
import Derived.RangeFuncMany
import Derived.Shelf.SlIter.Stops
import Derived.Lib.SlicesCompact
import Derived.Shelf.SlicesE.Compact
open Go.Proofs.Tryz renaming prog->AI
open Go renaming Value->AS,DataW->A2,strKeys->A6,callsIn_wide->BY,World->D0,Calls->D3,KeepsWalks->E0,maxLen->FD,undef->F1
open Go.Fence renaming wide->AT
open List renaming getElem?_take_of_lt->A1,length_map->CD
open Go.RowKit renaming Below->A3
open Go.World renaming putObj_heap_other->A4,setCell->Ft
open Go.Maps renaming size->A5,size_eq->Bs
open Array renaming getElem?_modify->CH
open Nat renaming le_refl->CL,lt_of_lt_of_le->C2
open Go.ByteArray renaming toList_eq->CR
open Go.RowKit.Below renaming refl->C1,heap_setCell->Dp,heap_alloc->DD
open Go.Sort renaming ahead->Dt
open List.Pairwise renaming nil->F2
namespace Go.Proofs.YtdpomdelmdofmaaGreatDoor
open Go.Proofs.Tryz
open Go.RowKit Go.Maps
def Pq:Prop:=∀ (d x n:Int) (F F':Nat->Prop) (w:D0) (Mk:Nat) (M:Nat->Prop) (av bv:AS) (a b:To),n<=2000->Ai w->(∀k,k<NG->M k)->MkD w Mk n M []->(∀k,F k->M k)->(∀k,F' k->M k)->Rep top F w av a->Rep top F' w bv b->dY d x top 1 a->dY d x top 1 b->d<=20->dT top a<=160000->dT top b<=160000 ->
 D3 AI 123 #[.pointer (some ⟨Mk,0,none⟩),.slice none 0 0,av,bv] w (CA Mk n M [] (A9 n top [] a b) w)
theorem Sn(hV:Pq):Lj:=by
 intro S lo d e n p v F s q p2 w hcfg hS hD hT hr hq;obtain⟨qg,q8,qb⟩:1<=d/\d<=20/\n<=2000:=by
  grind [fH,gN,dT]
 obtain⟨q5,q9⟩:dY d e top 1 v.1/\(dZ top v.1).length<=80000:=by
  obtain⟨D,R,wp,_,q0⟩:=hD;exact⟨q0.gd,q0.len⟩
 have q6:=Ej hr;have q7:dT top v.1<=160000:=by have:=(BT q5).2;omega
 have hs2:dT top q<=160000:=by have:=(BT q6).2;have:=GI hr top;omega
 obtain⟨b1,b2⟩:=Zg (n:=n) (by omega) q5 q6 q7 hs2;refine Tm hS hD hT b1 b2 fun D R wp _ q0 w1 hb=>Ns ?_;obtain⟨T,a,iv,h1,_,_⟩:=q0.ex;have hn:A3 w1.heap.size w1 (w1.alloc (.cells #[.int .i64 n,.slice none 0 0] 187)):=(C1 _ _).alloc (CL _) _;have qd:Rep top (fun _=>True) w wp v.1:=by
  rw[<- h1.str];exact h1.sub.rep fun _ _=>trivial
 have qe:Rep top (fun k=>k<w1.heap.size) w1 wp v.1:=(qd.bel hb).move (by grind);have qf:Rep top (fun k=>k<w1.heap.size) w1 (.pointer p2) q:=(hq.rep.bel hb).move (by grind);have q4:Ai w1:=hT.below (hb.mono hT.ng);exact hV d e n _ _ _ _ _ _ _ _ _ qb (q4.below (hn.mono q4.ng)) (fun k hk=>C2 hk q4.ng) (ZZ w1 n) (fun k hk=>hk) (fun k hk=>hk) (qe.bel hn) (qf.bel hn) q5 q6 q8 q7 hs2
end Go.Proofs.YtdpomdelmdofmaaGreatDoor

set_option maxRecDepth 100000
set_option maxHeartbeats 4000000
namespace Go.Proofs.YtdpomdelmdofmaaGreatDoor
open Go.Proofs.Tryz
open Go.RowKit Go.Maps Go.Sort Go.Shelf
variable{w:D0}{B:Nat}{ss0:List By}
attribute [local go_sem] Oper.semAt_some
structure ApI(w:D0)(B:Nat)(ss0 ss:List By)(W:D0):Prop where
 box:∃v,W.heap[w.heap.size]? = some (.cells #[v] 59 (0,0))/\W.ownsRow B 9 1 v (ss0++ss).length ((ss0++ss).map encStr)
 bel:A3 B w W
 sz:w.heap.size<W.heap.size
theorem ApI.own(hB:B<=w.heap.size):OwnFrom (w.heap.size+1) (ApI w B ss0):=by
 intro s X Y row h hg hr;obtain⟨v,hv,ho⟩:=h.box;have hsz:=h.sz;have hne:∀g,v.ownBlock=some g->some g≠row:=fun g q0 e=>by
  obtain⟨hb,o,q4,q5⟩:=hr g e.symm;rcases ho.2 with⟨e1,_⟩|⟨g',cap,cur,e1,_,hgb,_⟩
  ·rw[e1] at q0;cases q0
  ·rw[e1] at q0;injection q0 with q0;subst q0;rw[hgb] at q4;cases q4;cases q5
 exact⟨⟨v,(hg.block _ hsz (by grind)).trans hv,AC ho fun g q0=>hg.block g (AA ho g q0).1 (hne g q0)⟩,h.bel.grown hg (by omega) (by grind),C2 hsz hg.size⟩
theorem ApI.next{W w3:D0}{ss:List By}{x:By}{v v':AS}(hB:B<=w.heap.size)(h:ApI w B ss0 ss W)(hv:W.heap[w.heap.size]? = some (.cells #[v] 59 (0,0)))(ho:W.ownsRow B 9 1 v (ss0++ss).length ((ss0++ss).map encStr))(hg:(W.alloc (.cells #[encStr x] 9)).grownBy w3 v.ownBlock)(q4:w3.ownsRow B 9 1 v' ((ss0++ss).length+1) ((ss0++ss).map encStr++[encStr x])):
  w3.heap[w.heap.size]? = some (.cells #[v] 59 (0,0))/\KeepsOthers W (w3.setCell ⟨w.heap.size,0,none⟩ v')/\ApI w B ss0 (ss++[x]) (w3.setCell ⟨w.heap.size,0,none⟩ v'):=by
 have hsz:=h.sz;have hne:some w.heap.size≠v.ownBlock:=fun e=>by
  rcases ho.2 with⟨e1,_⟩|⟨g,cap,cur,e1,_,hgb,_⟩
  ·rw[e1] at e;cases e
  ·rw[e1] at e;injection e with e
   grind
 have h3:w3.heap[w.heap.size]? = some (.cells #[v] 59 (0,0)):=((hg.block _ (by simp;omega) hne).trans (DD _ _ _ hsz)).trans hv;have q5:some w.heap.size≠v'.ownBlock:=fun e=>by
  rcases q4.2 with⟨e1,_⟩|⟨g,cap,cur,e1,_,hgb,_⟩
  ·omega
  ·rw[e1] at e;injection e with e
   grind
 have q7:W.heap.size+1<=w3.heap.size:=by have:=hg.size;simp_all
 refine⟨h3,((KeepsOthers.alloc W _).trans (KeepsOthers.of_grownBy hg fun j o hj q0=>?_)).trans (KeepsOthers.setCell _ _ _),⟨v',heap_setCell_box_a v' h3,?_⟩,?_,?_⟩
 ·rcases ho.2 with⟨e1,_⟩|⟨g,cap,cur,e1,_,hgb,_⟩
  ·rw[e1] at hj;cases hj
  ·rw[e1] at hj;injection hj with hj;subst hj;rw[DD _ _ _ (by grind),hgb] at q0;cases q0;rfl
 ·have e1:(ss0++(ss++[x])).length=(ss0++ss).length+1:=by simp;omega
  have e2:(ss0++(ss++[x])).map encStr=(ss0++ss).map encStr++[encStr x]:=by simp
  rw[e1,e2];exact AC q4 fun g q6=>Dp _ _ _ _ (by grind)
 ·have hb1:A3 B w (W.alloc (.cells #[encStr x] 9)):=h.bel.alloc (by omega) _;have hb3:=hb1.grown hg (by have:=h.bel.size;simp;omega) (fun k e=>(AA ho k e).2);exact⟨hb3.os,hb3.tape,hb3.output,by simpa[Ft] using hb3.size,fun k hk=>(Dp _ _ _ _ (by grind)).trans (hb3.block k hk)⟩
 ·simp[Ft];omega
theorem Vm{g:Nat}{lb:Array AS}{S Sq:List By->Prop}{N:Nat}{v0:AS}(q4:w.ownsRow B 9 1 v0 ss0.length (ss0.map encStr))(hB:B<=w.heap.size)(hN:ss0.length+N<=1000000)(eg:∀args w,(callFunc g args).run AI w=.ok (.enter g args) w)(q7:SeqStops AT 4 AI g lb encStr S Sq N w):
  CallsIn AT 5 AI 226 #[v0,.func (.func g) #[] lb] w fun e w'=>∃v ss,e=.returned v/\S ss/\w'.ownsRow B 9 1 v (ss0++ss).length ((ss0++ss).map encStr)/\A3 B w w':=by
 obtain⟨i0,hi,h0⟩:=Option.map_eq_some_iff.1 RH;injection h0 with hz h0;injection h0 with hz2 hz3;obtain⟨z0,qj⟩:∃z0,z0=Value.string ⟨#[]⟩:=⟨_,rfl⟩
 rw[<- qj] at hz;have qq:z0.cells.size=1:=by rw[qj];rfl
 obtain⟨va,vn,vc,rfl⟩:∃a n c,v0=.slice a n c:=by
  rcases q4.2 with⟨e,_⟩|⟨_,_,_,e,_⟩
  ·grind
  grind
 obtain⟨w1,q9⟩:∃w1,w1=w.alloc (.cells #[.slice va vn vc] 59):=⟨_,rfl⟩
 have hb1:A3 w.heap.size w w1:=by rw[q9];exact (C1 _ _).alloc (CL _) _
 have qi:w1.heap.size=w.heap.size+1:=by simp_all
 have qh:ApI w B ss0 [] w1:=⟨⟨_,by rw[q9];exact heap_alloc_new w _,by simpa using AC q4 fun q hq=>hb1.block q (AA q4 q hq).1⟩,hb1.mono hB,by omega⟩
 have qn:=Ab qh;have qk:=Ab hb1;have qp:=Ab q9;have qo:=Ab (show SeqStopsK AT (5-1) AI g lb (fun x=>#[encStr x]) E0 S Sq N w from q7);have qm:=Ab eg;have qg:=Ab qi;clear qh hb1 q9 q7 eg qi q4;refine callsIn_of_wp_marks func226 rfl trivial ?_ rfl;simp only[ntmps226,List.size_toArray,List.length_cons,List.length_nil,Nat.reduceAdd,Nat.reduceSub,Array.replicate_succ,Array.replicate_zero,List.push_toArray,List.append_toArray,List.nil_append,List.cons_append]
 gi_wp2
 rw[<- Aa qp];refine wpIn_rangeFunc_ownG (encs:=fun x:By=>#[encStr x]) (Kp:=E0) (w0:=w) rfl (by omega) rfl trivial (Aa qm) (Aa qo) E0.trans (fun W l o o' _ h _ hw=>KeepsWalks.putObj o' h hw) (Aa qk) (fun _=>rfl)
  (ApI w B ss0) (fun _ _ _=>False) (by rw[Aa qg];exact ApI.own hB) (fun _ _ _ _ _ h _ _=>h) (Aa qn)
  (fun x=>{ tmps:=#[.slice va vn vc,.func (.func g) #[] lb,.pointer (some ⟨w.heap.size,0,none⟩),F1,.slice none 0 0,encStr x,.func (.func g) #[] lb,encStr x,F1,F1,F1,F1,F1],defers:=[] }) ?hassign ?hbody ?hdone ?hstop
 case hassign=>
  intro l x W K hK
  gi_wp2
  exact hK
 case hbody=>
  intro l qb x W hI q6;obtain⟨v,hv,ho⟩:=hI.box;have hx:qb.length<N:=q6;have qt:(ss0++qb).length<1000000:=by simp;omega
  obtain⟨c0,f0⟩:=cell_of_box_a hv;obtain⟨ua,un,uc,rfl⟩:∃a n c,v=.slice a n c:=by
   rcases ho.2 with⟨e,_⟩|⟨_,_,_,e,_⟩
   ·grind
   grind
  have q8:=Ab hI;have HV:=Ab hv;have HO:=Ab ho;clear hI hv ho q6
  gi_wp2_with (gi_at_builtin;refine wpListIn_append_own _ rfl _ _ 59 rfl B 9 i0 z0 1 16 underlying59 hi hz hz2 hz3 qq (by decide) (.slice ua un uc) (ss0++qb).length ((ss0++qb).map encStr) rfl ((Aa HO).alloc _) ⟨W.heap.size,0,none⟩ 1 1 [encStr x] rfl rfl (cell_one_new _ _ _) (by simp[Value.oneCell',encStr]) (by unfold FD;omega) (by omega) (by have:=(Aa q8).bel.size;simp;omega) ?_;intro v' w3 q0 q5 qe;obtain⟨xa,xn,xc,rfl⟩:∃a n c,v'=.slice a n c:=(by rcases q0.2 with⟨e,_⟩|⟨_,_,_,e,_⟩<;>exact⟨_,_,_,e⟩);have qf:=ApI.next hB (Aa q8) (Aa HV) (Aa HO) q5 q0;obtain⟨d0,z9⟩:=cell_of_box_a qf.1;have qd:=Ab qf.2;clear qf q0 q5 qe)
  exact⟨(Aa qd).1.from _,(Aa qd).1.walks,(Aa qd).2⟩
 case hdone=>
  intro D xs W hD hS hI hK;obtain⟨v,hv,ho⟩:=hI.box;obtain⟨c0,f0⟩:=cell_of_box_a hv;have HV:=Ab ho;have q8:=Ab hI;clear hv ho hI
  gi_wp2
  refine⟨by simp,.inl ⟨_,_,rfl,run_takeDeferred hK,?_⟩⟩;have qr:w.heap.size+1<=D:=by have:=Aa qg;omega
  refine⟨_,results_tmp rfl _ _ _,v,xs,rfl,hS,AC (Aa HV) fun q hq=>A4 (fun e=>?_),?_⟩
  ·rcases (Aa HV).2 with⟨e1,_⟩|⟨g',cap,cur,e1,_,hgb,_⟩
   ·rw[e1] at hq;cases hq
   ·rw[e1] at hq;injection hq with hq;grind
  ·have hb:=(Aa q8).bel;exact⟨hb.os,hb.tape,hb.output,by simpa[World.putObj] using hb.size,fun k hk=>(A4 (by omega)).trans (hb.block k hk)⟩
 grind
end Go.Proofs.YtdpomdelmdofmaaGreatDoor

namespace Go.Proofs.YtdpomdelmdofmaaGreatDoor
open Go.Proofs.Tryz
open Go.RowKit Go.Maps Go.Sort Go.Lib
variable{cur:Array AS}
theorem Xu(a b:By):(decide (a<=b) || decide (b<=a))=true:=by
 grind
theorem Xt(a b c:By)(h1:decide (a<=b)=true)(h2:decide (b<=c)=true):decide (a<=c)=true:=by
 grind
theorem cP{a b:By}(h:a<=b)(hne:a≠b):a<b:=by
 grind
theorem JG{d:Array By}(hs:∀i j,i<=j->j<d.size->d[i]! <= d[j]!):∀m,m<=d.size->(compactUpTo d m).Pairwise (fun a b=>a<b)/\(∀k,k∈compactUpTo d m <-> ∃j,j<m/\d[j]! = k) /\ ∀k∈compactUpTo d m,k<=d[m-1]!
 | 0,_=>by
  have e:compactUpTo d 0=[]:=rfl
  simp_all
 | m+1,hm=>by
  obtain⟨h1,h2,h3⟩:=JG hs m (by omega);rw[compactUpTo_succ];have q4:∀k,(∃j,j<m+1/\d[j]! = k)<->(∃j,j<m/\d[j]! = k)\/d[m]! = k:=fun k=>by
   grind
  have q5:∀k∈compactUpTo d m,k<=d[m]!:=fun k hk=>by
   grind
  by_cases q0:keeps d m=true
  ·rw[if_pos q0];refine⟨List.pairwise_append.2 ⟨h1,by simp,fun a ha b hb=>?_⟩,fun k=>?_,fun k hk=>?_⟩
   ·obtain rfl:b=d[m]!:=by grind
    unfold keeps at q0;rcases of_decide_eq_true q0 with e|e
    ·grind
    ·have q6:0<m:=by
      grind
     refine List.lt_of_le_of_lt (h3 a ha) (cP (by grind) (fun h=>e h.symm))
   ·grind
   grind
  grind [keeps,Nat.add_sub_cancel,compactUpTo_succ]
theorem Pf{l:List By}(hs:l.Pairwise (fun a b=>decide (a<=b)=true)):(compactUpTo l.toArray l.length).Pairwise (fun a b=>a<b)/\(∀k,k∈compactUpTo l.toArray l.length<->k∈l)/\(compactUpTo l.toArray l.length).length<=l.length:=by
 have hg:∀i (h:i<l.length),l.toArray[i]! = l[i]:=by grind
 obtain⟨h1,h2,_⟩:=JG (d:=l.toArray) (fun i j q4 hj=>by
  have q0:j<l.length:=by omega
  rw[hg i (by omega),hg j q0];by_cases e:i=j
  ·grind
  ·exact of_decide_eq_true (List.pairwise_iff_getElem.1 hs i j (by omega) q0 (by omega))) l.length (by simp)
 grind [List.mem_iff_getElem,CD,compactUpTo]
theorem Mg{w:D0}{g:Nat}{T:TypeId}{fr:Nat×Nat}(h:w.heap[g]? = some (.cells cur T fr))(d:Array By):
  (putRow encStr w g 0 d).heap[g]? = some (.cells (putCells encStr 0 d cur) T fr)/\(∀k,k≠g->(putRow encStr w g 0 d).heap[k]? = w.heap[k]?)/\(putRow encStr w g 0 d).heap.size=w.heap.size:=by
 refine⟨?_,fun k hk=>?_,by simp_all⟩
 ·simp only[putRow,mapBlock,CH];rw[if_pos trivial,h];rfl
 ·simp only[putRow,mapBlock,CH]
  grind
theorem Ig{d:Array By}(h:d.size<=cur.size)(n:Nat)(hn:n<=d.size):(putCells encStr 0 d cur).toList.take n=(d.toList.map encStr).take n:=by
 apply List.ext_getElem?;intro i;by_cases hi:i<n
 ·rw[A1 hi,A1 hi];have h1:i<cur.size:=by omega
  have h2:i<d.size:=by omega
  simp[putCells,h1,h2,getElem!_pos]
 grind
theorem ML{w:D0}{g:Nat}{T:TypeId}{ss:List By}(h:w.heap[g]? = some (.cells cur T (0,0)))(ht:cur.toList.take ss.length=ss.map encStr):Holds encStr w g 0 ss.toArray:=by
 intro j hj;have q0:j<ss.length:=by omega
 rw[Nat.zero_add];refine⟨?_,by simp[World.frozen?,h]⟩;have e:(ss.map encStr)[j]? = some (encStr ss[j]):=by simp[q0]
 rw[<- ht,A1 q0] at e;have e2:w.cell? ⟨g,j,none⟩=cur[j]?:=by simp[World.cell?,h]
 grind
end Go.Proofs.YtdpomdelmdofmaaGreatDoor

namespace Go.Proofs
open Go.Shelf
def Tryz.eCompact_ren:Go.Shelf.Ren:=⟨fun|43=>253|n=>n,fun|22=>59|23=>9|3=>3|4=>4|0=>0|n=>n,fun|n=>n⟩
theorem Tryz.eCompact:Go.Proofs.SlLaysE.n43 AI Tryz.eCompact_ren:={
 mixed:=by kernel_rfl
 f43:=⟨Tryz.f253.name,by decide,Tryz.func253.trans (congrArg some (by kernel_rfl))⟩
 t0:=underlying0
 a0:=Tryz.isAgg0
 z0:=Tryz.sizeOf0
 v0:=Tryz.zeroValue0
 t3:=underlying3
 a3:=Tryz.isAgg3
 z3:=Tryz.sizeOf3
 v3:=Tryz.zeroValue3
 t4:=underlying4
 a4:=Tryz.isAgg4
 z4:=Tryz.sizeOf4
 v4:=Tryz.zeroValue4
 t22:=underlying59
 a22:=Tryz.isAgg59
 z22:=Tryz.sizeOf59
 v22:=Tryz.zeroValue59
 a23:=Tryz.isAgg9
 z23:=Tryz.sizeOf9 }
end Go.Proofs

set_option maxRecDepth 100000
set_option maxHeartbeats 4000000
namespace Go.Proofs.YtdpomdelmdofmaaGreatDoor
open Go.Proofs.Tryz
open Go.RowKit Go.Maps Go.Sort Go.Shelf Go.Lib
variable{w:D0}
theorem Zc:EqlAt AI 9 encStr (fun x y:By=>decide (x=y)):=by
 have h:=EqlAt.string AI 9;refine⟨fun x y w=>?_,fun op a b x y w=>h.2 op a b _ _ w⟩;rw[show encStr x=.string ⟨x.toArray⟩ from rfl,show encStr y=.string ⟨y.toArray⟩ from rfl,h.1];simp only[CR]
 grind
theorem Zb:NeqAt AI 9 encStr (fun x y:By=>decide (x=y)):=by
 have h:=NeqAt.string AI 9;refine⟨fun x y w=>?_,fun op a b x y w=>h.2 op a b _ _ w⟩;rw[show encStr x=.string ⟨x.toArray⟩ from rfl,show encStr y=.string ⟨y.toArray⟩ from rfl,h.1];simp only[CR]
 grind
theorem Pg{a:Option Addr}{c:Nat}:D3 AI 253 #[.slice a 0 c] w fun e w'=>e=.returned (.slice a 0 c)/\w'=w:=by
 go_enter func253,ntmps253
 go_wp2_with (fail)
 go_ret
 simp_all
theorem NW{B g cap:Nat}{cur:Array AS}{w0:D0}{ss:List By}(hb:A3 B w0 w)(hg:B<=g)(h:w.heap[g]? = some (.cells cur 9 (0,0)))(hc:ss.length<=cap)(q9:cur.size=cap)(ht:cur.toList.take ss.length=ss.map encStr)(qd:ss.length<=1000000):
  D3 AI 187 #[.slice (some ⟨g,0,none⟩) ss.length cap] w fun e w1=>e=.returned (.tuple #[])/\D3 AI 253 #[.slice (some ⟨g,0,none⟩) ss.length cap] w1 fun e w2=>
   ∃ks:List By,e=.returned (.slice (some ⟨g,0,none⟩) ks.length cap)/\ks.Pairwise (fun a b=>a<b)/\(∀k,k∈ks<->k∈ss)/\ks.length<=cap/\SR w2 g ks.length ks/\A3 B w0 w2:=by
 have q6:g<w.heap.size:=by grind
 have qb:FD=9223372036854775807:=by rfl
 have q4:D3 AI 187 #[.slice (some ⟨g,0,none⟩) ss.length cap] w _:=AnyM.slices_Sort_string Tryz.sort187 g 0 cap ss w (ML h ht) q6 (by omega);refine q4.mono ?_;rintro e w1 ⟨rfl,n,os,rfl⟩;refine⟨rfl,?_⟩;obtain⟨l,hl⟩:∃l,l=ss.mergeSort fun x y=>decide (x<=y):=⟨_,rfl⟩
 have q7:l.length=ss.length:=by simp_all
 rw[<- hl];have h1:(Dt w n).heap[g]? = some (.cells cur 9 (0,0)):=h;obtain⟨p1,p2,p3⟩:=Mg h1 l.toArray;obtain⟨w1,q5⟩:∃w1,w1=grow (putRow encStr (Dt w n) g 0 l.toArray) os:=⟨_,rfl⟩
 rw[<- q5];have hold:∀k,k<w.heap.size->w1.heap[k]? = (putRow encStr (Dt w n) g 0 l.toArray).heap[k]?:=fun k hk=>by
  rw[q5];exact Array.getElem?_append_left (by simp_all)
 have h2:w1.heap[g]? = some (.cells (putCells encStr 0 l.toArray cur) 9 (0,0)):=(hold g q6).trans p1;have hpc:(putCells encStr 0 l.toArray cur).size=cur.size:=by simp[putCells]
 have hb1:A3 B w0 w1:=by
  have hs:w1.heap.size=w.heap.size+os.size:=by simp_all
  refine⟨?_,?_,?_,by have:=hb.size;omega,fun k hk=>(hold k (by omega)).trans ((p2 k (by omega)).trans (hb.block k hk))⟩
  ·rw[q5];exact hb.os
  ·rw[q5];exact hb.tape
  ·rw[q5];exact hb.output
 have q8:(putCells encStr 0 l.toArray cur).toList.take l.length=l.map encStr:=by
  rw[Ig (by simp;omega) l.length (by simp)];exact List.take_of_length_le (by simp)
 have q0:D3 AI 253 #[.slice (some ⟨g,0,none⟩) l.toArray.size cap] w1 _:=AnyE.slices_Compact Tryz.eCompact encStr (fun x=>rfl) Zc Zb [] (fun w=>Tryz.zeroValue9 w) g 0 cap l.toArray w1 (ML h2 q8) (by simp;omega) (by simp;omega);have e1:l.toArray.size=ss.length:=by simp[q7]
 rw[e1] at q0;refine q0.mono ?_;rintro e w2 ⟨rfl,q,rfl⟩;obtain⟨c1,c2,c3⟩:=Pf (l:=l) (by rw[hl];exact List.pairwise_mergeSort (le:=fun a b:By=>decide (a<=b)) Xt Xu _);rw[q7] at c1 c2 c3;have h3:(Dt w1 q).heap[g]? = some (.cells (putCells encStr 0 l.toArray cur) 9 (0,0)):=h2;obtain⟨q1,q2,q3⟩:=Mg h3 (compactUpTo l.toArray ss.length++List.replicate (ss.length-(compactUpTo l.toArray ss.length).length) []).toArray;refine⟨compactUpTo l.toArray ss.length,rfl,c1,fun k=>?_,by omega,⟨_,q1,?_⟩,⟨hb1.os,hb1.tape,hb1.output,?_,fun k hk=>(q2 k (by omega)).trans (hb1.block k hk)⟩⟩
 ·simp_all
 ·rw[Ig (by grind) _ (by simp)];simp
 ·rw[q3];exact hb1.size
theorem Ov{P:AS->To->Prop}{D:List (Lit×A2 AS)}{xs:List (Lit×To)}(hp:Pt P D xs)(hx:Az xs)(k:By):k∈A6 (.map D:A2 AS) <-> ∃c,(Lit.string k,c)∈xs:=by
 rw[hp.keys];exact OC hx.2
theorem RS{m1 n1 m2 n2:Nat}{D1 D2:List (Lit×A2 AS)}{xs ys:List (Lit×To)}{P1 P2:AS->To->Prop}(o1:w.ownsMap AI 9 RV m1 n1 (.map D1))(p1:Pt P1 D1 xs)(o2:w.ownsMap AI 9 RV m2 n2 (.map D2))(p2:Pt P2 D2 ys)(hx:Az xs)(hy:Az ys)(qw:xs.length<=400000)(qx:ys.length<=400000):
  D3 AI 208 #[.map (some m1),.map (some m2)] w (Pw (BK xs ys) w):=by
 have zo:A5 (.map D1:A2 AS)<=400000:=by rw[Bs,p1.len];exact qw
 have zq:A5 (.map D2:A2 AS)<=400000:=by rw[Bs,p2.len];exact qx
 have zr:400000*1000000<=FD/\FD<=9223372036854775807:=by unfold FD;omega
 have zi:=Bg o1;have zj:=Bg o2;have qe:=Ab (fun (ss tt ks:List By) (h1:ss.Perm (A6 (.map D1:A2 AS))) (h2:tt.Perm (A6 (.map D2:A2 AS))) (hr:ks.Pairwise (fun a b=>a<b)) (hk:∀k,k∈ks<->k∈ss++tt)=>(show ks=BK xs ys from N5 hr (Kl hx hy) fun k=>by
  rw[hk,Cw hx hy,List.mem_append,h1.mem_iff,h2.mem_iff,Ov p1 hx,Ov p2 hy]))
 have HO:=Ab (And.intro o1 o2);obtain⟨Q,hQ⟩:∃Q,Q=Pw (BK xs ys) w:=⟨_,rfl⟩
 rw[<- hQ];have HQ:=Ab hQ;clear o1 o2 p1 p2 hx hy hQ qw qx
 go_enter func208,ntmps208
 go_wp2_with (fail);refine (BY.1 (Tryz.maps_Keys_141 (some m1) w)).mono ?_
 rintro e wa ⟨rfl,z6⟩;have qq:A3 w.heap.size w wa:=by rw[z6];exact (C1 _ _).alloc (CL _) _
 have hsa:wa.heap.size=w.heap.size+1:=by simp_all
 have qy:wa.cell? ⟨w.heap.size,0,none⟩=some (.map (some m1)):=by simp_all
 have q7:SeqGives AT 3 AI 188 #[.pointer (some ⟨w.heap.size,0,none⟩)] encStr (fun ss=>ss.Perm (A6 (.map D1:A2 AS))) (A5 (.map D1:A2 AS)) wa:=
  AnyZ.keys_gives (ρ:=Tryz.keys141_ren) { Tryz.keys141 with } AT _ trivial rfl (by omega) w.heap.size m1 n1 _ _ (by omega) qy (An (Aa HO).1 (qq.block m1 zi))
 have qi:CallsIn AT 5 AI 186 #[.func (.func 188) #[] #[.pointer (some ⟨w.heap.size,0,none⟩)]] wa fun e w'=>∃ (v:AS) (ss:List (List UInt8)),e=.returned v/\ss.Perm (A6 (.map D1:A2 AS))/\w'.ownsRow wa.heap.size 9 1 v ss.length (ss.map encStr)/\(v=.slice none 0 0<->ss=[])/\A3 wa.heap.size wa w':=
  AnyZ.collect_in (ρ:=Tryz.sorted140_ren) { Tryz.sorted140 with } AT 5 trivial trivial rfl (by omega) 188 _ trivial (enters_of func188 (by kernel_rfl) rfl) _ _ (by omega) (by omega) wa q7
 have zc:=Ab qq;have qn:=Ab qi;clear z6 qy q7 qi qq
 go_wp2_with (fail);refine (BY.1 (Aa qn)).mono ?_
 rintro e w3 ⟨v,ss,rfl,q5,qd,_,hb3⟩;obtain⟨va,vn,vc,rfl⟩:∃a n c,v=.slice a n c:=by
  rcases qd.2 with⟨e,_⟩|⟨_,_,_,e,_⟩<;>exact⟨_,_,_,e⟩
 have qg:A3 w.heap.size w w3:=(Aa zc).trans (hb3.mono (by omega));have zs:=hb3.size;have qu:=Ab qg;have qf:=Ab qd;have HP:=Ab q5;clear q5 qd hb3 qg
 go_wp2_with (fail);refine (BY.1 (Tryz.maps_Keys_141 (some m2) w3)).mono ?_
 rintro e wd ⟨rfl,z7⟩;have qr:A3 w3.heap.size w3 wd:=by rw[z7];exact (C1 _ _).alloc (CL _) _
 have zt:wd.heap.size=w3.heap.size+1:=by simp_all
 have hnd:wd.cell? ⟨w3.heap.size,0,none⟩=some (.map (some m2)):=by simp_all
 have qb:A3 w.heap.size w wd:=(Aa qu).trans (qr.mono (Aa qu).size);have q8:SeqStops AT 4 AI 188 #[.pointer (some ⟨w3.heap.size,0,none⟩)] encStr (fun ss=>ss.Perm (A6 (.map D2:A2 AS)) /\ ∀x,x∈ss<->has (.map D2:A2 AS) (.string x)=true) (fun z8=>z8.Nodup /\ ∀x∈z8,has (.map D2:A2 AS) (.string x)=true) (A5 (.map D2:A2 AS)) wd:=
  AnyZ.keys_stops (ρ:=Tryz.keys141_ren) { Tryz.keys141 with } AT _ trivial rfl (by omega) w3.heap.size m2 n2 _ wd (by omega) hnd (An (Aa HO).2 (qb.block m2 zj))
 have q6:wd.ownsRow w.heap.size 9 1 (.slice va vn vc) ss.length (ss.map encStr):=by
  have h1:=AC (w':=wd) (Aa qf) fun q hq=>qr.block q (AA (Aa qf) q hq).1;exact ownsRow_base_a h1 (by omega)
 have zl:ss.length<=400000:=by
  have h1:=(Aa HP).length_eq;have h2:(A6 (.map D1:A2 AS)).length=A5 (.map D1:A2 AS):=by rw[Bs];exact CD _
  omega
 have q9:=Ab (Vm (B:=w.heap.size) q6 (by omega) (by omega) (enters_of func188 (by kernel_rfl) rfl) q8);have ze:=Ab qb;clear z7 hnd q8 q6 qr qb
 go_wp2_with (fail);refine (BY.1 (Aa q9)).mono ?_
 rintro e w5 ⟨v5,tt,rfl,⟨q0,_⟩,qk,qp⟩;have q4:A3 w.heap.size w w5:=(Aa ze).trans qp;rcases qk with⟨_,⟨rfl,zk⟩|⟨g,cap,cur,rfl,hg,hgb,qj,qt,zn,htk⟩⟩
 ·have he:ss++tt=[]:=by grind
  have HK:=Ab (Aa qe ss tt [] (Aa HP) q0 F2 (fun k=>by rw[he]));have za:=Ab q4;clear q0 zk qp q4 he q9
  go_wp2_with (fail);have qz:D3 AI 187 #[.slice none 0 0] w5 fun e w'=>e=.returned (.tuple #[])/\w'=w5:=AnyM.slices_Sort_string_none Tryz.sort187 none 0 w5
  refine qz.mono ?_;rintro e w6 ⟨rfl,rfl⟩;clear qz
  go_wp2_with (fail);refine Pg.mono ?_
  rintro e w7 ⟨rfl,rfl⟩
  go_wp2_with (fail);show Q (.returned (.slice none 0 0)) _
  rw[Aa HQ];exact⟨Aa za,Or.inl ⟨(Aa HK).symm,_,_,rfl⟩⟩
 ·have zm:(ss++tt).length<=1000000:=by
   have h2:=q0.length_eq;have h3:(A6 (.map D2:A2 AS)).length=A5 (.map D2:A2 AS):=by rw[Bs];exact CD _
   grind
  have qo:=Ab (NW (ss:=ss++tt) (w0:=w) (B:=w.heap.size) q4 hg hgb qj (by omega) (by grind) zm);have zf:=Ab q0;generalize (ss++tt).length=nl at qo |-;clear q0 qp q4 hgb htk q9
  go_wp2_with (fail);refine (Aa qo).mono ?_
  rintro e w6 ⟨rfl,qh⟩;have qm:=Ab qh;clear qh qo
  go_wp2_with (fail);refine (Aa qm).mono ?_
  rintro e w7 ⟨ks,rfl,hr,hk,zh,z1,qv⟩;have HK:=Ab (Aa qe ss tt ks (Aa HP) (Aa zf) hr hk);have zb:=Ab qv;have zg:=Ab z1;clear hr hk z1 qv
  go_wp2_with (fail);show Q (.returned (.slice (some ⟨g,0,none⟩) ks.length cap)) _
  rw[Aa HQ,<- Aa HK];exact⟨Aa zb,Or.inr ⟨g,cap,rfl,hg,zh,qt,Aa zg⟩⟩
end Go.Proofs.YtdpomdelmdofmaaGreatDoor
