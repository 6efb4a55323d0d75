/-
  DIFF, the walk of values given.
-/
import Derived.Test.YtdpomdelmdofmaaGreatDoorMrg40
import Derived.Test.YtdpomdelmdofmaaGreatDoorMrg18
import Derived.Test.YtdpomdelmdofmaaGreatDoorMrg23
import Derived.RangeFuncWrites
import Derived.RangeFuncMany
import Derived.Shelf.SlIter.Stops
import Derived.OwnWalkIn
import Derived.TacticsInMore
import Derived.LoopNIn
import Derived.LoopIn
import Derived.Test.YtdpomdelmdofmaaGreatDoorMrg12
import Derived.Lib.SlicesCompact
import Derived.Test.YtdpomdelmdofmaaGreatDoorProg
import Derived.Shelf.SlicesE.Compact
import Derived.Test.YtdpomdelmdofmaaGreatDoorMrg39
import Derived.Test.YtdpomdelmdofmaaGreatDoorMrg26
namespace Go.Proofs.YtdpomdelmdofmaaGreatDoor
open Go.RowKit Go.Maps
def ValuesOk:Prop:=∀ (d x n:Int) (F F':Nat→Prop) (w:World) (Mk:Nat) (M:Nat→Prop) (av bv:Value) (a b:Sp.V),n≤2000→Laid w→(∀k,k<NG→M k)→MkD w Mk n M []→(∀k,F k→M k)→(∀k,F' k→M k)→Rep top F w av a→Rep top F' w bv b→Sp.gd d x top 1 a→Sp.gd d x top 1 b→d≤20→Sp.sz top a≤160000→Sp.sz top b≤160000 →
 Calls Tryz.prog 123 #[.pointer (some ⟨Mk,0,none⟩),.slice none 0 0,av,bv] w (DfEnd Mk n M [] (Sp.diff n top [] a b) w)
theorem diff_ok_of (hV:ValuesOk):DiffOk:=by
 intro S lo d e n p v F s q p2 w hcfg hS hD hT hr hq
 obtain⟨hd1,hd2,hn2⟩:1≤d∧d≤20∧n≤2000:=by
  unfold Sp.cfg Sp.inB at hcfg
  simp at hcfg;omega
 obtain⟨hgd,hlen⟩:Sp.gd d e top 1 v.1∧(Sp.can top v.1).length≤80000:=by
  obtain⟨D,R,wp,_,hdw⟩:=hD
  exact⟨hdw.gd,hdw.len⟩
 have hgq:=read_gd hr
 have hs1:Sp.sz top v.1≤160000:=by have:=(Sp.can_sz hgd).2;omega
 have hs2:Sp.sz top q≤160000:=by have:=(Sp.can_sz hgq).2;have:=read_bd hr top;omega
 obtain⟨b1,b2⟩:=Sp.diff_bd (n:=n) (by omega) hgd hgq hs1 hs2
 refine sdiff_any hS hD hT b1 b2 fun D R wp _ hdw w1 hb=>diffPatch_any ?_
 obtain⟨T,a,iv,h1,_,_⟩:=hdw.ex
 have hn:Below w1.heap.size w1 (w1.alloc (.cells #[.int .i64 n,.slice none 0 0] 187)):=(Below.refl _ _).alloc (Nat.le_refl _) _
 have hr1:Rep top (fun _=>True) w wp v.1:=by
  rw[← h1.str]
  exact h1.sub.rep fun _ _=>trivial
 have hr2:Rep top (fun k=>k<w1.heap.size) w1 wp v.1:=(hr1.bel hb).move fun k _ hk=>⟨rfl,hk⟩
 have hr3:Rep top (fun k=>k<w1.heap.size) w1 (.pointer p2) q:=(hq.rep.bel hb).move fun k _ hk=>⟨rfl,hk⟩
 have hL1:Laid w1:=hT.below (hb.mono hT.ng)
 exact hV d e n _ _ _ _ _ _ _ _ _ hn2 (hL1.below (hn.mono hL1.ng)) (fun k hk=>Nat.lt_of_lt_of_le hk hL1.ng) (mk_new w1 n) (fun k hk=>hk) (fun k hk=>hk) (hr2.bel hn) (hr3.bel hn) hgd hgq hd2 hs1 hs2
end Go.Proofs.YtdpomdelmdofmaaGreatDoor

set_option maxRecDepth 100000
set_option maxHeartbeats 4000000
namespace Go.Proofs.YtdpomdelmdofmaaGreatDoor
open Go.RowKit Go.Maps Go.Sort Go.Shelf
attribute [local go_sem] Oper.semAt_some
structure ApI (w:World) (B:Nat) (ss0 ss:List Sp.By) (W:World):Prop where
 box:∃v,W.heap[w.heap.size]? = some (.cells #[v] 59 (0,0))∧W.ownsRow B 9 1 v (ss0++ss).length ((ss0++ss).map encStr)
 bel:Below B w W
 sz:w.heap.size<W.heap.size
theorem ApI.own {w:World} {B:Nat} {ss0:List Sp.By} (hB:B≤w.heap.size):OwnFrom (w.heap.size+1) (ApI w B ss0):=by
 intro s X Y row h hg hr
 obtain⟨v,hv,ho⟩:=h.box
 have hsz:=h.sz
 have hne:∀g,v.ownBlock=some g→some g≠row:=fun g hg' e=>by
  obtain⟨hb,o,hoo,hcc⟩:=hr g e.symm
  rcases ho.2 with⟨e1,_⟩|⟨g',cap,cur,e1,_,hgb,_⟩
  ·rw[e1] at hg';cases hg'
  ·rw[e1] at hg';injection hg' with hg';subst hg'
   rw[hgb] at hoo;cases hoo;cases hcc
 exact⟨⟨v,(hg.block _ hsz (fun e=>by have:=(hr _ e.symm).1;omega)).trans hv,ownsN_kept ho fun g hg'=>hg.block g (ownsN_lt ho g hg').1 (hne g hg')⟩,h.bel.grown hg (by have:=h.bel.size;omega) (fun k e=>by have:=(hr k e).1;omega),Nat.lt_of_lt_of_le hsz hg.size⟩
theorem ApI.next {w W w3:World} {B:Nat} {ss0 ss:List Sp.By} {x:Sp.By} {v v':Value} (hB:B≤w.heap.size) (h:ApI w B ss0 ss W) (hv:W.heap[w.heap.size]? = some (.cells #[v] 59 (0,0))) (ho:W.ownsRow B 9 1 v (ss0++ss).length ((ss0++ss).map encStr))
  (hg:(W.alloc (.cells #[encStr x] 9)).grownBy w3 v.ownBlock) (ho3:w3.ownsRow B 9 1 v' ((ss0++ss).length+1) ((ss0++ss).map encStr++[encStr x])) :
  w3.heap[w.heap.size]? = some (.cells #[v] 59 (0,0))∧KeepsOthers W (w3.setCell ⟨w.heap.size,0,none⟩ v')∧ApI w B ss0 (ss++[x]) (w3.setCell ⟨w.heap.size,0,none⟩ v'):=by
 have hsz:=h.sz
 have hne:some w.heap.size≠v.ownBlock:=fun e=>by
  rcases ho.2 with⟨e1,_⟩|⟨g,cap,cur,e1,_,hgb,_⟩
  ·rw[e1] at e;cases e
  ·rw[e1] at e;injection e with e
   rw[show g=w.heap.size from e.symm,hv] at hgb
   injection hgb with hgb
   injection hgb with _ h2 _
   exact absurd h2 (by decide)
 have h3:w3.heap[w.heap.size]? = some (.cells #[v] 59 (0,0)):=((hg.block _ (by simp;omega) hne).trans (Below.heap_alloc _ _ _ hsz)).trans hv
 have hne':some w.heap.size≠v'.ownBlock:=fun e=>by
  rcases ho3.2 with⟨e1,_⟩|⟨g,cap,cur,e1,_,hgb,_⟩
  ·rw[e1] at e;cases e
  ·rw[e1] at e;injection e with e
   rw[show g=w.heap.size from e.symm,h3] at hgb
   injection hgb with hgb
   injection hgb with _ h2 _
   exact absurd h2 (by decide)
 have hs3:W.heap.size+1≤w3.heap.size:=by have:=hg.size;simpa using this
 refine⟨h3,((KeepsOthers.alloc W _).trans (KeepsOthers.of_grownBy hg fun j o hj ho'=>?_)).trans (KeepsOthers.setCell _ _ _),⟨v',heap_setCell_box_a v' h3,?_⟩,?_,?_⟩
 ·rcases ho.2 with⟨e1,_⟩|⟨g,cap,cur,e1,_,hgb,_⟩
  ·rw[e1] at hj;cases hj
  ·rw[e1] at hj;injection hj with hj;subst hj
   rw[Below.heap_alloc _ _ _ (Array.getElem?_eq_some_iff.1 hgb).1,hgb] at ho'
   cases ho';rfl
 ·have e1:(ss0++(ss++[x])).length=(ss0++ss).length+1:=by simp;omega
  have e2:(ss0++(ss++[x])).map encStr=(ss0++ss).map encStr++[encStr x]:=by simp
  rw[e1,e2]
  exact ownsN_kept ho3 fun g hg'=>Below.heap_setCell _ _ _ _ (fun e=>hne' (by rw[hg'];exact congrArg some e.symm))
 ·have hb1:Below B w (W.alloc (.cells #[encStr x] 9)):=h.bel.alloc (by have:=h.bel.size;omega) _
  have hb3:=hb1.grown hg (by have:=h.bel.size;simp;omega) (fun k e=>(ownsN_lt ho k e).2)
  exact⟨hb3.os,hb3.tape,hb3.output,by simpa[World.setCell] using hb3.size,fun k hk=>(Below.heap_setCell _ _ _ _ (by show k≠w.heap.size;omega)).trans (hb3.block k hk)⟩
 ·simp[World.setCell];omega
theorem appSeq_in {g:Nat} {lb:Array Value} {S Sq:List Sp.By→Prop} {N B:Nat} {w:World} {v0:Value} {ss0:List Sp.By} (hown:w.ownsRow B 9 1 v0 ss0.length (ss0.map encStr)) (hB:B≤w.heap.size) (hN:ss0.length+N≤1000000) (eg:∀args w,(callFunc g args).run Tryz.prog w = .ok (.enter g args) w)
  (hseq:SeqStops Fence.wide 4 Tryz.prog g lb encStr S Sq N w) :
  CallsIn Fence.wide 5 Tryz.prog 226 #[v0,.func (.func g) #[] lb] w fun e w'=>∃v ss,e = .returned v∧S ss∧w'.ownsRow B 9 1 v (ss0++ss).length ((ss0++ss).map encStr)∧Below B w w':=by
 obtain⟨i0,hi,h0⟩:=Option.map_eq_some_iff.1 n_str
 injection h0 with hz h0
 injection h0 with hz2 hz3
 obtain⟨z0,hz9⟩:∃z0,z0=Value.string ⟨#[]⟩:=⟨_,rfl⟩
 rw[← hz9] at hz
 have hz1:z0.cells.size=1:=by rw[hz9];rfl
 obtain⟨va,vn,vc,rfl⟩:∃a n c,v0 = .slice a n c:=by
  rcases hown.2 with⟨e,_⟩|⟨_,_,_,e,_⟩
  ·exact⟨_,_,_,e⟩
  ·exact⟨_,_,_,e⟩
 obtain⟨w1,hw1⟩:∃w1,w1=w.alloc (.cells #[.slice va vn vc] 59):=⟨_,rfl⟩
 have hb1:Below w.heap.size w w1:=by rw[hw1];exact (Below.refl _ _).alloc (Nat.le_refl _) _
 have hs1:w1.heap.size=w.heap.size+1:=by rw[hw1];simp
 have hI0:ApI w B ss0 [] w1:=⟨⟨_,by rw[hw1];exact heap_alloc_new w _,by simpa using ownsN_kept hown fun q hq=>hb1.block q (ownsN_lt hown q hq).1⟩,hb1.mono hB,by omega⟩
 have HI0:=hide hI0
 have HB1:=hide hb1
 have HW1:=hide hw1
 have HSQ:=hide (show SeqStopsK Fence.wide (5-1) Tryz.prog g lb (fun x=>#[encStr x]) KeepsWalks S Sq N w from hseq)
 have HEG:=hide eg
 have HS1:=hide hs1
 clear hI0 hb1 hw1 hseq eg hs1 hown
 refine callsIn_of_wp_marks Tryz.func226 rfl trivial ?_ rfl
 simp only[Tryz.ntmps226,List.size_toArray,List.length_cons,List.length_nil,Nat.reduceAdd,Nat.reduceSub,Array.replicate_succ,Array.replicate_zero,List.push_toArray,List.append_toArray,List.nil_append,List.cons_append]
 gi_wp2
 rw[← unhide HW1]
 refine wpIn_rangeFunc_ownG (encs:=fun x:Sp.By=>#[encStr x]) (Kp:=KeepsWalks) (w0:=w) rfl (by omega) rfl trivial (unhide HEG) (unhide HSQ) KeepsWalks.trans (fun W l o o' _ h _ hw=>KeepsWalks.putObj o' h hw) (unhide HB1) (fun _=>rfl)
  (ApI w B ss0) (fun _ _ _=>False) (by rw[unhide HS1];exact ApI.own hB) (fun _ _ _ _ _ h _ _=>h) (unhide HI0)
  (fun x=>{ tmps:=#[.slice va vn vc,.func (.func g) #[] lb,.pointer (some ⟨w.heap.size,0,none⟩),undef,.slice none 0 0,encStr x,.func (.func g) #[] lb,encStr x,undef,undef,undef,undef,undef],defers:=[] }) ?hassign ?hbody ?hdone ?hstop
 case hassign =>
  intro l x W K hK
  gi_wp2
  exact hK
 case hbody =>
  intro l pre x W hI hlen
  obtain⟨v,hv,ho⟩:=hI.box
  have hx:pre.length<N:=hlen
  have hlw:(ss0++pre).length<1000000:=by simp;omega
  obtain⟨c0,f0⟩:=cell_of_box_a hv
  obtain⟨ua,un,uc,rfl⟩:∃a n c,v = .slice a n c:=by
   rcases ho.2 with⟨e,_⟩|⟨_,_,_,e,_⟩
   ·exact⟨_,_,_,e⟩
   ·exact⟨_,_,_,e⟩
  have HII:=hide hI
  have HV:=hide hv
  have HO:=hide ho
  clear hI hv ho hlen
  gi_wp2_with (gi_at_builtin;refine wpListIn_append_own _ rfl _ _ 59 rfl B 9 i0 z0 1 16 Tryz.underlying59 hi hz hz2 hz3 hz1 (by decide) (.slice ua un uc) (ss0++pre).length ((ss0++pre).map encStr) rfl ((unhide HO).alloc _) ⟨W.heap.size,0,none⟩ 1 1 [encStr x] rfl rfl (cell_one_new _ _ _) (by simp[Value.oneCell',encStr]) (by unfold maxLen;omega) (by omega) (by have:=(unhide HII).bel.size;simp;omega) ?_;intro v' w3 hown3 hgrow hnil;obtain⟨xa,xn,xc,rfl⟩:∃a n c,v' = .slice a n c:=(by rcases hown3.2 with⟨e,_⟩|⟨_,_,_,e,_⟩<;>exact⟨_,_,_,e⟩);have hnx:=ApI.next hB (unhide HII) (unhide HV) (unhide HO) hgrow hown3;obtain⟨d0,z9⟩:=cell_of_box_a hnx.1;have HNX:=hide hnx.2;clear hnx hown3 hgrow hnil)
  exact⟨(unhide HNX).1.from _,(unhide HNX).1.walks,(unhide HNX).2⟩
 case hdone =>
  intro D xs W hD hS hI hK
  obtain⟨v,hv,ho⟩:=hI.box
  obtain⟨c0,f0⟩:=cell_of_box_a hv
  have HV:=hide ho
  have HII:=hide hI
  clear hv ho hI
  gi_wp2
  refine⟨by simp,.inl ⟨_,_,rfl,run_takeDeferred hK,?_⟩⟩
  have hDs:w.heap.size+1≤D:=by have:=unhide HS1;omega
  refine⟨_,results_tmp rfl _ _ _,v,xs,rfl,hS,ownsN_kept (unhide HV) fun q hq=>World.putObj_heap_other (fun e=>?_),?_⟩
  ·rcases (unhide HV).2 with⟨e1,_⟩|⟨g',cap,cur,e1,_,hgb,_⟩
   ·rw[e1] at hq;cases hq
   ·rw[e1] at hq;injection hq with hq;subst hq;subst e
    rw[hK] at hgb;cases hgb
  ·have hb:=(unhide HII).bel
   exact⟨hb.os,hb.tape,hb.output,by simpa[World.putObj] using hb.size,fun k hk=>(World.putObj_heap_other (by omega)).trans (hb.block k hk)⟩
 case hstop =>
  intro D c pre W _ _ hf _
  exact hf.elim
end Go.Proofs.YtdpomdelmdofmaaGreatDoor

namespace Go.Proofs.YtdpomdelmdofmaaGreatDoor
open Go.RowKit Go.Maps Go.Sort Go.Lib
theorem by_total (a b:Sp.By):(decide (a≤b) || decide (b≤a))=true:=by
 rcases List.le_total a b with h|h<;>simp[h]
theorem by_trans (a b c:Sp.By) (h1:decide (a≤b)=true) (h2:decide (b≤c)=true):decide (a≤c)=true:=by
 simp only[decide_eq_true_eq] at h1 h2 ⊢
 exact List.le_trans h1 h2
theorem by_lt {a b:Sp.By} (h:a≤b) (hne:a≠b):a<b:=by
 rcases List.le_iff_lt_or_eq.1 h with h|h
 ·exact h
 ·exact absurd h hne
theorem compact_inv {d:Array Sp.By} (hs:∀i j,i≤j→j<d.size→d[i]! ≤ d[j]!):∀m,m≤d.size→(compactUpTo d m).Pairwise (fun a b=>a<b)∧(∀k,k∈compactUpTo d m ↔ ∃j,j<m∧d[j]! = k) ∧ ∀k∈compactUpTo d m,k≤d[m-1]!
 | 0,_=>by
  have e:compactUpTo d 0=[]:=rfl
  rw[e]
  exact⟨List.Pairwise.nil,fun k=>⟨fun h=>(by cases h),fun ⟨j,h,_⟩=>absurd h (by omega)⟩,fun k h=>(by cases h)⟩
 | m+1,hm=>by
  obtain⟨h1,h2,h3⟩:=compact_inv hs m (by omega)
  rw[compactUpTo_succ]
  have hmem:∀k,(∃j,j<m+1∧d[j]! = k)↔(∃j,j<m∧d[j]! = k)∨d[m]! = k:=fun k=>by
   constructor
   ·rintro⟨j,hj,e⟩
    by_cases hjm:j=m
    ·subst hjm;exact Or.inr e
    ·exact Or.inl ⟨j,by omega,e⟩
   ·rintro (⟨j,hj,e⟩|e)
    ·exact⟨j,by omega,e⟩
    ·exact⟨m,by omega,e⟩
  have hle:∀k∈compactUpTo d m,k≤d[m]!:=fun k hk=>by
   obtain⟨j,hj,e⟩:=(h2 k).1 hk
   rw[← e]
   exact hs j m (by omega) (by omega)
  by_cases hkp:keeps d m=true
  ·rw[if_pos hkp]
   refine⟨List.pairwise_append.2 ⟨h1,by simp,fun a ha b hb=>?_⟩,fun k=>?_,fun k hk=>?_⟩
   ·obtain rfl:b=d[m]!:=by simpa using hb
    unfold keeps at hkp
    rcases of_decide_eq_true hkp with e|e
    ·subst e
     obtain⟨j,hj,_⟩:=(h2 a).1 ha
     omega
    ·have hm0:0<m:=by
      obtain⟨j,hj,_⟩:=(h2 a).1 ha
      omega
     refine List.lt_of_le_of_lt (h3 a ha) (by_lt (hs (m-1) m (by omega) (by omega)) (fun h=>e h.symm))
   ·rw[List.mem_append,h2,hmem]
    simp[eq_comm]
   ·rw[Nat.add_sub_cancel]
    rcases List.mem_append.1 hk with hk|hk
    ·exact hle k hk
    ·obtain rfl:k=d[m]!:=by simpa using hk
     exact List.le_refl _
  ·have hkf:keeps d m=false:=by simpa using hkp
   rw[hkf,if_neg (by decide),List.append_nil]
   have hm0:0<m:=by
    rcases Nat.eq_zero_or_pos m with rfl|h
    ·exact absurd (show keeps d 0=true by simp[keeps]) hkp
    ·exact h
   have heq:d[m]! = d[m-1]!:=by
    unfold keeps at hkf
    have:=of_decide_eq_false hkf
    exact Classical.byContradiction fun h=>this (Or.inr h)
   refine⟨h1,fun k=>?_,fun k hk=>by rw[Nat.add_sub_cancel];exact hle k hk⟩
   rw[h2,hmem]
   refine⟨Or.inl,fun h=>h.elim id fun e=>⟨m-1,by omega,by rw[← heq];exact e⟩⟩
theorem compact_rise {l:List Sp.By} (hs:l.Pairwise (fun a b=>decide (a≤b)=true)):(compactUpTo l.toArray l.length).Pairwise (fun a b=>a<b)∧(∀k,k∈compactUpTo l.toArray l.length↔k∈l)∧(compactUpTo l.toArray l.length).length≤l.length:=by
 have hg:∀i (h:i<l.length),l.toArray[i]! = l[i]:=fun i h=>by rw[getElem!_pos _ i (by simpa using h)];simp
 obtain⟨h1,h2,_⟩:=compact_inv (d:=l.toArray) (fun i j hij hj=>by
  have hj':j<l.length:=by simpa using hj
  rw[hg i (by omega),hg j hj']
  by_cases e:i=j
  ·subst e;exact List.le_refl _
  ·exact of_decide_eq_true (List.pairwise_iff_getElem.1 hs i j (by omega) hj' (by omega))) l.length (by simp)
 refine⟨h1,fun k=>?_,?_⟩
 ·rw[h2,List.mem_iff_getElem]
  constructor
  ·rintro⟨j,hj,e⟩
   exact⟨j,hj,by rw[← hg j hj];exact e⟩
  ·rintro⟨j,hj,e⟩
   exact⟨j,hj,by rw[hg j hj];exact e⟩
 ·unfold compactUpTo
  rw[List.length_map]
  exact Nat.le_trans (List.length_filter_le _ _) (by simp)
theorem put_block {w:World} {g:Nat} {cur:Array Value} {T:TypeId} {fr:Nat×Nat} (h:w.heap[g]? = some (.cells cur T fr)) (d:Array Sp.By) :
  (putRow encStr w g 0 d).heap[g]? = some (.cells (putCells encStr 0 d cur) T fr)∧(∀k,k≠g→(putRow encStr w g 0 d).heap[k]? = w.heap[k]?)∧(putRow encStr w g 0 d).heap.size=w.heap.size:=by
 refine⟨?_,fun k hk=>?_,by simp[putRow,mapBlock]⟩
 ·simp only[putRow,mapBlock,Array.getElem?_modify]
  rw[if_pos trivial,h];rfl
 ·simp only[putRow,mapBlock,Array.getElem?_modify]
  rw[if_neg (fun e=>hk e.symm)]
theorem putCells_take {d:Array Sp.By} {cur:Array Value} (h:d.size≤cur.size) (n:Nat) (hn:n≤d.size):(putCells encStr 0 d cur).toList.take n=(d.toList.map encStr).take n:=by
 apply List.ext_getElem?
 intro i
 by_cases hi:i<n
 ·rw[List.getElem?_take_of_lt hi,List.getElem?_take_of_lt hi]
  have h1:i<cur.size:=by omega
  have h2:i<d.size:=by omega
  simp[putCells,h1,h2,getElem!_pos]
 ·rw[List.getElem?_eq_none (by simp;omega),List.getElem?_eq_none (by simp;omega)]
theorem holds_row {w:World} {g:Nat} {cur:Array Value} {T:TypeId} {ss:List Sp.By} (h:w.heap[g]? = some (.cells cur T (0,0))) (ht:cur.toList.take ss.length=ss.map encStr):Holds encStr w g 0 ss.toArray:=by
 intro j hj
 have hj':j<ss.length:=by simpa using hj
 rw[Nat.zero_add]
 refine⟨?_,by simp[World.frozen?,h]⟩
 have e:(ss.map encStr)[j]? = some (encStr ss[j]):=by simp[hj']
 rw[← ht,List.getElem?_take_of_lt hj'] at e
 have e2:w.cell? ⟨g,j,none⟩=cur[j]?:=by simp[World.cell?,h]
 rw[e2,← Array.getElem?_toList,e,getElem!_pos _ j (by simpa using hj')]
 simp
end Go.Proofs.YtdpomdelmdofmaaGreatDoor

namespace Go.Proofs
open Go.Shelf
def Tryz.eCompact_ren:Go.Shelf.Ren:=⟨fun|43=>253|n=>n,fun|22=>59|23=>9|3=>3|4=>4|0=>0|n=>n,fun|n=>n⟩
theorem Tryz.eCompact:Go.Proofs.SlLaysE.n43 Tryz.prog Tryz.eCompact_ren:={
 mixed:=by kernel_rfl
 f43:=⟨Tryz.f253.name,by decide,Tryz.func253.trans (congrArg some (by kernel_rfl))⟩
 t0:=Tryz.underlying0
 a0:=Tryz.isAgg0
 z0:=Tryz.sizeOf0
 v0:=Tryz.zeroValue0
 t3:=Tryz.underlying3
 a3:=Tryz.isAgg3
 z3:=Tryz.sizeOf3
 v3:=Tryz.zeroValue3
 t4:=Tryz.underlying4
 a4:=Tryz.isAgg4
 z4:=Tryz.sizeOf4
 v4:=Tryz.zeroValue4
 t22:=Tryz.underlying59
 a22:=Tryz.isAgg59
 z22:=Tryz.sizeOf59
 v22:=Tryz.zeroValue59
 a23:=Tryz.isAgg9
 z23:=Tryz.sizeOf9 }
end Go.Proofs

set_option maxRecDepth 100000
set_option maxHeartbeats 4000000
namespace Go.Proofs.YtdpomdelmdofmaaGreatDoor
open Go.RowKit Go.Maps Go.Sort Go.Shelf Go.Lib
theorem enc_eql:EqlAt Tryz.prog 9 encStr (fun x y:Sp.By=>decide (x=y)):=by
 have h:=EqlAt.string Tryz.prog 9
 refine⟨fun x y w=>?_,fun op a b x y w=>h.2 op a b _ _ w⟩
 rw[show encStr x = .string ⟨x.toArray⟩ from rfl,show encStr y = .string ⟨y.toArray⟩ from rfl,h.1]
 simp only[ByteArray.toList_eq]
 by_cases e:x=y<;>simp[e]
theorem enc_neq:NeqAt Tryz.prog 9 encStr (fun x y:Sp.By=>decide (x=y)):=by
 have h:=NeqAt.string Tryz.prog 9
 refine⟨fun x y w=>?_,fun op a b x y w=>h.2 op a b _ _ w⟩
 rw[show encStr x = .string ⟨x.toArray⟩ from rfl,show encStr y = .string ⟨y.toArray⟩ from rfl,h.1]
 simp only[ByteArray.toList_eq]
 by_cases e:x=y<;>simp[e]
theorem compact_none {a:Option Addr} {c:Nat} {w:World}:Calls Tryz.prog 253 #[.slice a 0 c] w fun e w'=>e = .returned (.slice a 0 c)∧w'=w:=by
 go_enter Tryz.func253,Tryz.ntmps253
 go_wp2_with (fail)
 go_ret
 exact⟨rfl,rfl⟩
theorem sort_compact {B g cap:Nat} {cur:Array Value} {w0 w:World} {ss:List Sp.By} (hb:Below B w0 w) (hg:B≤g) (h:w.heap[g]? = some (.cells cur 9 (0,0))) (hc:ss.length≤cap) (hcs:cur.size=cap) (ht:cur.toList.take ss.length=ss.map encStr) (hss:ss.length≤1000000) :
  Calls Tryz.prog 187 #[.slice (some ⟨g,0,none⟩) ss.length cap] w fun e w1=>e = .returned (.tuple #[])∧Calls Tryz.prog 253 #[.slice (some ⟨g,0,none⟩) ss.length cap] w1 fun e w2 =>
   ∃ks:List Sp.By,e = .returned (.slice (some ⟨g,0,none⟩) ks.length cap)∧ks.Pairwise (fun a b=>a<b)∧(∀k,k∈ks↔k∈ss)∧ks.length≤cap∧SR w2 g ks.length ks∧Below B w0 w2:=by
 have hgl:g<w.heap.size:=(Array.getElem?_eq_some_iff.1 h).1
 have hml:maxLen=9223372036854775807:=by unfold maxLen;omega
 have hsort:Calls Tryz.prog 187 #[.slice (some ⟨g,0,none⟩) ss.length cap] w _:=AnyM.slices_Sort_string Tryz.sort187 g 0 cap ss w (holds_row h ht) hgl (by omega)
 refine hsort.mono ?_
 rintro e w1 ⟨rfl,n,os,rfl⟩
 refine⟨rfl,?_⟩
 obtain⟨l,hl⟩:∃l,l=ss.mergeSort fun x y=>decide (x≤y):=⟨_,rfl⟩
 have hll:l.length=ss.length:=by rw[hl,List.length_mergeSort]
 rw[← hl]
 have h1:(Sort.ahead w n).heap[g]? = some (.cells cur 9 (0,0)):=h
 obtain⟨p1,p2,p3⟩:=put_block h1 l.toArray
 obtain⟨w1,hw1⟩:∃w1,w1=grow (putRow encStr (Sort.ahead w n) g 0 l.toArray) os:=⟨_,rfl⟩
 rw[← hw1]
 have hold:∀k,k<w.heap.size→w1.heap[k]? = (putRow encStr (Sort.ahead w n) g 0 l.toArray).heap[k]?:=fun k hk=>by
  rw[hw1]
  exact Array.getElem?_append_left (by rw[p3];exact hk)
 have h2:w1.heap[g]? = some (.cells (putCells encStr 0 l.toArray cur) 9 (0,0)):=(hold g hgl).trans p1
 have hpc:(putCells encStr 0 l.toArray cur).size=cur.size:=by simp[putCells]
 have hb1:Below B w0 w1:=by
  have hs:w1.heap.size=w.heap.size+os.size:=by rw[hw1];simp[grow,p3]
  refine⟨?_,?_,?_,by have:=hb.size;omega,fun k hk=>(hold k (by have:=hb.size;omega)).trans ((p2 k (by omega)).trans (hb.block k hk))⟩
  ·rw[hw1];exact hb.os
  ·rw[hw1];exact hb.tape
  ·rw[hw1];exact hb.output
 have ht2:(putCells encStr 0 l.toArray cur).toList.take l.length=l.map encStr:=by
  rw[putCells_take (by simp;omega) l.length (by simp)]
  exact List.take_of_length_le (by simp)
 have hcomp:Calls Tryz.prog 253 #[.slice (some ⟨g,0,none⟩) l.toArray.size cap] w1 _:=AnyE.slices_Compact Tryz.eCompact encStr (fun x=>rfl) enc_eql enc_neq [] (fun w=>Tryz.zeroValue9 w) g 0 cap l.toArray w1 (holds_row h2 ht2) (by simp;omega) (by simp;omega)
 have e1:l.toArray.size=ss.length:=by simp[hll]
 rw[e1] at hcomp
 refine hcomp.mono ?_
 rintro e w2 ⟨rfl,q,rfl⟩
 obtain⟨c1,c2,c3⟩:=compact_rise (l:=l) (by rw[hl];exact List.pairwise_mergeSort (le:=fun a b:Sp.By=>decide (a≤b)) by_trans by_total _)
 rw[hll] at c1 c2 c3
 have h3:(Sort.ahead w1 q).heap[g]? = some (.cells (putCells encStr 0 l.toArray cur) 9 (0,0)):=h2
 obtain⟨q1,q2,q3⟩:=put_block h3 (compactUpTo l.toArray ss.length++List.replicate (ss.length-(compactUpTo l.toArray ss.length).length) []).toArray
 refine⟨compactUpTo l.toArray ss.length,rfl,c1,fun k=>?_,by omega,⟨_,q1,?_⟩,⟨hb1.os,hb1.tape,hb1.output,?_,fun k hk=>(q2 k (by omega)).trans (hb1.block k hk)⟩⟩
 ·rw[c2,hl]
  exact (List.mergeSort_perm _ _).mem_iff
 ·rw[putCells_take (by simp[hpc];omega) _ (by simp)]
  simp
 ·rw[q3];exact hb1.size
theorem mem_keys {P:Value→Sp.V→Prop} {D:List (Lit×DataW Value)} {xs:List (Lit×Sp.V)} (hp:Pt P D xs) (hx:Sp.Skey xs) (k:Sp.By):k∈strKeys (.map D:DataW Value) ↔ ∃c,(Lit.string k,c)∈xs:=by
 rw[hp.keys]
 exact Sp.keys_mem hx.2
theorem keysOf_any {w:World} {m1 n1 m2 n2:Nat} {D1 D2:List (Lit×DataW Value)} {xs ys:List (Lit×Sp.V)} {P1 P2:Value→Sp.V→Prop} (o1:w.ownsMap Tryz.prog 9 RV m1 n1 (.map D1)) (p1:Pt P1 D1 xs) (o2:w.ownsMap Tryz.prog 9 RV m2 n2 (.map D2)) (p2:Pt P2 D2 ys) (hx:Sp.Skey xs) (hy:Sp.Skey ys) (hlx:xs.length≤400000) (hly:ys.length≤400000) :
  Calls Tryz.prog 208 #[.map (some m1),.map (some m2)] w (KeysAt (Sp.ukeys xs ys) w):=by
 have hl1:Maps.size (.map D1:DataW Value)≤400000:=by rw[Maps.size_eq,p1.len];exact hlx
 have hl2:Maps.size (.map D2:DataW Value)≤400000:=by rw[Maps.size_eq,p2.len];exact hly
 have hml:400000*1000000≤maxLen∧maxLen≤9223372036854775807:=by unfold maxLen;omega
 have hm1:=map_lt o1
 have hm2:=map_lt o2
 have HFIN:=hide (fun (ss tt ks:List Sp.By) (h1:ss.Perm (strKeys (.map D1:DataW Value))) (h2:tt.Perm (strKeys (.map D2:DataW Value))) (hr:ks.Pairwise (fun a b=>a<b)) (hk:∀k,k∈ks↔k∈ss++tt)=>(show ks=Sp.ukeys xs ys from Sp.rise_one hr (Sp.ukeys_rise hx hy) fun k=>by
  rw[hk,Sp.ukeys_mem hx hy,List.mem_append,h1.mem_iff,h2.mem_iff,mem_keys p1 hx,mem_keys p2 hy]))
 have HO:=hide (And.intro o1 o2)
 obtain⟨Q,hQ⟩:∃Q,Q=KeysAt (Sp.ukeys xs ys) w:=⟨_,rfl⟩
 rw[← hQ]
 have HQ:=hide hQ
 clear o1 o2 p1 p2 hx hy hQ hlx hly
 go_enter Tryz.func208,Tryz.ntmps208
 go_wp2_with (fail)
 refine (callsIn_wide.1 (Tryz.maps_Keys_141 (some m1) w)).mono ?_
 rintro e wa ⟨rfl,hwa⟩
 have hba:Below w.heap.size w wa:=by rw[hwa];exact (Below.refl _ _).alloc (Nat.le_refl _) _
 have hsa:wa.heap.size=w.heap.size+1:=by rw[hwa];simp
 have hna:wa.cell? ⟨w.heap.size,0,none⟩=some (.map (some m1)):=by rw[hwa];simp
 have hseq1:SeqGives Fence.wide 3 Tryz.prog 188 #[.pointer (some ⟨w.heap.size,0,none⟩)] encStr (fun ss=>ss.Perm (strKeys (.map D1:DataW Value))) (Maps.size (.map D1:DataW Value)) wa :=
  AnyZ.keys_gives (ρ:=Tryz.keys141_ren) { Tryz.keys141 with } Fence.wide _ trivial rfl (by omega) w.heap.size m1 n1 _ _ (by omega) hna (map_kept (unhide HO).1 (hba.block m1 hm1))
 have hcol:CallsIn Fence.wide 5 Tryz.prog 186 #[.func (.func 188) #[] #[.pointer (some ⟨w.heap.size,0,none⟩)]] wa fun e w'=>∃ (v:Value) (ss:List (List UInt8)),e = .returned v∧ss.Perm (strKeys (.map D1:DataW Value))∧w'.ownsRow wa.heap.size 9 1 v ss.length (ss.map encStr)∧(v = .slice none 0 0↔ss=[])∧Below wa.heap.size wa w' :=
  AnyZ.collect_in (ρ:=Tryz.sorted140_ren) { Tryz.sorted140 with } Fence.wide 5 trivial trivial rfl (by omega) 188 _ trivial (enters_of Tryz.func188 (by kernel_rfl) rfl) _ _ (by omega) (by omega) wa hseq1
 have HBA:=hide hba
 have HCOL:=hide hcol
 clear hwa hna hseq1 hcol hba
 go_wp2_with (fail)
 refine (callsIn_wide.1 (unhide HCOL)).mono ?_
 rintro e w3 ⟨v,ss,rfl,hperm,hrow,_,hb3⟩
 obtain⟨va,vn,vc,rfl⟩:∃a n c,v = .slice a n c:=by
  rcases hrow.2 with⟨e,_⟩|⟨_,_,_,e,_⟩<;>exact⟨_,_,_,e⟩
 have hb03:Below w.heap.size w w3:=(unhide HBA).trans (hb3.mono (by omega))
 have hs3:=hb3.size
 have HB3:=hide hb03
 have HROW:=hide hrow
 have HP:=hide hperm
 clear hperm hrow hb3 hb03
 go_wp2_with (fail)
 refine (callsIn_wide.1 (Tryz.maps_Keys_141 (some m2) w3)).mono ?_
 rintro e wd ⟨rfl,hwd⟩
 have hbd:Below w3.heap.size w3 wd:=by rw[hwd];exact (Below.refl _ _).alloc (Nat.le_refl _) _
 have hsd:wd.heap.size=w3.heap.size+1:=by rw[hwd];simp
 have hnd:wd.cell? ⟨w3.heap.size,0,none⟩=some (.map (some m2)):=by rw[hwd];simp
 have hb0d:Below w.heap.size w wd:=(unhide HB3).trans (hbd.mono (unhide HB3).size)
 have hseq2:SeqStops Fence.wide 4 Tryz.prog 188 #[.pointer (some ⟨w3.heap.size,0,none⟩)] encStr (fun ss=>ss.Perm (strKeys (.map D2:DataW Value)) ∧ ∀x,x∈ss↔has (.map D2:DataW Value) (.string x)=true) (fun pre=>pre.Nodup ∧ ∀x∈pre,has (.map D2:DataW Value) (.string x)=true) (Maps.size (.map D2:DataW Value)) wd :=
  AnyZ.keys_stops (ρ:=Tryz.keys141_ren) { Tryz.keys141 with } Fence.wide _ trivial rfl (by omega) w3.heap.size m2 n2 _ wd (by omega) hnd (map_kept (unhide HO).2 (hb0d.block m2 hm2))
 have hrowd:wd.ownsRow w.heap.size 9 1 (.slice va vn vc) ss.length (ss.map encStr):=by
  have h1:=ownsN_kept (w':=wd) (unhide HROW) fun q hq=>hbd.block q (ownsN_lt (unhide HROW) q hq).1
  exact ownsRow_base_a h1 (by omega)
 have hssl:ss.length≤400000:=by
  have h1:=(unhide HP).length_eq
  have h2:(strKeys (.map D1:DataW Value)).length=Maps.size (.map D1:DataW Value):=by rw[Maps.size_eq];exact List.length_map _
  omega
 have HAPP:=hide (appSeq_in (B:=w.heap.size) hrowd (by omega) (by omega) (enters_of Tryz.func188 (by kernel_rfl) rfl) hseq2)
 have HBD:=hide hb0d
 clear hwd hnd hseq2 hrowd hbd hb0d
 go_wp2_with (fail)
 refine (callsIn_wide.1 (unhide HAPP)).mono ?_
 rintro e w5 ⟨v5,tt,rfl,⟨hperm2,_⟩,hrow5,hb5⟩
 have hb05:Below w.heap.size w w5:=(unhide HBD).trans hb5
 rcases hrow5 with⟨_,⟨rfl,hn0⟩|⟨g,cap,cur,rfl,hg,hgb,hncap,hcap,hcs,htk⟩⟩
 ·have he:ss++tt=[]:=List.eq_nil_of_length_eq_zero hn0
  have HK:=hide (unhide HFIN ss tt [] (unhide HP) hperm2 List.Pairwise.nil (fun k=>by rw[he]))
  have HB5:=hide hb05
  clear hperm2 hn0 hb5 hb05 he HAPP
  go_wp2_with (fail)
  have hs0:Calls Tryz.prog 187 #[.slice none 0 0] w5 fun e w'=>e = .returned (.tuple #[])∧w'=w5:=AnyM.slices_Sort_string_none Tryz.sort187 none 0 w5
  refine hs0.mono ?_
  rintro e w6 ⟨rfl,rfl⟩
  clear hs0
  go_wp2_with (fail)
  refine compact_none.mono ?_
  rintro e w7 ⟨rfl,rfl⟩
  go_wp2_with (fail)
  show Q (.returned (.slice none 0 0)) _
  rw[unhide HQ]
  exact⟨unhide HB5,Or.inl ⟨(unhide HK).symm,_,_,rfl⟩⟩
 ·have htl:(ss++tt).length≤1000000:=by
   have h2:=hperm2.length_eq
   have h3:(strKeys (.map D2:DataW Value)).length=Maps.size (.map D2:DataW Value):=by rw[Maps.size_eq];exact List.length_map _
   rw[List.length_append]
   omega
  have HSC:=hide (sort_compact (ss:=ss++tt) (w0:=w) (B:=w.heap.size) hb05 hg hgb hncap (by omega) (by simpa using htk) htl)
  have HP2:=hide hperm2
  generalize (ss++tt).length=nl at HSC ⊢
  clear hperm2 hb5 hb05 hgb htk HAPP
  go_wp2_with (fail)
  refine (unhide HSC).mono ?_
  rintro e w6 ⟨rfl,hcmp⟩
  have HCMP:=hide hcmp
  clear hcmp HSC
  go_wp2_with (fail)
  refine (unhide HCMP).mono ?_
  rintro e w7 ⟨ks,rfl,hr,hk,hkl,hsr,hb7⟩
  have HK:=hide (unhide HFIN ss tt ks (unhide HP) (unhide HP2) hr hk)
  have HB7:=hide hb7
  have HSR:=hide hsr
  clear hr hk hsr hb7
  go_wp2_with (fail)
  show Q (.returned (.slice (some ⟨g,0,none⟩) ks.length cap)) _
  rw[unhide HQ,← unhide HK]
  exact⟨unhide HB7,Or.inr ⟨g,cap,rfl,hg,hkl,hcap,unhide HSR⟩⟩
end Go.Proofs.YtdpomdelmdofmaaGreatDoor
