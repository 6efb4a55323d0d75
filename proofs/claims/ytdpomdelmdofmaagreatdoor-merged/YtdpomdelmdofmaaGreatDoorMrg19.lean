/-
  slices.Insert of one pointer into a row of pointers that has no room for it, not at its end.
-/
import Derived.Test.YtdpomdelmdofmaaGreatDoorMrg18
import Derived.Test.YtdpomdelmdofmaaGreatDoorMrg17
namespace Go.Proofs.YtdpomdelmdofmaaGreatDoor
section
set_option maxRecDepth 100000
set_option maxHeartbeats 8000000
open Go.RowKit
theorem wpList_zeros {P:Program} {w:World} {ops:Array Oper} {rest:List Oper} {o:Oper} {a:Act} {Q:Exit→Act→World→Prop} (hgd:o.guard=none) (s x:Operand) (t tn e:TypeId) (i:TypeInfo) (z:Value) (kn kq:IntKind)
  (ho:o.op = .call { callee:=.builtin .append,args:=#[s,x],argTypes:=#[t,tn] }) (ht:P.underlying t=some (.slice e)) (htn:P.underlying tn=some (.int kn)) (hi:P.info? e=some i) (hz:i.zero=some z) (hs1:i.size=1) (hb8:i.bytes=8) (hzc:z.cells.size=1)
  (g off sLen sCap:Nat) (hs:a.eval s = .slice (some ⟨g,off,none⟩) sLen sCap) (olds:List Value) (hl:olds.length=sLen) (hold:∀j u,olds[j]? = some u→w.cell? ((⟨g,off,none⟩:Addr).add j)=some u)
  (k:Nat) (h0:0<k) (hx:a.eval x = .int kq k) (hg:sCap<sLen+k) (hbd:sLen+k≤10000000000000) (tot:Nat) (htot:sLen+k=tot)
  (h:∀cap2 (cur:List Value) w1,tot≤cap2→cap2≤maxLen→cur.length=cap2→cur.take sLen=olds→Hid (w1.heap[w.heap.size]? = some (.cells cur.toArray e (0,0)))→Below w.heap.size w w1→wpList P ops Q rest (a.put o.dst (.slice (some ⟨w.heap.size,0,none⟩) tot cap2)) w1):wpList P ops Q (o::rest) a w:=by
 subst htot
 refine wpList_plain hgd fun K hK=>?_
 have hfc:(Builtin.firstCells i.size sLen (.slice (some ⟨g,off,none⟩) sLen sCap)).run P w.drew = .ok olds.toArray w.drew:=by
  rw[hs1]
  exact run_firstCells_some w.drew 1 sLen ⟨g,off,none⟩ sLen sCap olds (by omega) hold
 have hfit:=growslice_fits (bytes:=i.bytes) hg (by rw[hb8];omega)
 have hr:=Lib.run_append_grow_zeros (P:=P) w t tn o.type e i z kq kn ht htn hi hz (some ⟨g,off,none⟩) sLen sCap olds hfc k h0 (by omega) hg (by omega) (by rw[hb8];omega) hfit
 have hge:=grownCap_ge w (sLen+k) sCap e
 have hcm:grownCap w (sLen+k) sCap e≤maxLen:=grownCap_le_maxLen w (sLen+k) sCap e (by unfold maxLen;omega)
 have hfin:=h _ (olds++(Builtin.zeroCells z.cells k++Builtin.zeroCells z.cells (grownCap w (sLen+k) sCap e-(sLen+k))).toList) (w.drew.alloc (.cells (olds.toArray++Builtin.zeroCells z.cells k++Builtin.zeroCells z.cells (grownCap w (sLen+k) sCap e-(sLen+k))) e)) hge hcm (by
   simp only[List.length_append,Array.length_toList,Array.size_append,size_zeroCells,hzc];omega) (by rw[← hl,List.take_left]) (by
   have e1:(olds++(Builtin.zeroCells z.cells k++Builtin.zeroCells z.cells (grownCap w (sLen+k) sCap e-(sLen+k))).toList).toArray=olds.toArray++Builtin.zeroCells z.cells k++Builtin.zeroCells z.cells (grownCap w (sLen+k) sCap e-(sLen+k)):=by
    apply Array.toList_inj.1;simp
   rw[e1]
   exact heap_alloc_new w.drew _) ⟨rfl,rfl,rfl,by simp,fun j hj=>heap_alloc_old w.drew (.cells _ _) hj⟩
 unfold Oper.wp execOp
 simp only[ho,resolve,invoke,builtin,Sem.run_bind,Sem.run_pure,Result.andThen_ok,List.map_toArray,List.map_cons,List.map_nil,hs,hx,hr]
 exact hK _ _ hfin
theorem one_src {w:World} {q:Nat} {v:Value} (h:w.cell? ⟨q,0,none⟩=some v):∀j u,([v]:List Value)[j]? = some u→w.cell? ((⟨q,0,none⟩:Addr).add j)=some u:=by
 intro j u hj
 cases j with
 | zero=>injection hj with hj;subst hj;exact h
 | succ j=>simp at hj
theorem one_cells {x:Option Addr}:∀u∈[Value.pointer x],u.oneCell'=true:=by
 intro u hu
 simp at hu;subst hu;rfl
theorem take_some {α:Type} {l:List α} {i j:Nat} {u:α} (h:(l.take i)[j]? = some u):l[j]? = some u:=by
 rw[List.getElem?_take] at h
 split at h
 ·exact h
 ·cases h
theorem lins_row {l:List (Option Addr)} {i:Nat} {x:Option Addr} {cur:List Value} (hi:i≤l.length) (hc:l.length+1≤cur.length) (ht:cur.take i=(l.map Value.pointer).take i) :
  (splice (splice cur i [.pointer x]) (i+1) ((l.map Value.pointer).drop i)).take (l.length+1)=(Sp.lins i x l).map Value.pointer∧(splice (splice cur i [.pointer x]) (i+1) ((l.map Value.pointer).drop i)).length=cur.length:=by
 have h1:(cur.take i).length=i:=by rw[List.length_take];omega
 unfold splice Sp.lins
 constructor
 ·have e1:(List.take i cur++([Value.pointer x]++List.drop (i+[Value.pointer x].length) cur)).take (i+1)=List.take i cur++[Value.pointer x]:=by
   rw[List.take_append,h1]
   simp[List.take_of_length_le,h1]
  rw[e1,ht]
  rw[List.map_append,List.map_cons,List.map_take,List.map_drop]
  have h2:(List.take i (List.map Value.pointer l)++[Value.pointer x]++List.drop i (List.map Value.pointer l)).length=l.length+1:=by simp;omega
  rw[show ∀d:List Value,List.take i (List.map Value.pointer l)++[Value.pointer x]++(List.drop i (List.map Value.pointer l)++d)=(List.take i (List.map Value.pointer l)++[Value.pointer x]++List.drop i (List.map Value.pointer l))++d from fun d=>by simp]
  rw[← h2,List.take_left]
  simp
 ·simp;omega
section
variable {w:World} {sl:Value} {l:List (Option Addr)} {x:Option Addr} {q i:Nat}
theorem ins_grow {g:Nat} (ho:w.ownsRow 0 80 1 (.slice (some ⟨g,0,none⟩) l.length l.length) l.length (l.map Value.pointer)) (hq:w.heap[q]? = some (.cells #[.pointer x] 80 (0,0))) (hi:i<l.length) (hb:l.length≤1000000000000) :
  Calls Tryz.prog 291 #[.slice (some ⟨g,0,none⟩) l.length l.length,.int .i64 i,.slice (some ⟨q,0,none⟩) 1 1] w (InsEnd l i x (.slice (some ⟨g,0,none⟩) l.length l.length) w):=by
 obtain⟨i0,hi0,hz0,hz1,hz2⟩:=info_three ptr_info
 have hsz:(Tryz.prog.info? 80).map (·.size)=some 1:=by rw[hi0];simp[hz1]
 have hcells:∀j u,(l.map Value.pointer)[j]? = some u→w.cell? ((⟨g,0,none⟩:Addr).add j)=some u:=fun j u h=>ho.cells (g:=g) rfl j u h
 have hlt:g<w.heap.size∧q<w.heap.size:=⟨(ownsN_lt ho g rfl).1,(Array.getElem?_eq_some_iff.1 hq).1⟩
 obtain⟨N,hN⟩:∃N,N=l.length:=⟨_,rfl⟩
 have hcq:w.cell? ⟨q,0,none⟩=some (.pointer x):=by simp[World.cell?,hq]
 have HC:=hide hcells
 have HQ:=hide hcq
 have HN:=hide hN
 have hiN:i<N:=by omega
 have hN2:N≤1000000000000:=by omega
 have hne:¬ (i:Int)=(N:Int):=by omega
 have hi1:(i:Int)≤N:=by omega
 have HFIN:=hide (show ∀cap2 (cur:List Value) w3,l.length+1≤cap2→cap2≤maxLen→cur.length=cap2→cur.take i=(l.map Value.pointer).take i→w3.heap[w.heap.size]? = some (.cells (splice (splice cur i [.pointer x]) (i+1) ((l.map Value.pointer).drop i)).toArray 80 (0,0))→Below w.heap.size w w3→InsEnd l i x (.slice (some ⟨g,0,none⟩) l.length l.length) w (.returned (.slice (some ⟨w.heap.size,0,none⟩) (l.length+1) cap2)) w3 from fun cap2 cur w3 h1 h2 h3 h4 h5 hb3=>by
  obtain⟨r1,r2⟩:=lins_row (x:=x) (by omega) (show l.length+1≤cur.length by omega) h4
  refine⟨w.heap.size,cap2,rfl,⟨by simp[Sp.len_lins x (show i≤l.length by omega)],Or.inr ⟨w.heap.size,cap2,_,rfl,Nat.zero_le _,h5,h1,h2,by simp[r2,h3],?_⟩⟩,⟨hb3.os,hb3.tape,hb3.output,hb3.size,fun k hk _=>hb3.block k hk⟩,Or.inr (Nat.le_refl _)⟩
  rw[Nat.mul_one];exact r1)
 rw[← hN] at HFIN hb ⊢
 clear ho hq hi hcells hcq hN
 go_enter Tryz.func291,Tryz.ntmps291
 have hx9:Value.int .i64 ((N:Int)+1-(i:Int)) = .int .i64 ((N+1-i:Nat):Int):=by rw[show (N:Int)+1-(i:Int)=((N+1-i:Nat):Int) by omega]
 go_wp2_with (first
  | (at_builtin;refine wpList_zeros rfl _ _ 106 3 80 i0 (.pointer none) .i64 .i64 rfl Tryz.underlying106 Tryz.underlying3 hi0 hz0 hz1 hz2 rfl g 0 i N rfl ((l.map Value.pointer).take i) (by have:=unhide HN;simp;omega) (fun j u hj=>unhide HC j u (take_some hj)) (N+1-i) (by omega) hx9 (by omega) (by omega) (N+1) (by omega) ?_;intro cap2 cur w1 h1 h2 h3 h4 h5 hb1;have hq1:=(hb1.cell (p:=⟨q,0,none⟩) hlt.2).trans (unhide HQ);have hci:¬ cap2=i:=(by omega);have HQ1:=hide hq1;have HB1:=hide hb1;have H4:=hide h4;clear hq1 hb1 h4)
  | ((with_reducible refine copy_guard ?_);go_loud (refine wpList_copy_splice rfl _ _ 106 106 rfl 80 Tryz.underlying106 hsz (some ⟨w.heap.size,i,none⟩) (some ⟨q,0,none⟩) (N+1-i) (cap2-i) 1 1 rfl rfl w.heap.size i cur 80 (unhide h5) [.pointer x] (by simp[Nat.min_def];omega) (fun _=>⟨rfl,⟨q,0,none⟩,rfl,one_src (unhide HQ1)⟩) (by simp;omega) one_cells w.heap.size w (unhide HB1) (Nat.le_refl _) ?_);intro w2 h6 hb2;have HB2:=hide hb2;clear hb2))
 have hci2:¬ cap2=i+1:=by omega
 have hlen:Hid ((splice cur i [Value.pointer x]).length=cap2):=by
  have:=length_splice cur i [Value.pointer x] (by simp;omega)
  rw[h3] at this;exact this
 have hsrc:Hid (∀j v,((l.map Value.pointer).drop i)[j]? = some v→w2.cell? ((⟨g,i,none⟩:Addr).add j)=some v):=fun j v hj=>by
  rw[List.getElem?_drop] at hj
  have h9:=unhide HC (i+j) v hj
  rw[Addr.add_lit] at h9 ⊢
  rw[Nat.zero_add] at h9
  exact ((unhide HB2).cell (p:=⟨g,i+j,none⟩) hlt.1).trans h9
 have hdl:Hid (((l.map Value.pointer).drop i).length=N-i):=by have:=unhide HN;show _=_;simp;omega
 have hone:∀u∈(l.map Value.pointer).drop i,u.oneCell'=true:=fun u hu=>by
  obtain⟨y,_,rfl⟩:=List.mem_map.1 (List.mem_of_mem_drop hu);rfl
 have hwr:IntKind.i64.wrap ((i:Int)+1)=((i+1:Nat):Int):=by rw[IntKind.wrap_i64];omega
 have hi2:((i+1:Nat):Int)≤(N:Int)+1:=by omega
 have hi3:(0:Int)≤(i:Int)+1:=by omega
 obtain⟨w4,hw4⟩:∃w4,w4=w2.drew.setRow w.heap.size ((splice cur i [Value.pointer x]).toArray.toList.take (i+1)++(l.map Value.pointer).drop i++(splice cur i [Value.pointer x]).toArray.toList.drop (i+1+((l.map Value.pointer).drop i).length)).toArray:=⟨_,rfl⟩
 have hrun:∀ty,(Builtin.copy_ #[106,106] ty #[.slice (some ⟨w.heap.size,i+1,none⟩) (N-i) (cap2-(i+1)),.slice (some ⟨g,i,none⟩) (N-i) (N-i)]).run Tryz.prog w2.drew = .ok (goInt ((l.map Value.pointer).drop i).length) w4:=fun ty=>by
  rw[hw4]
  exact run_copy_row (P:=Tryz.prog) w2.drew 106 106 ty 80 w.heap.size (i+1) (N-i) (cap2-(i+1)) ⟨g,i,none⟩ (N-i) (N-i) (splice cur i [.pointer x]).toArray 80 ((l.map Value.pointer).drop i) Tryz.underlying106 hsz (unhide h6) (by rw[unhide hdl];simp) (unhide hsrc) (by rw[unhide hdl];show _≤(splice cur i [Value.pointer x]).toArray.size;rw[List.size_toArray,unhide hlen];omega) hone
 have HB4:=hide (show Below w.heap.size w w4 from by rw[hw4];exact below_setRow (w:=w2.drew) ⟨(unhide HB2).os,(unhide HB2).tape,(unhide HB2).output,(unhide HB2).size,(unhide HB2).block⟩ (Nat.le_refl _) _)
 have HG4:=hide (show w4.heap[w.heap.size]? = some (.cells (splice (splice cur i [.pointer x]) (i+1) ((l.map Value.pointer).drop i)).toArray 80 (0,0)) from by
  rw[hw4,setRow_heap w2.drew w.heap.size _ _ 80 _ (unhide h6)]
  simp[splice])
 have HEND:=hide (unhide HFIN cap2 cur w4 (by have:=unhide HN;omega) h2 h3 (unhide H4) (unhide HG4) (unhide HB4))
 rw[show ((l.map Value.pointer).drop i).length=N-i from unhide hdl] at hrun
 clear hw4 HB4 HG4 HFIN hone hdl hsrc hlen H4 h6 HB2 h5 h2 h3 HB1 HQ1 HC HQ hx9 hz0 hz1 hz2 hi0 hsz
 have hni:¬ N=i:=by omega
 go_region_law (fail)
 all_goals (go_wp2_with (fail);go_ret;exact unhide HEND)
end
end

section
set_option maxRecDepth 100000
set_option maxHeartbeats 8000000
open Go.RowKit
section
variable {w:World} {sl:Value} {l:List (Option Addr)} {x:Option Addr} {q i:Nat}
theorem ins_room {g cap:Nat} (ho:w.ownsRow 0 80 1 (.slice (some ⟨g,0,none⟩) l.length cap) l.length (l.map Value.pointer)) (hq:w.heap[q]? = some (.cells #[.pointer x] 80 (0,0))) (hqg:q≠g) (hi:i<l.length) (hroom:l.length<cap) (hb:l.length≤1000000000000) :
  Calls Tryz.prog 291 #[.slice (some ⟨g,0,none⟩) l.length cap,.int .i64 i,.slice (some ⟨q,0,none⟩) 1 1] w (InsEnd l i x (.slice (some ⟨g,0,none⟩) l.length cap) w):=by
 obtain⟨i0,hi0,hz0,hz1,hz2⟩:=info_three ptr_info
 have hsz:(Tryz.prog.info? 80).map (·.size)=some 1:=by rw[hi0];simp[hz1]
 obtain⟨cur,hg,hcm,hcs,htake⟩:∃cur:List Value,w.heap[g]? = some (.cells cur.toArray 80 (0,0))∧cap≤maxLen∧cur.length=cap∧cur.take l.length=l.map Value.pointer:=by
  rcases ho.2 with⟨h,_⟩|⟨g',cap',cur,h,_,h2,_,h4,h5,h6⟩
  ·cases h
  ·injection h with h7 _ h8
   injection h7 with h7;injection h7 with h7
   subst h7;subst h8
   exact⟨cur.toList,by simpa using h2,h4,by simpa using h5,by simpa using h6⟩
 obtain⟨N,hN⟩:∃N,N=l.length:=⟨_,rfl⟩
 have hcq:w.cell? ⟨q,0,none⟩=some (.pointer x):=by simp[World.cell?,hq]
 have hov:=fun (off n c:Nat)=>overlaps_run (off:=off) (n:=n) (c:=c) hg hq hqg
 have hlt:g<w.heap.size∧q<w.heap.size:=⟨(Array.getElem?_eq_some_iff.1 hg).1,(Array.getElem?_eq_some_iff.1 hq).1⟩
 have hdl:((cur.drop i).take (N-i)).length=N-i:=by simp;omega
 have hsrc:∀W:World,W.heap[g]? = w.heap[g]? → ∀j v,((cur.drop i).take (N-i))[j]? = some v→W.cell? ((⟨g,i,none⟩:Addr).add j)=some v:=fun W hW j v hj=>by
  have h1:=take_some hj
  rw[List.getElem?_drop] at h1
  rw[Addr.add_lit,World.cell?_of_block (w:=w) hW]
  simp[World.cell?,hg,h1]
 have hone:∀u∈(cur.drop i).take (N-i),u.oneCell'=true:=fun u hu=>by
  obtain⟨j,hj⟩:=List.getElem?_of_mem hu
  rw[List.getElem?_take] at hj
  split at hj
  ·rename_i hjN
   rw[List.getElem?_drop] at hj
   have h2:(cur.take l.length)[i+j]? = some u:=by rw[List.getElem?_take,if_pos (by omega)];exact hj
   rw[htake,List.getElem?_map] at h2
   obtain⟨y,_,rfl⟩:=Option.map_eq_some_iff.1 h2
   rfl
  ·cases hj
 obtain⟨cur2,hcur2⟩:∃cur2,cur2=splice cur (i+1) ((cur.drop i).take (N-i)):=⟨_,rfl⟩
 have hcl2:cur2.length=cap:=by
  have:=length_splice cur (i+1) ((cur.drop i).take (N-i)) (by rw[hdl];omega)
  rw[hcur2,this,hcs]
 have hrun1:∀ty,(Builtin.copy_ #[106,106] ty #[.slice (some ⟨g,i+1,none⟩) (N-i) (cap-(i+1)),.slice (some ⟨g,i,none⟩) (N+1-i) (cap-i)]).run Tryz.prog w.drew = .ok (goInt ((N-i:Nat))) (w.drew.setRow g (cur.toArray.toList.take (i+1)++(cur.drop i).take (N-i)++cur.toArray.toList.drop (i+1+((cur.drop i).take (N-i)).length)).toArray):=fun ty=>by
  have h:=run_copy_row (P:=Tryz.prog) w.drew 106 106 ty 80 g (i+1) (N-i) (cap-(i+1)) ⟨g,i,none⟩ (N+1-i) (cap-i) cur.toArray 80 ((cur.drop i).take (N-i)) Tryz.underlying106 hsz hg (by rw[hdl];simp[Nat.min_def];omega) (hsrc w.drew rfl) (by rw[hdl,List.size_toArray];omega) hone
  rw[hdl] at h ⊢
  exact h
 have hg4:(w.drew.setRow g (cur.toArray.toList.take (i+1)++(cur.drop i).take (N-i)++cur.toArray.toList.drop (i+1+((cur.drop i).take (N-i)).length)).toArray).heap[g]? = some (.cells cur2.toArray 80 (0,0)):=by
  rw[setRow_heap w.drew g _ _ 80 _ hg,hcur2]
  simp[splice]
 have hk4:w.grownBy (w.drew.setRow g (cur.toArray.toList.take (i+1)++(cur.drop i).take (N-i)++cur.toArray.toList.drop (i+1+((cur.drop i).take (N-i)).length)).toArray) (some g):=⟨rfl,rfl,rfl,by simp[World.setRow],fun k _ hne=>setRow_other w.drew g k _ (fun e=>hne (by rw[e]))⟩
 generalize w.drew.setRow g (cur.toArray.toList.take (i+1)++(cur.drop i).take (N-i)++cur.toArray.toList.drop (i+1+((cur.drop i).take (N-i)).length)).toArray=w4 at *
 have hcq4:w4.cell? ⟨q,0,none⟩=some (.pointer x):=(World.cell?_of_block (a:=⟨q,0,none⟩) (hk4.block q hlt.2 (fun e=>hqg (Option.some.inj e)))).trans hcq
 have hfin:∀w5:World,w5.heap[g]? = some (.cells (splice cur2 i [.pointer x]).toArray 80 (0,0))→w4.grownBy w5 (some g)→InsEnd l i x (.slice (some ⟨g,0,none⟩) l.length cap) w (.returned (.slice (some ⟨g,0,none⟩) (l.length+1) cap)) w5:=fun w5 h5 hk5=>by
  refine⟨g,cap,rfl,⟨by simp[Sp.len_lins x (show i≤l.length by omega)],Or.inr ⟨g,cap,_,rfl,Nat.zero_le _,h5,by omega,hcm,?_,?_⟩⟩,⟨hk5.os.trans hk4.os,hk5.tape.trans hk4.tape,hk5.output.trans hk4.output,Nat.le_trans hk4.size hk5.size,fun k hk hne=>(hk5.block k (Nat.lt_of_lt_of_le hk hk4.size) hne).trans (hk4.block k hk hne)⟩,Or.inl rfl⟩
  ·have:=length_splice cur2 i [Value.pointer x] (by simp;omega)
   simp[this,hcl2]
  ·have e1:splice cur2 i [Value.pointer x]=splice (splice cur i [.pointer x]) (i+1) ((l.map Value.pointer).drop i):=by
    have e3:(l.map Value.pointer).drop i=(cur.drop i).take (N-i):=by
     rw[← htake,hN,List.drop_take]
    rw[e3,hcur2]
    have hl1:(cur.take i).length=i:=by rw[List.length_take];omega
    have hl2:(cur.take (i+1)).length=i+1:=by rw[List.length_take];omega
    unfold splice
    simp only[List.length_cons,List.length_nil,Nat.zero_add]
    rw[List.take_append_of_le_length (by omega),List.take_take,Nat.min_eq_left (by omega)]
    rw[List.drop_append,List.drop_of_length_le (by omega),hl2,Nat.sub_self,List.drop_zero,List.nil_append]
    have e4:(List.take i cur++([Value.pointer x]++List.drop (i+1) cur)).take (i+1)=List.take i cur++[Value.pointer x]:=by
     rw[List.take_append,hl1]
     simp[List.take_of_length_le,hl1]
    rw[e4]
    have e5:List.drop (i+1+((cur.drop i).take (N-i)).length) (List.take i cur++([Value.pointer x]++List.drop (i+1) cur))=List.drop (i+1+((cur.drop i).take (N-i)).length) cur:=by
     rw[← List.append_assoc,List.drop_append,List.drop_of_length_le (by simp only[List.length_append,List.length_cons,List.length_nil,hl1];omega),List.nil_append,List.drop_drop]
     congr 1
     simp only[List.length_append,List.length_cons,List.length_nil,hl1];omega
    rw[e5]
    simp
   have hr:=(lins_row (x:=x) (cur:=cur) (i:=i) (by omega) (show l.length+1≤cur.length by omega) (by rw[← htake,List.take_take,Nat.min_eq_left (by omega)])).1
   rw[Nat.mul_one,List.toList_toArray,e1]
   exact hr
 have hrun2:∀ty,(Builtin.copy_ #[106,106] ty #[.slice (some ⟨g,i,none⟩) (N+1-i) (cap-i),.slice (some ⟨q,0,none⟩) 1 1]).run Tryz.prog w4 = .ok (goInt (1:Nat)) (w4.setRow g (cur2.toArray.toList.take i++[Value.pointer x]++cur2.toArray.toList.drop (i+[Value.pointer x].length)).toArray):=fun ty =>
  run_copy_row (P:=Tryz.prog) w4 106 106 ty 80 g i (N+1-i) (cap-i) ⟨q,0,none⟩ 1 1 cur2.toArray 80 [.pointer x] Tryz.underlying106 hsz hg4 (by simp[Nat.min_def];omega) (one_src hcq4) (by simp;omega) one_cells
 have hg5:(w4.setRow g (cur2.toArray.toList.take i++[Value.pointer x]++cur2.toArray.toList.drop (i+[Value.pointer x].length)).toArray).heap[g]? = some (.cells (splice cur2 i [.pointer x]).toArray 80 (0,0)):=by
  rw[setRow_heap w4 g _ _ 80 _ hg4]
  simp[splice]
 have hk5:w4.grownBy (w4.setRow g (cur2.toArray.toList.take i++[Value.pointer x]++cur2.toArray.toList.drop (i+[Value.pointer x].length)).toArray) (some g):=⟨rfl,rfl,rfl,by simp[World.setRow],fun k _ hne=>setRow_other w4 g k _ (fun e=>hne (by rw[e]))⟩
 generalize w4.setRow g (cur2.toArray.toList.take i++[Value.pointer x]++cur2.toArray.toList.drop (i+[Value.pointer x].length)).toArray=w5 at *
 have HEND:=hide (hfin w5 hg5 hk5)
 have hiN:i<N:=by omega
 have hN2:N≤1000000000000:=by omega
 have hne:¬ (i:Int)=(N:Int):=by omega
 have hi1:(i:Int)≤N:=by omega
 have hcap2:¬ (cap:Int)<(N:Int)+1:=by omega
 have hcap3:(N:Int)+1≤(cap:Int):=by omega
 have hcm2:(cap:Int)≤9223372036854775807:=by unfold maxLen at hcm;omega
 have hci:¬ cap=i:=by omega
 have hci2:¬ cap=i+1:=by omega
 rw[← hN] at HEND ⊢
 clear ho hq hi hg hcs htake hN hcq hdl hsrc hone hcur2 hcl2 hg4 hk4 hcq4 hfin hroom hb hcm hg5 hk5 hz0 hz1 hz2 hi0 hsz hlt
 have hwr:IntKind.i64.wrap ((i:Int)+1)=((i+1:Nat):Int):=by rw[IntKind.wrap_i64];omega
 have hi2:((i+1:Nat):Int)≤(N:Int)+1:=by omega
 have hi3:(0:Int)≤(i:Int)+1:=by omega
 have hi4:(i:Int)≤(N:Int)+1:=by omega
 go_enter Tryz.func291,Tryz.ntmps291
 go_wp2_with (fail)
 go_region_law (fail)
 all_goals (go_wp2_with (fail);go_ret;exact unhide HEND)
theorem slIns (ho:w.ownsRow 0 80 1 sl l.length (l.map Value.pointer)) (hq:w.heap[q]? = some (.cells #[.pointer x] 80 (0,0))) (hqg:sl.ownBlock≠some q) (hi:i≤l.length) (hb:l.length≤1000000000000) :
  Calls Tryz.prog 291 #[sl,.int .i64 i,.slice (some ⟨q,0,none⟩) 1 1] w (InsEnd l i x sl w):=by
 by_cases he:i=l.length
 ·subst he;exact ins_end ho hq hb
 ·rcases ho.2 with⟨_,h⟩|⟨g,cap,cur,rfl,_,_,h3,_⟩
  ·omega
  ·by_cases hc:cap=l.length
   ·subst hc;exact ins_grow ho hq (by omega) hb
   ·exact ins_room ho hq (fun e=>hqg (by rw[e];rfl)) (by omega) (by omega) hb
end
end

section
open Go.RowKit Go.Maps
theorem Pt.first {P:Value→Sp.V→Prop} (k:Lit):∀ {l:List (Lit×DataW Value)} {m:List (Lit×Sp.V)},Pt P l m→Maps.has (.map l) k=true →
  ∃i key c x,m.findIdx? (fun p=>p.1.sameKey k)=some i∧m[i]? = some (key,c)∧m.find? (fun p=>p.1.sameKey k)=some (key,c)∧(∀z,(DataW.map l).atKey k z = .held x)∧P x c
 | [],[],_,h=>by cases h
 | a::r,b::s,⟨⟨kk,x,e,g⟩,t⟩,h=>by
  by_cases hk:a.1.sameKey k=true
  ·have hb:b.1.sameKey k=true:=by rw[← kk];exact hk
   refine⟨0,b.1,b.2,x,?_,rfl,?_,fun z=>?_,g⟩
   ·rw[List.findIdx?_cons,if_pos hb]
   ·exact find_yes (p:=fun p=>p.1.sameKey k) hb
   ·rw[atKey_def,find_yes (p:=fun p=>p.1.sameKey k) hk];exact e
  ·have hb:¬ b.1.sameKey k=true:=by rw[← kk];exact hk
   have h2:Maps.has (.map r) k=true:=by
    have h3:(a.1.sameKey k || r.any fun p=>p.1.sameKey k)=true:=h
    rw[Bool.eq_false_iff.2 hk,Bool.false_or] at h3
    exact h3
   obtain⟨i,key,c,x',e1,e2,e3,e4,e5⟩:=Pt.first k t h2
   refine⟨i+1,key,c,x',?_,by simpa using e2,?_,fun z=>?_,e5⟩
   ·rw[List.findIdx?_cons,if_neg hb,e1];rfl
   ·rw[find_no (p:=fun p=>p.1.sameKey k) hb];exact e3
   ·rw[atKey_def,find_no (p:=fun p=>p.1.sameKey k) hk];exact e4 z
end

section
set_option maxRecDepth 100000
set_option maxHeartbeats 4000000
open Go.RowKit Go.Maps
abbrev plV (pth:Value) (b:Nat) (key:Sp.By) (i:Nat):Value:=.agg #[pth,.pointer (some ⟨b,0,none⟩),.string ⟨key.toArray⟩,.int .i64 i]
theorem below_box (w:World) (o:Obj) (q:Nat):Below w.heap.size w ((w.alloc o).drewN q):=by
 have h:=(Below.refl w.heap.size w).alloc (Nat.le_refl _) o
 exact⟨h.os,h.tape,h.output,h.size,h.block⟩
section
variable {w:World} {b:Nat} {pth:Value} {key:Sp.By} {i:Nat}
theorem get_obj {m n:Nat} {D:List (Lit×DataW Value)} (hk:key.length≤1048576) (h:VB w b 6 n0 [] (.slice none 0 0) (.map (some m))) (ho:w.ownsMap Tryz.prog 9 RV m n (.map D)) {x:Value} (hx:(DataW.map D).atKey (.string key) (.held (.pointer none)) = .held x) :
  Calls Tryz.prog 159 #[plV pth b key i] w fun e w'=>e = .returned x∧Below w.heap.size w w':=by
 have hbl:=h.lt
 have q0:∀o,(w.alloc o).cell? ⟨b,0,none⟩=some (.int .i64 6):=fun o=>(World.cell?_of_block (w:=w) (Below.heap_alloc w o b hbl)).trans h.c0
 have q6:∀o,(w.alloc o).cell? ⟨b,6,none⟩=some (.map (some m)):=fun o=>(World.cell?_of_block (w:=w) (Below.heap_alloc w o b hbl)).trans h.c6
 have hlk:∀o q,(Instr.lookup 109 (.map (some m)) (.string ⟨key.toArray⟩) false).run Tryz.prog ((w.alloc o).drewN q) = .ok x ((w.alloc o).drewN q):=fun o q=>by
  obtain⟨v,ps,hrun,hv⟩:=(map_kept (w':=(w.alloc o).drewN q) ho (Below.heap_alloc w o m (map_lt ho))).lookup mlaw Tryz.underlying109 (mzero _) (zd:=.held (.pointer none)) (zp:=[]) rfl (tkey key hk)
  rw[hx] at hv
  obtain⟨rfl,_⟩:=rv_held hv rfl
  exact hrun
 have hl0:∀o,(Instr.lookup 109 (.map (some m)) (.string ⟨key.toArray⟩) false).run Tryz.prog (w.alloc o) = .ok x (w.alloc o):=fun o=>hlk o 0
 clear h ho hx
 go_enter Tryz.func159,Tryz.ntmps159
 go_wp2_with (fail)
 go_quiet (fail)
 go_wp2_with (fail)
 go_ret
 exact⟨rfl,below_box _ _ _⟩
theorem get_arr {sl:Value} {ps:List Value} (h:VB w b 5 n0 [] sl (.map none)) (ho:w.ownsRow 0 80 1 sl ps.length ps) (hi:i<ps.length) :
  Calls Tryz.prog 159 #[plV pth b key i] w fun e w'=>e = .returned ps[i]∧Below w.heap.size w w':=by
 have hbl:=h.lt
 have q0:∀o,(w.alloc o).cell? ⟨b,0,none⟩=some (.int .i64 5):=fun o=>(World.cell?_of_block (w:=w) (Below.heap_alloc w o b hbl)).trans h.c0
 have q5:∀o,(w.alloc o).cell? ⟨b,5,none⟩=some sl:=fun o=>(World.cell?_of_block (w:=w) (Below.heap_alloc w o b hbl)).trans h.c5
 obtain⟨N,hN⟩:∃N,N=ps.length:=⟨_,rfl⟩
 obtain⟨g,cap,rfl,a1,a2,a3,hc⟩:=owns_cell1 ho (by omega)
 have qi:∀o,(w.alloc o).cell? ⟨g,i,none⟩=some ps[i]:=fun o=>(World.cell?_of_block (w:=w) (Below.heap_alloc w o g a3)).trans (hc i hi)
 rw[← hN] at q5 a1
 have hlt:i<N:=by omega
 have hlt2:(i:Int)<(N:Int):=by omega
 have hn1:(N:Int)≤9223372036854775807:=by unfold maxLen at a2;omega
 generalize ps[i]=pv at *
 clear h ho hc hN hi
 go_enter Tryz.func159,Tryz.ntmps159
 go_wp2_with (fail)
 go_quiet (fail)
 go_wp2_with (fail)
 go_ret
 exact⟨rfl,below_box _ _ _⟩
theorem set_arr {sl:Value} {pu:Option Addr} {ps:List Value} (h:VB w b 5 n0 [] sl (.map none)) (ho:w.ownsRow 0 80 1 sl ps.length ps) (hi:i<ps.length) :
  Calls Tryz.prog 250 #[plV pth b key i,.pointer pu] w fun e w'=>e = .returned (.tuple #[]) ∧ ∃g,sl.ownBlock=some g∧w'.ownsRow 0 80 1 sl ps.length (ps.set i (.pointer pu))∧w.grownBy w' (some g):=by
 have hbl:=h.lt
 have q0:∀o,(w.alloc o).cell? ⟨b,0,none⟩=some (.int .i64 5):=fun o=>(World.cell?_of_block (w:=w) (Below.heap_alloc w o b hbl)).trans h.c0
 have q5:∀o,(w.alloc o).cell? ⟨b,5,none⟩=some sl:=fun o=>(World.cell?_of_block (w:=w) (Below.heap_alloc w o b hbl)).trans h.c5
 obtain⟨N,hN⟩:∃N,N=ps.length:=⟨_,rfl⟩
 obtain⟨g,cap,rfl,a1,a2,a3,hc⟩:=owns_cell1 ho (by omega)
 have qi:∀o,(w.alloc o).cell? ⟨g,i,none⟩=some ps[i]:=fun o=>(World.cell?_of_block (w:=w) (Below.heap_alloc w o g a3)).trans (hc i hi)
 have zi:∀o,(w.alloc o).frozen? ⟨g,i,none⟩=false:=fun o=>(ho.alloc o).frozenAt i
 have HFIN:Hid (∀o,Value.ownBlock (.slice (some ⟨g,0,none⟩) ps.length cap)=some g∧(((w.setCell ⟨g,i,none⟩ (.pointer pu)).alloc o).drew).ownsRow 0 80 1 (.slice (some ⟨g,0,none⟩) ps.length cap) ps.length (ps.set i (.pointer pu))∧w.grownBy (((w.setCell ⟨g,i,none⟩ (.pointer pu)).alloc o).drew) (some g)):=hide (fun o=>by
  have h1:=ho.stored i (.pointer pu)
  have h3:=h1.2.andThen (World.grownBy_alloc (w.setCell ⟨g,i,none⟩ (.pointer pu)) o none) (fun j hj=>by cases hj)
  exact⟨rfl,h1.1.alloc o,⟨h3.os,h3.tape,h3.output,h3.size,h3.block⟩⟩)
 have qi':∀o q,((w.alloc o).drewN q).cell? ⟨g,i,none⟩=some ps[i]:=fun o _=>qi o
 have zi':∀o q,((w.alloc o).drewN q).frozen? ⟨g,i,none⟩=false:=fun o _=>zi o
 have qi2:∀o,((w.alloc o).drew).cell? ⟨g,i,none⟩=some ps[i]:=fun o=>qi o
 have zi2:∀o,((w.alloc o).drew).frozen? ⟨g,i,none⟩=false:=fun o=>zi o
 have hlt:i<N:=by omega
 have hlt2:(i:Int)<(N:Int):=by omega
 have hn1:(N:Int)≤9223372036854775807:=by unfold maxLen at a2;omega
 rw[← hN] at q5 a1 HFIN ⊢
 generalize ps[i]=pv at *
 clear h ho hc hN hi
 go_enter Tryz.func250,Tryz.ntmps250
 go_wp2_with (fail)
 go_region_law (fail)
 all_goals exact bodyPost_end (results_none rfl _ _ _) rfl ⟨rfl,g,unhide HFIN _⟩
end
end

section
set_option maxRecDepth 100000
set_option maxHeartbeats 4000000
open Go.RowKit Go.Maps
section
variable {w:World} {b:Nat} {pth:Value} {key:Sp.By} {i:Nat}
theorem upd_runs {m n:Nat} {D:List (Lit×DataW Value)} {pu:Option Addr} (hk:key.length≤1048576) (hn:n<maxLen) (ho:w.ownsMap Tryz.prog 9 RV m n (.map D)) (o:Obj) :
  ∃w3,(Instr.mapUpdate 109 (.map (some m)) (.string ⟨key.toArray⟩) (.pointer pu)).run Tryz.prog ((w.alloc o).drew) = .ok () w3∧w3.ownsMap Tryz.prog 9 RV m (n+1) (DataW.put (.map D) (.string key) (.held (.pointer pu)))∧w.grownBy w3 (some m):=by
 have h0:((w.alloc o).drew).ownsMap Tryz.prog 9 RV m n (.map D):=(ho.alloc o).drew
 obtain⟨w3,hrun,h1,h2⟩:=h0.update mlaw Tryz.underlying109 hn (tkey key hk) (val:=.pointer pu) (d:=.held (.pointer pu)) (ps:=[]) rfl
 have h3:=World.grownBy_alloc w o none
 have h4:w.grownBy ((w.alloc o).drew) none:=⟨h3.os,h3.tape,h3.output,h3.size,h3.block⟩
 refine⟨w3,hrun,h1,?_⟩
 exact⟨h2.os.trans h4.os,h2.tape.trans h4.tape,h2.output.trans h4.output,Nat.le_trans h4.size h2.size,fun j hj hne=>(h2.block j (Nat.lt_of_lt_of_le hj h4.size) hne).trans (h4.block j hj (by simp))⟩
theorem set_obj {m n:Nat} {D:List (Lit×DataW Value)} {pu:Option Addr} (hk:key.length≤1048576) (hn:n<maxLen) (h:VB w b 6 n0 [] (.slice none 0 0) (.map (some m))) (ho:w.ownsMap Tryz.prog 9 RV m n (.map D)) :
  Calls Tryz.prog 250 #[plV pth b key i,.pointer pu] w fun e w'=>e = .returned (.tuple #[])∧w'.ownsMap Tryz.prog 9 RV m (n+1) (DataW.put (.map D) (.string key) (.held (.pointer pu)))∧w.grownBy w' (some m):=by
 have hbl:=h.lt
 have q0:∀o,(w.alloc o).cell? ⟨b,0,none⟩=some (.int .i64 6):=fun o=>(World.cell?_of_block (w:=w) (Below.heap_alloc w o b hbl)).trans h.c0
 have q6:∀o,(w.alloc o).cell? ⟨b,6,none⟩=some (.map (some m)):=fun o=>(World.cell?_of_block (w:=w) (Below.heap_alloc w o b hbl)).trans h.c6
 have HU:=upd_runs (pu:=pu) hk hn ho
 clear h ho
 obtain⟨W,hW⟩:=Classical.axiomOfChoice HU
 have hrun:=fun o=>(hW o).1
 have HOWN:=hide (fun o=>(hW o).2.1)
 have HG:=hide (fun o=>(hW o).2.2)
 clear hW HU
 go_enter Tryz.func250,Tryz.ntmps250
 go_wp2_with (fail)
 go_region_law (fail)
 all_goals (
  go_wp2_with (fail)
  exact bodyPost_ret (results_none rfl _ _ _) rfl ⟨rfl,unhide HOWN _,unhide HG _⟩)
theorem insert_obj {m n:Nat} {D:List (Lit×DataW Value)} {pu:Option Addr} (hk:key.length≤1048576) (hn:n<maxLen) (h:VB w b 6 n0 [] (.slice none 0 0) (.map (some m))) (ho:w.ownsMap Tryz.prog 9 RV m n (.map D)) :
  Calls Tryz.prog 249 #[plV pth b key i,.pointer pu] w fun e w'=>e = .returned (.tuple #[])∧w'.ownsMap Tryz.prog 9 RV m (n+1) (DataW.put (.map D) (.string key) (.held (.pointer pu)))∧w.grownBy w' (some m):=by
 have hbl:=h.lt
 have q0:∀o,(w.alloc o).cell? ⟨b,0,none⟩=some (.int .i64 6):=fun o=>(World.cell?_of_block (w:=w) (Below.heap_alloc w o b hbl)).trans h.c0
 have q6:∀o,(w.alloc o).cell? ⟨b,6,none⟩=some (.map (some m)):=fun o=>(World.cell?_of_block (w:=w) (Below.heap_alloc w o b hbl)).trans h.c6
 have HU:=upd_runs (pu:=pu) hk hn ho
 clear h ho
 obtain⟨W,hW⟩:=Classical.axiomOfChoice HU
 have hrun:=fun o=>(hW o).1
 have HOWN:=hide (fun o=>(hW o).2.1)
 have HG:=hide (fun o=>(hW o).2.2)
 clear hW HU
 go_enter Tryz.func249,Tryz.ntmps249
 go_wp2_with (fail)
 go_region_law (fail)
 all_goals (
  go_wp2_with (fail)
  exact bodyPost_ret (results_none rfl _ _ _) rfl ⟨rfl,unhide HOWN _,unhide HG _⟩)
end
end
end Go.Proofs.YtdpomdelmdofmaaGreatDoor
