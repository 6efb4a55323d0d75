import Derived.Test.YtdpomdelmdofmaaGreatDoorUnd15
import Derived.Lib.OwnBridge
import Derived.Laws.CopyOwn
import Derived.Laws.AppendOwn
import Derived.Lib.AppendZerosOnto
namespace Go.Proofs.YtdpomdelmdofmaaGreatDoor
open Go.Proofs.Tryz
section
set_option maxRecDepth 100000
open Go.RowKit
theorem Fo:(Tryz.prog.info? 80).map (fun i=>(i.zero,i.size,i.bytes))=some (some (.pointer none),1,8):=by kernel_rfl
theorem Ef{P:Program}{e:TypeId}{z:Value}{s b:Nat}(h:(P.info? e).map (fun i=>(i.zero,i.size,i.bytes))=some (some z,s,b)):∃i,P.info? e=some i/\i.zero=some z/\i.size=s/\i.bytes=b:=by
 obtain⟨i,hi,h⟩:=Option.map_eq_some_iff.1 h;injection h with h1 h2;injection h2 with h2 h3;exact⟨i,hi,h1,h2,h3⟩
theorem Qz{P:Program}{ops:Array Oper}{Q:Exit->Act->World->Prop}{rest:List Oper}{a:Act}{w:World}{d:Option Nat}{x:Array Operand}{ts:Array TypeId}{ty:TypeId}{ps:String}{af:Array Edge}{g:Option (Nat×Bool)}
  (h:wpList P ops Q ({ dst:=d,op:=.call { callee:=.builtin .copy,args:=x,argTypes:=ts },type:=ty,pos:=ps,after:=af,guard:=g }::rest) a w) :
  wpList P ops Q ({ dst:=d,op:=.call { callee:=.builtin .copy,args:=x,argTypes:=ts },type:=ty,pos:=ps,after:=af,guard:=g }::rest) a w:=h
theorem Ng{α:Type}[Inhabited α](enc:α->Value)(w:World)(g q:Nat)(d:Array α):w.grownBy (Sort.putRow enc (Sort.ahead w q) g 0 d) (some g) :=
 ⟨rfl,rfl,rfl,by simp[Sort.putRow,Sort.mapBlock,Sort.ahead],fun k _ hne=>by
  have:g≠k:=fun e=>hne (by rw[e]);simp[Sort.putRow,Sort.mapBlock,Sort.ahead,Array.getElem?_modify,this]⟩
theorem Yp{w:World}{sl:Value}{l:List (Option Addr)}{i:Nat}(ho:w.ownsRow 0 80 1 sl l.length (l.map Value.pointer))(hi:i<l.length) :
  ∃g cap,sl = .slice (some ⟨g,0,none⟩) l.length cap/\Calls Tryz.prog 290 #[sl,.int .i64 i,.int .i64 ((i+1:Nat):Int)] w fun e w' =>
   e = .returned (.slice (some ⟨g,0,none⟩) (l.length-1) cap)/\w'.ownsRow 0 80 1 (.slice (some ⟨g,0,none⟩) (l.length-1) cap) (l.length-1) ((Sp.ldel i l).map Value.pointer)/\w.grownBy w' (some g):=by
 obtain⟨g,cap,rfl,_,hg,hn,hm,_,hH⟩:=Lib.holds_of_ownsRow ho (by
  rintro rfl;rcases ho.2 with⟨_,h⟩|⟨g,cap,cur,h,_⟩
  ·omega
  ·cases h)
 refine⟨g,cap,rfl,?_⟩;obtain⟨i0,hi0,_,hz1,_⟩:=Ef Fo;have hc:=AnyE.slices_Delete Tryz.eDelete (α:=Option Addr) Value.pointer (fun _=>rfl) none Tryz.zeroValue80 i0 hi0 hz1 g 0 cap i (i+1) l.toArray w hH (by simpa using hn) (by simp[maxLen] at hm;omega) (by omega) (by simp;omega);refine hc.mono ?_;rintro e w' ⟨rfl,q,rfl⟩;have hlen:(Sp.ldel i l).length=l.length-1:=by have:=Sp.Jk hi;omega
 have e2:l.toArray.toList.take i++l.toArray.toList.drop (i+1)++List.replicate (i+1-i) (none:Option Addr)=Sp.ldel i l++[none]:=by
  simp[Sp.ldel,show i+1-i=1 by omega]
 rw[e2];refine⟨by simp[show i+1-i=1 by omega],?_,Ng _ _ _ _ _⟩;have h2:=Lib.ownsRow_putRow (q:=q) (k:=l.length-1) ho (ys:=Sp.ldel i l++[none]) (by simp[hlen];omega) (by omega);rw[List.take_append_of_le_length (by omega),List.take_of_length_le (by omega)] at h2;exact h2
theorem Ky{w:World}{g q off n c:Nat}{x:Value}{cur:Array Value}{t t':TypeId}(hg:w.heap[g]? = some (.cells cur t (0,0)))(hq:w.heap[q]? = some (.cells #[x] t' (0,0)))(hne:q≠g) :
  Sem.run Tryz.prog (Extern.SlicesOverlaps.overlaps #[106,106] #[4] #[.slice (some ⟨q,0,none⟩) 1 1,.slice (some ⟨g,off,none⟩) n c]) w = .ok (.bool false) w:=by
 have f1:∀o,w.frozen? ⟨q,o,none⟩=false:=fun o=>by simp[World.frozen?,hq]
 have f2:∀o,w.frozen? ⟨g,o,none⟩=false:=fun o=>by simp[World.frozen?,hg]
 have hn2:(q != g)=true:=by simpa using hne
 have hn3:(q == g)=false:=by simpa using hne
 have r1:∀a,Sem.run Tryz.prog (Sem.frozen a Sem.pure) w = .ok (w.frozen? a) w:=fun a=>by simp[Sem.run]
 have r2:Sem.run Tryz.prog (Sem.shape q Sem.pure) w = .ok (some (t',1)) w:=by simp[Sem.run,World.shape?,hq]
 have r3:Sem.run Tryz.prog (Sem.shape g Sem.pure) w = .ok (some (t,cur.size)) w:=by simp[Sem.run,World.shape?,hg]
 obtain⟨i0,hi0,_,hz1,_⟩:=Ef Fo;have u:=underlying106;rw[show Extern.SlicesOverlaps.overlaps #[106,106] #[4] #[.slice (some ⟨q,0,none⟩) 1 1,.slice (some ⟨g,off,none⟩) n c]=(underlying 106 >>= _) from rfl];simp[run_underlying u,r1,r2,r3,sizeOf,typeInfo,hi0,hz1,frozen,f1,f2,hn2,hn3,noView,viewAt,mayBeOne,stringish,shape,Result.andThen]
theorem MQ{w:World}{g q off n c:Nat}{x:Value}{cur:Array Value}{t t':TypeId}(hg:w.heap[g]? = some (.cells cur t (0,0)))(hq:w.heap[q]? = some (.cells #[x] t' (0,0)))(hne:q≠g) :
  (callFunc 310 #[.slice (some ⟨q,0,none⟩) 1 1,.slice (some ⟨g,off,none⟩) n c]).run Tryz.prog w = .ok (.value (.bool false)) w:=by
 rw[run_callFunc_extern (e:=Extern.SlicesOverlaps.overlaps #[106,106] #[4]) func310 (by kernel_rfl) rfl (by kernel_rfl) (by kernel_rfl),Ky hg hq hne];rfl
end

section
set_option maxRecDepth 100000
set_option maxHeartbeats 4000000
open Go.RowKit
def FG(l:List (Option Addr))(i:Nat)(x:Option Addr)(sl:Value)(w:World)(e:Ending)(w':World):Prop :=
 ∃g cap,e = .returned (.slice (some ⟨g,0,none⟩) (l.length+1) cap)/\w'.ownsRow 0 80 1 (.slice (some ⟨g,0,none⟩) (l.length+1) cap) (l.length+1) ((Sp.lins i x l).map Value.pointer)/\w.grownBy w' sl.ownBlock/\(sl.ownBlock=some g\/w.heap.size<=g)
section
variable{w:World}{sl:Value}{l:List (Option Addr)}{x:Option Addr}{q:Nat}
theorem Wt(ho:w.ownsRow 0 80 1 sl l.length (l.map Value.pointer))(hq:w.heap[q]? = some (.cells #[.pointer x] 80 (0,0)))(hb:l.length<=1000000000000) :
  Calls Tryz.prog 291 #[sl,.int .i64 l.length,.slice (some ⟨q,0,none⟩) 1 1] w (FG l l.length x sl w):=by
 obtain⟨i0,hi0,hz0,hz1,hz2⟩:=Ef Fo;obtain⟨N,hN⟩:∃N,N=l.length:=⟨_,rfl⟩
 obtain⟨a,c,rfl⟩:∃a c,sl = .slice a l.length c:=by
  rcases ho.2 with⟨h,h2⟩|⟨g,cap,cur,h,_⟩
  ·exact⟨none,0,by rw[h,h2]⟩
  ·exact⟨_,_,h⟩
 have hcap:l.length<=c:=by
  rcases ho.2 with⟨h,h2⟩|⟨g,cap,cur,h,_,_,h3,_⟩
  ·omega
  ·injection h with _ _ h;omega
 have hcell:w.cell? ⟨q,0,none⟩=some (.pointer x):=by simp[World.cell?,hq]
 have hn1:(N:Int)<=9223372036854775807:=by omega
 have HFIN:=Ab (show ∀g cap w',w'.ownsRow 0 80 1 (.slice (some ⟨g,0,none⟩) (N+1) cap) (N+1) (l.map Value.pointer++[.pointer x])->w.grownBy w' (Value.slice a N c).ownBlock->((Value.slice a N c).ownBlock=some g\/g=w.heap.size)->FG l N x (.slice a N c) w (.returned (.slice (some ⟨g,0,none⟩) (N+1) cap)) w' from fun g cap w' h1 h2 h3=>by
  refine⟨g,cap,by rw[hN],?_,h2,h3.imp id (fun h=>by omega)⟩;have e:(Sp.lins N x l).map Value.pointer=l.map Value.pointer++[.pointer x]:=by
   unfold Sp.lins;rw[hN,List.take_length,List.drop_length];simp
  rw[e,<- hN];exact h1)
 rw[<- hN] at ho |-;have HO:=Ab ho;have HL:=Ab (show (l.map Value.pointer).length=N by simp[hN]);have hle:N<=c:=by omega
 have hcm:c<=maxLen:=by
  rcases ho.2 with⟨h,_⟩|⟨g,cap,cur,h,_,_,_,h4,_⟩
  ·injection h with _ _ h;unfold maxLen;omega
  ·injection h with _ _ h;omega
 have hN2:N<=1000000000000:=by omega
 have hcN:(c=N) \/ ¬ c=N:=Classical.em _;clear ho hcap hN hq hb;rcases hcN with hcN|hcN;all_goals go_enter func291,ntmps291
 all_goals go_wp2_with (at_builtin;refine wpList_append_lies _ rfl _ _ 106 rfl 0 80 i0 (.pointer none) 1 8 underlying106 hi0 hz0 hz1 hz2 rfl (by decide) _ _ _ rfl (Aa HO) ⟨q,0,none⟩ 1 1 [.pointer x] rfl rfl (fun j u hj=>by
   cases j with
   | zero=>injection hj with hj;subst hj;exact hcell
   | succ j=>simp at hj) (fun u hu=>by simp at hu;subst hu;rfl) (by decide) (by unfold maxLen;omega) (by omega) (by omega) w.heap.size rfl ?_;intro g2 cap2 w2 h1 h2 h3 _;have HEND:=Ab (Aa HFIN g2 cap2 w2 h1 h2 h3);clear h1 h2 h3)
 all_goals (go_ret;exact Aa HEND)
end
end

section
set_option maxRecDepth 100000
set_option maxHeartbeats 8000000
open Go.RowKit
theorem Mh{P:Program}{w:World}{ops:Array Oper}{rest:List Oper}{o:Oper}{a:Act}{Q:Exit->Act->World->Prop}(hgd:o.guard=none)(s x:Operand)(t tn e:TypeId)(i:TypeInfo)(z:Value)(kn kq:IntKind)
  (ho:o.op = .call { callee:=.builtin .append,args:=#[s,x],argTypes:=#[t,tn] }) (ht:P.underlying t=some (.slice e)) (htn:P.underlying tn=some (.int kn)) (hi:P.info? e=some i) (hz:i.zero=some z) (hs1:i.size=1) (hb8:i.bytes=8) (hzc:z.cells.size=1)
  (g off sLen sCap:Nat) (hs:a.eval s = .slice (some ⟨g,off,none⟩) sLen sCap) (olds:List Value) (hl:olds.length=sLen) (hold:∀j u,olds[j]? = some u->w.cell? ((⟨g,off,none⟩:Addr).add j)=some u)
  (k:Nat) (h0:0<k) (hx:a.eval x = .int kq k) (hg:sCap<sLen+k) (hbd:sLen+k<=10000000000000) (tot:Nat) (htot:sLen+k=tot)
  (h:∀cap2 (cur:List Value) w1,tot<=cap2->cap2<=maxLen->cur.length=cap2->cur.take sLen=olds->Hid (w1.heap[w.heap.size]? = some (.cells cur.toArray e (0,0)))->Below w.heap.size w w1->wpList P ops Q rest (a.put o.dst (.slice (some ⟨w.heap.size,0,none⟩) tot cap2)) w1):wpList P ops Q (o::rest) a w:=by
 subst htot;refine wpList_plain hgd fun K hK=>?_;have hfc:(Builtin.firstCells i.size sLen (.slice (some ⟨g,off,none⟩) sLen sCap)).run P w.drew = .ok olds.toArray w.drew:=by
  rw[hs1];exact run_firstCells_some w.drew 1 sLen ⟨g,off,none⟩ sLen sCap olds (by omega) hold
 have hfit:=growslice_fits (bytes:=i.bytes) hg (by rw[hb8];omega);have hr:=Lib.run_append_grow_zeros (P:=P) w t tn o.type e i z kq kn ht htn hi hz (some ⟨g,off,none⟩) sLen sCap olds hfc k h0 (by omega) hg (by omega) (by rw[hb8];omega) hfit;have hge:=grownCap_ge w (sLen+k) sCap e;have hcm:grownCap w (sLen+k) sCap e<=maxLen:=grownCap_le_maxLen w (sLen+k) sCap e (by unfold maxLen;omega);have hfin:=h _ (olds++(Builtin.zeroCells z.cells k++Builtin.zeroCells z.cells (grownCap w (sLen+k) sCap e-(sLen+k))).toList) (w.drew.alloc (.cells (olds.toArray++Builtin.zeroCells z.cells k++Builtin.zeroCells z.cells (grownCap w (sLen+k) sCap e-(sLen+k))) e)) hge hcm (by
   simp only[List.length_append,Array.length_toList,Array.size_append,size_zeroCells,hzc];omega) (by rw[<- hl,List.take_left]) (by
   have e1:(olds++(Builtin.zeroCells z.cells k++Builtin.zeroCells z.cells (grownCap w (sLen+k) sCap e-(sLen+k))).toList).toArray=olds.toArray++Builtin.zeroCells z.cells k++Builtin.zeroCells z.cells (grownCap w (sLen+k) sCap e-(sLen+k)):=by
    apply Array.toList_inj.1;simp
   rw[e1];exact heap_alloc_new w.drew _) ⟨rfl,rfl,rfl,by simp,fun j hj=>heap_alloc_old w.drew (.cells _ _) hj⟩
 unfold Oper.wp execOp;simp only[ho,resolve,invoke,builtin,Sem.run_bind,Sem.run_pure,Result.andThen_ok,List.map_toArray,List.map_cons,List.map_nil,hs,hx,hr];exact hK _ _ hfin
theorem OT{w:World}{q:Nat}{v:Value}(h:w.cell? ⟨q,0,none⟩=some v):∀j u,([v]:List Value)[j]? = some u->w.cell? ((⟨q,0,none⟩:Addr).add j)=some u:=by
 intro j u hj;cases j with
 | zero=>injection hj with hj;subst hj;exact h
 | succ j=>simp at hj
theorem Lk{x:Option Addr}:∀u∈[Value.pointer x],u.oneCell'=true:=by
 intro u hu;simp at hu;subst hu;rfl
theorem KW{α:Type}{l:List α}{i j:Nat}{u:α}(h:(l.take i)[j]? = some u):l[j]? = some u:=by
 rw[List.getElem?_take] at h;split at h
 ·exact h
 ·cases h
theorem M6{l:List (Option Addr)}{i:Nat}{x:Option Addr}{cur:List Value}(hi:i<=l.length)(hc:l.length+1<=cur.length)(ht:cur.take i=(l.map Value.pointer).take i) :
  (splice (splice cur i [.pointer x]) (i+1) ((l.map Value.pointer).drop i)).take (l.length+1)=(Sp.lins i x l).map Value.pointer/\(splice (splice cur i [.pointer x]) (i+1) ((l.map Value.pointer).drop i)).length=cur.length:=by
 have h1:(cur.take i).length=i:=by rw[List.length_take];omega
 unfold splice Sp.lins;constructor
 ·have e1:(List.take i cur++([Value.pointer x]++List.drop (i+[Value.pointer x].length) cur)).take (i+1)=List.take i cur++[Value.pointer x]:=by
   rw[List.take_append,h1];simp[List.take_of_length_le,h1]
  rw[e1,ht];rw[List.map_append,List.map_cons,List.map_take,List.map_drop];have h2:(List.take i (List.map Value.pointer l)++[Value.pointer x]++List.drop i (List.map Value.pointer l)).length=l.length+1:=by simp;omega
  rw[show ∀d:List Value,List.take i (List.map Value.pointer l)++[Value.pointer x]++(List.drop i (List.map Value.pointer l)++d)=(List.take i (List.map Value.pointer l)++[Value.pointer x]++List.drop i (List.map Value.pointer l))++d from fun d=>by simp];rw[<- h2,List.take_left];simp
 ·simp;omega
section
variable{w:World}{sl:Value}{l:List (Option Addr)}{x:Option Addr}{q i:Nat}
theorem Uj{g:Nat}(ho:w.ownsRow 0 80 1 (.slice (some ⟨g,0,none⟩) l.length l.length) l.length (l.map Value.pointer))(hq:w.heap[q]? = some (.cells #[.pointer x] 80 (0,0)))(hi:i<l.length)(hb:l.length<=1000000000000) :
  Calls Tryz.prog 291 #[.slice (some ⟨g,0,none⟩) l.length l.length,.int .i64 i,.slice (some ⟨q,0,none⟩) 1 1] w (FG l i x (.slice (some ⟨g,0,none⟩) l.length l.length) w):=by
 obtain⟨i0,hi0,hz0,hz1,hz2⟩:=Ef Fo;have hsz:(Tryz.prog.info? 80).map (·.size)=some 1:=by rw[hi0];simp[hz1]
 have hcells:∀j u,(l.map Value.pointer)[j]? = some u->w.cell? ((⟨g,0,none⟩:Addr).add j)=some u:=fun j u h=>ho.cells (g:=g) rfl j u h;have hlt:g<w.heap.size/\q<w.heap.size:=⟨(BP ho g rfl).1,(Array.getElem?_eq_some_iff.1 hq).1⟩
 obtain⟨N,hN⟩:∃N,N=l.length:=⟨_,rfl⟩
 have hcq:w.cell? ⟨q,0,none⟩=some (.pointer x):=by simp[World.cell?,hq]
 have HC:=Ab hcells;have HQ:=Ab hcq;have HN:=Ab hN;have hiN:i<N:=by omega
 have hN2:N<=1000000000000:=by omega
 have hne:¬ (i:Int)=(N:Int):=by omega
 have hi1:(i:Int)<=N:=by omega
 have HFIN:=Ab (show ∀cap2 (cur:List Value) w3,l.length+1<=cap2->cap2<=maxLen->cur.length=cap2->cur.take i=(l.map Value.pointer).take i->w3.heap[w.heap.size]? = some (.cells (splice (splice cur i [.pointer x]) (i+1) ((l.map Value.pointer).drop i)).toArray 80 (0,0))->Below w.heap.size w w3->FG l i x (.slice (some ⟨g,0,none⟩) l.length l.length) w (.returned (.slice (some ⟨w.heap.size,0,none⟩) (l.length+1) cap2)) w3 from fun cap2 cur w3 h1 h2 h3 h4 h5 hb3=>by
  obtain⟨r1,r2⟩:=M6 (x:=x) (by omega) (show l.length+1<=cur.length by omega) h4;refine⟨w.heap.size,cap2,rfl,⟨by simp[Sp.GH x (show i<=l.length by omega)],Or.inr ⟨w.heap.size,cap2,_,rfl,Nat.zero_le _,h5,h1,h2,by simp[r2,h3],?_⟩⟩,⟨hb3.os,hb3.tape,hb3.output,hb3.size,fun k hk _=>hb3.block k hk⟩,Or.inr (Nat.le_refl _)⟩;rw[Nat.mul_one];exact r1)
 rw[<- hN] at HFIN hb |-;clear ho hq hi hcells hcq hN
 go_enter func291,ntmps291
 have hx9:Value.int .i64 ((N:Int)+1-(i:Int)) = .int .i64 ((N+1-i:Nat):Int):=by rw[show (N:Int)+1-(i:Int)=((N+1-i:Nat):Int) by omega]
 go_wp2_with (first
  | (at_builtin;refine Mh rfl _ _ 106 3 80 i0 (.pointer none) .i64 .i64 rfl underlying106 underlying3 hi0 hz0 hz1 hz2 rfl g 0 i N rfl ((l.map Value.pointer).take i) (by have:=Aa HN;simp;omega) (fun j u hj=>Aa HC j u (KW hj)) (N+1-i) (by omega) hx9 (by omega) (by omega) (N+1) (by omega) ?_;intro cap2 cur w1 h1 h2 h3 h4 h5 hb1;have hq1:=(hb1.cell (p:=⟨q,0,none⟩) hlt.2).trans (Aa HQ);have hci:¬ cap2=i:=(by omega);have HQ1:=Ab hq1;have HB1:=Ab hb1;have H4:=Ab h4;clear hq1 hb1 h4)
  | ((with_reducible refine Qz ?_);go_loud (refine wpList_copy_splice rfl _ _ 106 106 rfl 80 underlying106 hsz (some ⟨w.heap.size,i,none⟩) (some ⟨q,0,none⟩) (N+1-i) (cap2-i) 1 1 rfl rfl w.heap.size i cur 80 (Aa h5) [.pointer x] (by simp[Nat.min_def];omega) (fun _=>⟨rfl,⟨q,0,none⟩,rfl,OT (Aa HQ1)⟩) (by simp;omega) Lk w.heap.size w (Aa HB1) (Nat.le_refl _) ?_);intro w2 h6 hb2;have HB2:=Ab hb2;clear hb2))
 have hci2:¬ cap2=i+1:=by omega
 have hlen:Hid ((splice cur i [Value.pointer x]).length=cap2):=by
  have:=length_splice cur i [Value.pointer x] (by simp;omega);rw[h3] at this;exact this
 have hsrc:Hid (∀j v,((l.map Value.pointer).drop i)[j]? = some v->w2.cell? ((⟨g,i,none⟩:Addr).add j)=some v):=fun j v hj=>by
  rw[List.getElem?_drop] at hj;have h9:=Aa HC (i+j) v hj;rw[Addr.add_lit] at h9 |-;rw[Nat.zero_add] at h9;exact ((Aa HB2).cell (p:=⟨g,i+j,none⟩) hlt.1).trans h9
 have hdl:Hid (((l.map Value.pointer).drop i).length=N-i):=by have:=Aa HN;show _=_;simp;omega
 have hone:∀u∈(l.map Value.pointer).drop i,u.oneCell'=true:=fun u hu=>by
  obtain⟨y,_,rfl⟩:=List.mem_map.1 (List.mem_of_mem_drop hu);rfl
 have hwr:IntKind.i64.wrap ((i:Int)+1)=((i+1:Nat):Int):=by rw[IntKind.wrap_i64];omega
 have hi2:((i+1:Nat):Int)<=(N:Int)+1:=by omega
 have hi3:(0:Int)<=(i:Int)+1:=by omega
 obtain⟨w4,hw4⟩:∃w4,w4=w2.drew.setRow w.heap.size ((splice cur i [Value.pointer x]).toArray.toList.take (i+1)++(l.map Value.pointer).drop i++(splice cur i [Value.pointer x]).toArray.toList.drop (i+1+((l.map Value.pointer).drop i).length)).toArray:=⟨_,rfl⟩
 have hrun:∀ty,(Builtin.copy_ #[106,106] ty #[.slice (some ⟨w.heap.size,i+1,none⟩) (N-i) (cap2-(i+1)),.slice (some ⟨g,i,none⟩) (N-i) (N-i)]).run Tryz.prog w2.drew = .ok (goInt ((l.map Value.pointer).drop i).length) w4:=fun ty=>by
  rw[hw4];exact run_copy_row (P:=Tryz.prog) w2.drew 106 106 ty 80 w.heap.size (i+1) (N-i) (cap2-(i+1)) ⟨g,i,none⟩ (N-i) (N-i) (splice cur i [.pointer x]).toArray 80 ((l.map Value.pointer).drop i) underlying106 hsz (Aa h6) (by rw[Aa hdl];simp) (Aa hsrc) (by rw[Aa hdl];show _<=(splice cur i [Value.pointer x]).toArray.size;rw[List.size_toArray,Aa hlen];omega) hone
 have HB4:=Ab (show Below w.heap.size w w4 from by rw[hw4];exact below_setRow (w:=w2.drew) ⟨(Aa HB2).os,(Aa HB2).tape,(Aa HB2).output,(Aa HB2).size,(Aa HB2).block⟩ (Nat.le_refl _) _);have HG4:=Ab (show w4.heap[w.heap.size]? = some (.cells (splice (splice cur i [.pointer x]) (i+1) ((l.map Value.pointer).drop i)).toArray 80 (0,0)) from by
  rw[hw4,setRow_heap w2.drew w.heap.size _ _ 80 _ (Aa h6)];simp[splice])
 have HEND:=Ab (Aa HFIN cap2 cur w4 (by have:=Aa HN;omega) h2 h3 (Aa H4) (Aa HG4) (Aa HB4));rw[show ((l.map Value.pointer).drop i).length=N-i from Aa hdl] at hrun;clear hw4 HB4 HG4 HFIN hone hdl hsrc hlen H4 h6 HB2 h5 h2 h3 HB1 HQ1 HC HQ hx9 hz0 hz1 hz2 hi0 hsz;have hni:¬ N=i:=by omega
 go_region_law (fail)
 all_goals (go_wp2_with (fail);go_ret;exact Aa HEND)
end
end

section
set_option maxRecDepth 100000
set_option maxHeartbeats 8000000
open Go.RowKit
section
variable{w:World}{sl:Value}{l:List (Option Addr)}{x:Option Addr}{q i:Nat}
theorem Ui{g cap:Nat}(ho:w.ownsRow 0 80 1 (.slice (some ⟨g,0,none⟩) l.length cap) l.length (l.map Value.pointer))(hq:w.heap[q]? = some (.cells #[.pointer x] 80 (0,0)))(hqg:q≠g)(hi:i<l.length)(hroom:l.length<cap)(hb:l.length<=1000000000000) :
  Calls Tryz.prog 291 #[.slice (some ⟨g,0,none⟩) l.length cap,.int .i64 i,.slice (some ⟨q,0,none⟩) 1 1] w (FG l i x (.slice (some ⟨g,0,none⟩) l.length cap) w):=by
 obtain⟨i0,hi0,hz0,hz1,hz2⟩:=Ef Fo;have hsz:(Tryz.prog.info? 80).map (·.size)=some 1:=by rw[hi0];simp[hz1]
 obtain⟨cur,hg,hcm,hcs,htake⟩:∃cur:List Value,w.heap[g]? = some (.cells cur.toArray 80 (0,0))/\cap<=maxLen/\cur.length=cap/\cur.take l.length=l.map Value.pointer:=by
  rcases ho.2 with⟨h,_⟩|⟨g',cap',cur,h,_,h2,_,h4,h5,h6⟩
  ·cases h
  ·injection h with h7 _ h8;injection h7 with h7;injection h7 with h7;subst h7;subst h8;exact⟨cur.toList,by simpa using h2,h4,by simpa using h5,by simpa using h6⟩
 obtain⟨N,hN⟩:∃N,N=l.length:=⟨_,rfl⟩
 have hcq:w.cell? ⟨q,0,none⟩=some (.pointer x):=by simp[World.cell?,hq]
 have hov:=fun (off n c:Nat)=>MQ (off:=off) (n:=n) (c:=c) hg hq hqg;have hlt:g<w.heap.size/\q<w.heap.size:=⟨(Array.getElem?_eq_some_iff.1 hg).1,(Array.getElem?_eq_some_iff.1 hq).1⟩
 have hdl:((cur.drop i).take (N-i)).length=N-i:=by simp;omega
 have hsrc:∀W:World,W.heap[g]? = w.heap[g]? -> ∀j v,((cur.drop i).take (N-i))[j]? = some v->W.cell? ((⟨g,i,none⟩:Addr).add j)=some v:=fun W hW j v hj=>by
  have h1:=KW hj;rw[List.getElem?_drop] at h1;rw[Addr.add_lit,World.cell?_of_block (w:=w) hW];simp[World.cell?,hg,h1]
 have hone:∀u∈(cur.drop i).take (N-i),u.oneCell'=true:=fun u hu=>by
  obtain⟨j,hj⟩:=List.getElem?_of_mem hu;rw[List.getElem?_take] at hj;split at hj
  ·rename_i hjN;rw[List.getElem?_drop] at hj;have h2:(cur.take l.length)[i+j]? = some u:=by rw[List.getElem?_take,if_pos (by omega)];exact hj
   rw[htake,List.getElem?_map] at h2;obtain⟨y,_,rfl⟩:=Option.map_eq_some_iff.1 h2;rfl
  ·cases hj
 obtain⟨cur2,hcur2⟩:∃cur2,cur2=splice cur (i+1) ((cur.drop i).take (N-i)):=⟨_,rfl⟩
 have hcl2:cur2.length=cap:=by
  have:=length_splice cur (i+1) ((cur.drop i).take (N-i)) (by rw[hdl];omega);rw[hcur2,this,hcs]
 have hrun1:∀ty,(Builtin.copy_ #[106,106] ty #[.slice (some ⟨g,i+1,none⟩) (N-i) (cap-(i+1)),.slice (some ⟨g,i,none⟩) (N+1-i) (cap-i)]).run Tryz.prog w.drew = .ok (goInt ((N-i:Nat))) (w.drew.setRow g (cur.toArray.toList.take (i+1)++(cur.drop i).take (N-i)++cur.toArray.toList.drop (i+1+((cur.drop i).take (N-i)).length)).toArray):=fun ty=>by
  have h:=run_copy_row (P:=Tryz.prog) w.drew 106 106 ty 80 g (i+1) (N-i) (cap-(i+1)) ⟨g,i,none⟩ (N+1-i) (cap-i) cur.toArray 80 ((cur.drop i).take (N-i)) underlying106 hsz hg (by rw[hdl];simp[Nat.min_def];omega) (hsrc w.drew rfl) (by rw[hdl,List.size_toArray];omega) hone;rw[hdl] at h |-;exact h
 have hg4:(w.drew.setRow g (cur.toArray.toList.take (i+1)++(cur.drop i).take (N-i)++cur.toArray.toList.drop (i+1+((cur.drop i).take (N-i)).length)).toArray).heap[g]? = some (.cells cur2.toArray 80 (0,0)):=by
  rw[setRow_heap w.drew g _ _ 80 _ hg,hcur2];simp[splice]
 have hk4:w.grownBy (w.drew.setRow g (cur.toArray.toList.take (i+1)++(cur.drop i).take (N-i)++cur.toArray.toList.drop (i+1+((cur.drop i).take (N-i)).length)).toArray) (some g):=⟨rfl,rfl,rfl,by simp[World.setRow],fun k _ hne=>setRow_other w.drew g k _ (fun e=>hne (by rw[e]))⟩
 generalize w.drew.setRow g (cur.toArray.toList.take (i+1)++(cur.drop i).take (N-i)++cur.toArray.toList.drop (i+1+((cur.drop i).take (N-i)).length)).toArray=w4 at *;have hcq4:w4.cell? ⟨q,0,none⟩=some (.pointer x):=(World.cell?_of_block (a:=⟨q,0,none⟩) (hk4.block q hlt.2 (fun e=>hqg (Option.some.inj e)))).trans hcq;have hfin:∀w5:World,w5.heap[g]? = some (.cells (splice cur2 i [.pointer x]).toArray 80 (0,0))->w4.grownBy w5 (some g)->FG l i x (.slice (some ⟨g,0,none⟩) l.length cap) w (.returned (.slice (some ⟨g,0,none⟩) (l.length+1) cap)) w5:=fun w5 h5 hk5=>by
  refine⟨g,cap,rfl,⟨by simp[Sp.GH x (show i<=l.length by omega)],Or.inr ⟨g,cap,_,rfl,Nat.zero_le _,h5,by omega,hcm,?_,?_⟩⟩,⟨hk5.os.trans hk4.os,hk5.tape.trans hk4.tape,hk5.output.trans hk4.output,Nat.le_trans hk4.size hk5.size,fun k hk hne=>(hk5.block k (Nat.lt_of_lt_of_le hk hk4.size) hne).trans (hk4.block k hk hne)⟩,Or.inl rfl⟩
  ·have:=length_splice cur2 i [Value.pointer x] (by simp;omega);simp[this,hcl2]
  ·have e1:splice cur2 i [Value.pointer x]=splice (splice cur i [.pointer x]) (i+1) ((l.map Value.pointer).drop i):=by
    have e3:(l.map Value.pointer).drop i=(cur.drop i).take (N-i):=by
     rw[<- htake,hN,List.drop_take]
    rw[e3,hcur2];have hl1:(cur.take i).length=i:=by rw[List.length_take];omega
    have hl2:(cur.take (i+1)).length=i+1:=by rw[List.length_take];omega
    unfold splice;simp only[List.length_cons,List.length_nil,Nat.zero_add];rw[List.take_append_of_le_length (by omega),List.take_take,Nat.min_eq_left (by omega)];rw[List.drop_append,List.drop_of_length_le (by omega),hl2,Nat.sub_self,List.drop_zero,List.nil_append];have e4:(List.take i cur++([Value.pointer x]++List.drop (i+1) cur)).take (i+1)=List.take i cur++[Value.pointer x]:=by
     rw[List.take_append,hl1];simp[List.take_of_length_le,hl1]
    rw[e4];have e5:List.drop (i+1+((cur.drop i).take (N-i)).length) (List.take i cur++([Value.pointer x]++List.drop (i+1) cur))=List.drop (i+1+((cur.drop i).take (N-i)).length) cur:=by
     rw[<- List.append_assoc,List.drop_append,List.drop_of_length_le (by simp only[List.length_append,List.length_cons,List.length_nil,hl1];omega),List.nil_append,List.drop_drop];congr 1;simp only[List.length_append,List.length_cons,List.length_nil,hl1];omega
    rw[e5];simp
   have hr:=(M6 (x:=x) (cur:=cur) (i:=i) (by omega) (show l.length+1<=cur.length by omega) (by rw[<- htake,List.take_take,Nat.min_eq_left (by omega)])).1;rw[Nat.mul_one,List.toList_toArray,e1];exact hr
 have hrun2:∀ty,(Builtin.copy_ #[106,106] ty #[.slice (some ⟨g,i,none⟩) (N+1-i) (cap-i),.slice (some ⟨q,0,none⟩) 1 1]).run Tryz.prog w4 = .ok (goInt (1:Nat)) (w4.setRow g (cur2.toArray.toList.take i++[Value.pointer x]++cur2.toArray.toList.drop (i+[Value.pointer x].length)).toArray):=fun ty =>
  run_copy_row (P:=Tryz.prog) w4 106 106 ty 80 g i (N+1-i) (cap-i) ⟨q,0,none⟩ 1 1 cur2.toArray 80 [.pointer x] underlying106 hsz hg4 (by simp[Nat.min_def];omega) (OT hcq4) (by simp;omega) Lk
 have hg5:(w4.setRow g (cur2.toArray.toList.take i++[Value.pointer x]++cur2.toArray.toList.drop (i+[Value.pointer x].length)).toArray).heap[g]? = some (.cells (splice cur2 i [.pointer x]).toArray 80 (0,0)):=by
  rw[setRow_heap w4 g _ _ 80 _ hg4];simp[splice]
 have hk5:w4.grownBy (w4.setRow g (cur2.toArray.toList.take i++[Value.pointer x]++cur2.toArray.toList.drop (i+[Value.pointer x].length)).toArray) (some g):=⟨rfl,rfl,rfl,by simp[World.setRow],fun k _ hne=>setRow_other w4 g k _ (fun e=>hne (by rw[e]))⟩
 generalize w4.setRow g (cur2.toArray.toList.take i++[Value.pointer x]++cur2.toArray.toList.drop (i+[Value.pointer x].length)).toArray=w5 at *;have HEND:=Ab (hfin w5 hg5 hk5);have hiN:i<N:=by omega
 have hN2:N<=1000000000000:=by omega
 have hne:¬ (i:Int)=(N:Int):=by omega
 have hi1:(i:Int)<=N:=by omega
 have hcap2:¬ (cap:Int)<(N:Int)+1:=by omega
 have hcap3:(N:Int)+1<=(cap:Int):=by omega
 have hcm2:(cap:Int)<=9223372036854775807:=by unfold maxLen at hcm;omega
 have hci:¬ cap=i:=by omega
 have hci2:¬ cap=i+1:=by omega
 rw[<- hN] at HEND |-;clear ho hq hi hg hcs htake hN hcq hdl hsrc hone hcur2 hcl2 hg4 hk4 hcq4 hfin hroom hb hcm hg5 hk5 hz0 hz1 hz2 hi0 hsz hlt;have hwr:IntKind.i64.wrap ((i:Int)+1)=((i+1:Nat):Int):=by rw[IntKind.wrap_i64];omega
 have hi2:((i+1:Nat):Int)<=(N:Int)+1:=by omega
 have hi3:(0:Int)<=(i:Int)+1:=by omega
 have hi4:(i:Int)<=(N:Int)+1:=by omega
 go_enter func291,ntmps291
 go_wp2_with (fail)
 go_region_law (fail)
 all_goals (go_wp2_with (fail);go_ret;exact Aa HEND)
theorem Yo(ho:w.ownsRow 0 80 1 sl l.length (l.map Value.pointer))(hq:w.heap[q]? = some (.cells #[.pointer x] 80 (0,0)))(hqg:sl.ownBlock≠some q)(hi:i<=l.length)(hb:l.length<=1000000000000) :
  Calls Tryz.prog 291 #[sl,.int .i64 i,.slice (some ⟨q,0,none⟩) 1 1] w (FG l i x sl w):=by
 by_cases he:i=l.length
 ·subst he;exact Wt ho hq hb
 ·rcases ho.2 with⟨_,h⟩|⟨g,cap,cur,rfl,_,_,h3,_⟩
  ·omega
  ·by_cases hc:cap=l.length
   ·subst hc;exact Uj ho hq (by omega) hb
   ·exact Ui ho hq (fun e=>hqg (by rw[e];rfl)) (by omega) (by omega) hb
end
end

section
open Go.RowKit Go.Maps
theorem Pt.first{P:Value->Sp.V->Prop}(k:Lit):∀ {l:List (Lit×DataW Value)} {m:List (Lit×Sp.V)},Pt P l m->Maps.has (.map l) k=true ->
  ∃i key c x,m.findIdx? (fun p=>p.1.sameKey k)=some i/\m[i]? = some (key,c)/\m.find? (fun p=>p.1.sameKey k)=some (key,c)/\(∀z,(DataW.map l).atKey k z = .held x)/\P x c
 | [],[],_,h=>by cases h
 | a::r,b::s,⟨⟨kk,x,e,g⟩,t⟩,h=>by
  by_cases hk:a.1.sameKey k=true
  ·have hb:b.1.sameKey k=true:=by rw[<- kk];exact hk
   refine⟨0,b.1,b.2,x,?_,rfl,?_,fun z=>?_,g⟩
   ·rw[List.findIdx?_cons,if_pos hb]
   ·exact Fx (p:=fun p=>p.1.sameKey k) hb
   ·rw[B8,Fx (p:=fun p=>p.1.sameKey k) hk];exact e
  ·have hb:¬ b.1.sameKey k=true:=by rw[<- kk];exact hk
   have h2:Maps.has (.map r) k=true:=by
    have h3:(a.1.sameKey k || r.any fun p=>p.1.sameKey k)=true:=h;rw[Bool.eq_false_iff.2 hk,Bool.false_or] at h3;exact h3
   obtain⟨i,key,c,x',e1,e2,e3,e4,e5⟩:=Pt.first k t h2
   refine⟨i+1,key,c,x',?_,by simpa using e2,?_,fun z=>?_,e5⟩
   ·rw[List.findIdx?_cons,if_neg hb,e1];rfl
   ·rw[Gk (p:=fun p=>p.1.sameKey k) hb];exact e3
   ·rw[B8,Gk (p:=fun p=>p.1.sameKey k) hk];exact e4 z
def DP(f:Nat)(w:World)(n:Sp.A)(t:Sp.By)(e:Ending):Prop:=match Sp.Aj (Sp.str (f+1) n) t with
 | .ok d=>∃i c x,Sp.pos (Sp.str (f+1) n) t=some i/\(Sp.AL n)[i]? = some c/\d=Sp.str f c/\e = .returned (.tuple #[x,.int .i64 0])/\Ae f w x c
 | .error c=>e = .returned (.tuple #[.pointer none,.int .i64 c])
theorem Dx{f c:Nat}{w:World}{n:Sp.A}{t:Sp.By}(h:Sp.Aj (Sp.str (f+1) n) t = .error c):DP f w n t (.returned (.tuple #[.pointer none,.int .i64 c])):=by
 unfold DP;rw[h]
theorem Lt{f i:Nat}{w:World}{n c:Sp.A}{t:Sp.By}{x:Value}(h:Sp.Aj (Sp.str (f+1) n) t = .ok (Sp.str f c))(h1:Sp.pos (Sp.str (f+1) n) t=some i)(h2:(Sp.AL n)[i]? = some c)(h3:Ae f w x c) :
  DP f w n t (.returned (.tuple #[x,.int .i64 0])):=by
 unfold DP;rw[h];exact⟨i,c,x,h1,h2,rfl,rfl,h3⟩
theorem Jl{f:Nat}{w:World}{u:Value}{n:Sp.A}{t:Sp.By}(ht:t.length<=1048576)(hr:Rng w)(h:Ae (f+1) w u n) :
  Calls Tryz.prog 111 #[u,.string ⟨t.toArray⟩] w fun e w'=>DP f w n t e/\Below w.heap.size w w':=by
 obtain⟨b,g,x,rfl,rfl,h⟩:=h;rcases h with⟨k,hk,_,rfl,h⟩|⟨m,_,rfl,h,hbd⟩|⟨s,_,rfl,h⟩|⟨al,sl,ps,rfl,h,ho,hs,ha⟩|⟨es,m,D,rfl,h,ho,hp⟩
 ·refine (DC (k:=k) (by omega) h).mono ?_;rintro e w' ⟨rfl,hb⟩;exact⟨Dx (c:=11) rfl,hb⟩
 ·refine (DC (k:=3) (by omega) h).mono ?_;rintro e w' ⟨rfl,hb⟩;exact⟨Dx (c:=11) rfl,hb⟩
 ·refine (DC (k:=4) (by omega) h).mono ?_;rintro e w' ⟨rfl,hb⟩;exact⟨Dx (c:=11) rfl,hb⟩
 ·have hl:=ha.length;refine QC (R:=DP f w (Sp.nd b g (.slice al [])) t) ht hr h ho (fun hi=>Dx (Gr hi)) (fun i hi hx=>?_) (fun i hx hi=>Dx (G6 hx (by simp;omega)));have hia:i<al.length:=by omega
  refine Lt (c:=al[i]) (i:=i) ?_ ?_ (by rw[Sp.B2];exact List.getElem?_eq_getElem hia) (ha.get i hi hia)
  ·rw[Sp.Bo,H9 hx (by simpa using hia),List.getElem_map]
  ·rw[Sp.Bo];unfold Sp.pos Sp.Ar;simp only[hx];rw[if_pos (by simpa using hia)]
 ·have hh:Maps.has (.map D:DataW Value) (.string t)=Maps.has (.map (es.map fun p=>(p.1,Sp.str f p.2)):DataW Unit) (.string t) :=
   (Pt.mapR (P:=fun _ _=>True) (q:=Sp.str f) (hp.mono fun _ _ _=>trivial)).has _
  have hc:Sp.Aj (Sp.str (f+1) (Sp.nd b g (.map es))) t=(if Maps.has (.map D:DataW Value) (.string t) then .ok ((DataW.map (es.map fun p=>(p.1,Sp.str f p.2))).atKey (.string t) .nil) else .error 11):=by
   rw[hh];rfl
  refine QB (R:=DP f w (Sp.nd b g (.map es)) t) ht h ho (fun hno=>Dx (by rw[hc,if_neg (by rw[hno];decide)])) (fun hyes=>?_);obtain⟨i,key,c,x,e1,e2,e3,e4,e5⟩:=hp.first (.string t) hyes
  refine⟨x,e4,Lt (c:=c) (i:=i) ?_ ?_ ?_ e5⟩
  ·rw[hc,if_pos hyes,B8,List.find?_map,show ((fun p=>p.1.sameKey (.string t)) ∘ fun p:Lit×Sp.A=>(p.1,Sp.str f p.2))=fun p=>p.1.sameKey (.string t) from rfl,e3];rfl
  ·rw[Sp.Ba];unfold Sp.pos Sp.Av;simp only;rw[List.findIdx?_map];exact e1
  ·rw[Sp.BI,List.getElem?_map,e2];rfl
theorem RU(fa:Nat)(v:Value)(a:Sp.A):SZ (InT fa v a) where
 call:=fun s w u d t ht hr h=>by
  obtain⟨hroot,f,p,n,hf,hs,hT,rfl,hp⟩:=h;cases f with
  | zero=>exact hT.elim
  | succ f =>
   refine (Jl ht hr hT).mono ?_;rintro e w' ⟨hk,hb⟩;refine⟨?_,hb⟩;unfold DP at hk;unfold KP;cases hc:Sp.Aj (Sp.str (f+1) n) t with
   | error c=>rw[hc] at hk;exact hk
   | ok d =>
    rw[hc] at hk;obtain⟨i,c,x,h1,h2,rfl,rfl,h3⟩:=hk;have hvs:Sp.BC p (Sp.str fa a)=some (Sp.str (f+1) n):=by
     rw[<- hf];exact Gx (f:=f+1) (by rw[hf];exact hroot) hs
    refine⟨x,rfl,hroot.bel hb,f,p++[i],c,by simp;omega,Gy h2 hs,h3.bel hb,rfl,?_⟩;exact Sp.Hi h1 (show (Sp.A9 (Sp.str (f+1) n))[i]? = some (Sp.str f c) by rw[DN hT,List.getElem?_map,h2];rfl) hp hvs
theorem Vf{fa:Nat}{a:Sp.A}{w:World}{v pv:Value}{l:List Sp.By}(hl:∀t∈l,t.length<=1048576)(hn:l.length<=1048576)(hr:Rng w)(h:Ae fa w v a)(hp:CQ w pv l) :
  Calls Tryz.prog 81 #[pv,v] w fun e w'=>KP (InT fa v a l) (Sp.Ag (Sp.str fa a) l) e w'/\Below w.heap.size w w' :=
 YT (RU fa v a) hl hn hr ⟨h,fa,[],a,rfl,rfl,h,rfl,rfl⟩ hp
end

section
set_option maxRecDepth 100000
set_option maxHeartbeats 4000000
open Go.RowKit Go.Maps
abbrev plV(pth:Value)(b:Nat)(key:Sp.By)(i:Nat):Value:=.agg #[pth,.pointer (some ⟨b,0,none⟩),.string ⟨key.toArray⟩,.int .i64 i]
theorem LK(w:World)(o:Obj)(q:Nat):Below w.heap.size w ((w.alloc o).drewN q):=by
 have h:=(Below.refl w.heap.size w).alloc (Nat.le_refl _) o;exact⟨h.os,h.tape,h.output,h.size,h.block⟩
section
variable{w:World}{b:Nat}{pth:Value}{key:Sp.By}{i:Nat}
theorem O5{m n:Nat}{D:List (Lit×DataW Value)}(hk:key.length<=1048576)(h:VB w b 6 n0 [] (.slice none 0 0) (.map (some m)))(ho:w.ownsMap Tryz.prog 9 RV m n (.map D)){x:Value}(hx:(DataW.map D).atKey (.string key) (.held (.pointer none)) = .held x) :
  Calls Tryz.prog 159 #[plV pth b key i] w fun e w'=>e = .returned x/\Below w.heap.size w w':=by
 have hbl:=h.lt;have q0:∀o,(w.alloc o).cell? ⟨b,0,none⟩=some (.int .i64 6):=fun o=>(World.cell?_of_block (w:=w) (Below.heap_alloc w o b hbl)).trans h.c0;have q6:∀o,(w.alloc o).cell? ⟨b,6,none⟩=some (.map (some m)):=fun o=>(World.cell?_of_block (w:=w) (Below.heap_alloc w o b hbl)).trans h.c6;have hlk:∀o q,(Instr.lookup 109 (.map (some m)) (.string ⟨key.toArray⟩) false).run Tryz.prog ((w.alloc o).drewN q) = .ok x ((w.alloc o).drewN q):=fun o q=>by
  obtain⟨v,ps,hrun,hv⟩:=(AJ (w':=(w.alloc o).drewN q) ho (Below.heap_alloc w o m (B0 ho))).lookup Cd underlying109 (C9 _) (zd:=.held (.pointer none)) (zp:=[]) rfl (Fj key hk);rw[hx] at hv;obtain⟨rfl,_⟩:=Du hv rfl;exact hrun
 have hl0:∀o,(Instr.lookup 109 (.map (some m)) (.string ⟨key.toArray⟩) false).run Tryz.prog (w.alloc o) = .ok x (w.alloc o):=fun o=>hlk o 0;clear h ho hx
 go_enter func159,ntmps159
 go_wp2_with (fail)
 go_quiet (fail)
 go_wp2_with (fail)
 go_ret;exact⟨rfl,LK _ _ _⟩
theorem Ww{sl:Value}{ps:List Value}(h:VB w b 5 n0 [] sl (.map none))(ho:w.ownsRow 0 80 1 sl ps.length ps)(hi:i<ps.length) :
  Calls Tryz.prog 159 #[plV pth b key i] w fun e w'=>e = .returned ps[i]/\Below w.heap.size w w':=by
 have hbl:=h.lt;have q0:∀o,(w.alloc o).cell? ⟨b,0,none⟩=some (.int .i64 5):=fun o=>(World.cell?_of_block (w:=w) (Below.heap_alloc w o b hbl)).trans h.c0;have q5:∀o,(w.alloc o).cell? ⟨b,5,none⟩=some sl:=fun o=>(World.cell?_of_block (w:=w) (Below.heap_alloc w o b hbl)).trans h.c5;obtain⟨N,hN⟩:∃N,N=ps.length:=⟨_,rfl⟩
 obtain⟨g,cap,rfl,a1,a2,a3,hc⟩:=BF ho (by omega);have qi:∀o,(w.alloc o).cell? ⟨g,i,none⟩=some ps[i]:=fun o=>(World.cell?_of_block (w:=w) (Below.heap_alloc w o g a3)).trans (hc i hi);rw[<- hN] at q5 a1;have hlt:i<N:=by omega
 have hlt2:(i:Int)<(N:Int):=by omega
 have hn1:(N:Int)<=9223372036854775807:=by unfold maxLen at a2;omega
 generalize ps[i]=pv at *;clear h ho hc hN hi
 go_enter func159,ntmps159
 go_wp2_with (fail)
 go_quiet (fail)
 go_wp2_with (fail)
 go_ret;exact⟨rfl,LK _ _ _⟩
theorem VL{sl:Value}{pu:Option Addr}{ps:List Value}(h:VB w b 5 n0 [] sl (.map none))(ho:w.ownsRow 0 80 1 sl ps.length ps)(hi:i<ps.length) :
  Calls Tryz.prog 250 #[plV pth b key i,.pointer pu] w fun e w'=>e = .returned (.tuple #[]) /\ ∃g,sl.ownBlock=some g/\w'.ownsRow 0 80 1 sl ps.length (ps.set i (.pointer pu))/\w.grownBy w' (some g):=by
 have hbl:=h.lt;have q0:∀o,(w.alloc o).cell? ⟨b,0,none⟩=some (.int .i64 5):=fun o=>(World.cell?_of_block (w:=w) (Below.heap_alloc w o b hbl)).trans h.c0;have q5:∀o,(w.alloc o).cell? ⟨b,5,none⟩=some sl:=fun o=>(World.cell?_of_block (w:=w) (Below.heap_alloc w o b hbl)).trans h.c5;obtain⟨N,hN⟩:∃N,N=ps.length:=⟨_,rfl⟩
 obtain⟨g,cap,rfl,a1,a2,a3,hc⟩:=BF ho (by omega);have qi:∀o,(w.alloc o).cell? ⟨g,i,none⟩=some ps[i]:=fun o=>(World.cell?_of_block (w:=w) (Below.heap_alloc w o g a3)).trans (hc i hi);have zi:∀o,(w.alloc o).frozen? ⟨g,i,none⟩=false:=fun o=>(ho.alloc o).frozenAt i;have HFIN:Hid (∀o,Value.ownBlock (.slice (some ⟨g,0,none⟩) ps.length cap)=some g/\(((w.setCell ⟨g,i,none⟩ (.pointer pu)).alloc o).drew).ownsRow 0 80 1 (.slice (some ⟨g,0,none⟩) ps.length cap) ps.length (ps.set i (.pointer pu))/\w.grownBy (((w.setCell ⟨g,i,none⟩ (.pointer pu)).alloc o).drew) (some g)):=Ab (fun o=>by
  have h1:=ho.stored i (.pointer pu);have h3:=h1.2.andThen (World.grownBy_alloc (w.setCell ⟨g,i,none⟩ (.pointer pu)) o none) (fun j hj=>by cases hj);exact⟨rfl,h1.1.alloc o,⟨h3.os,h3.tape,h3.output,h3.size,h3.block⟩⟩)
 have qi':∀o q,((w.alloc o).drewN q).cell? ⟨g,i,none⟩=some ps[i]:=fun o _=>qi o;have zi':∀o q,((w.alloc o).drewN q).frozen? ⟨g,i,none⟩=false:=fun o _=>zi o;have qi2:∀o,((w.alloc o).drew).cell? ⟨g,i,none⟩=some ps[i]:=fun o=>qi o;have zi2:∀o,((w.alloc o).drew).frozen? ⟨g,i,none⟩=false:=fun o=>zi o;have hlt:i<N:=by omega
 have hlt2:(i:Int)<(N:Int):=by omega
 have hn1:(N:Int)<=9223372036854775807:=by unfold maxLen at a2;omega
 rw[<- hN] at q5 a1 HFIN |-;generalize ps[i]=pv at *;clear h ho hc hN hi
 go_enter func250,ntmps250
 go_wp2_with (fail)
 go_region_law (fail)
 all_goals exact bodyPost_end (results_none rfl _ _ _) rfl ⟨rfl,g,Aa HFIN _⟩
end
end
end Go.Proofs.YtdpomdelmdofmaaGreatDoor
