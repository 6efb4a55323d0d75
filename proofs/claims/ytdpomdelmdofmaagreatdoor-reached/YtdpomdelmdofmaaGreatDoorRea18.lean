import Derived.Test.YtdpomdelmdofmaaGreatDoorRea17
open Go.Value renaming pointer->AI,slice->HG
open Go.World renaming cell?_of_block->AS,cell?->C2,setRow->HE
open Go.Proofs.Tryz renaming prog->AT
open Go.RowKit.Below renaming heap_alloc->A1
open Go.Builtin renaming zeroCells->A2,copy_->Dt
open Go renaming splice->A3,Value->A4,World->A5,maxLen->BY,grownCap->D0,run_copy_row->D1,Calls->F1,setRow_heap->F5
open List renaming getElem?_drop->A6,getElem?_map->Bs,take->CD,drop->CH,length_cons->CL,drop_of_length_le->CR,length_nil->C1,getElem?_take->DD,size_toArray->D2,length_take->Ft,drop_append->FD,nil_append->G0,take_take->G2,map_cons->G3
open Nat renaming le_refl->Dp,min_def->F2,min_eq_left->F7,zero_add->HD,zero_le->HH,mul_one->HI
open Go.Maps renaming has->D3
open Go.IntKind renaming wrap_i64->E0
open Go.RowKit renaming Below->G1
open Go.DataW renaming map->HA
open Go.Addr renaming add_lit->HB
open Go.Instr renaming lookup->HF
set_option maxRecDepth 100000
set_option maxHeartbeats 8000000
namespace Go.Proofs.YtdpomdelmdofmaaGreatDoor
open Go.Proofs.Tryz Go.RowKit Go.Maps
variable{f:Nat}{n:dS}{t:By}
def Gb(l:List (Option Addr))(i:Nat)(x:Option Addr)(sl:A4)(w:A5)(e:Ending)(w':A5):Prop:=
 ∃g cap,e=.returned (.slice (some ⟨g,0,none⟩) (l.length+1) cap)/\w'.ownsRow 0 80 1 (.slice (some ⟨g,0,none⟩) (l.length+1) cap) (l.length+1) ((fN i x l).map AI)/\w.grownBy w' sl.ownBlock/\(sl.ownBlock=some g\/w.heap.size<=g)
section
variable{w:A5}{sl:A4}{l:List (Option Addr)}{x:Option Addr}{q:Nat}
theorem YY(ho:w.ownsRow 0 80 1 sl l.length (l.map AI))(hq:w.heap[q]? = some (.cells #[.pointer x] 80 (0,0)))(hb:l.length<=1000000000000):
  F1 AT 291 #[sl,.int .i64 l.length,.slice (some ⟨q,0,none⟩) 1 1] w (Gb l l.length x sl w):=by
 obtain⟨i0,q8,hz0,q9,hz2⟩:=Et FM;obtain⟨N,hN⟩:∃N,N=l.length:=⟨_,rfl⟩
 obtain⟨a,c,rfl⟩:∃a c,sl=.slice a l.length c:=by
  rcases ho.2 with⟨h,h2⟩|⟨g,cap,cur,h,_⟩
  ·grind
  grind
 have q7:l.length<=c:=by
  rcases ho.2 with⟨h,h2⟩|⟨g,cap,cur,h,_,_,h3,_⟩
  ·omega
  grind
 have q0:w.cell? ⟨q,0,none⟩=some (.pointer x):=by simp[C2,hq]
 have qf:(N:Int)<=9223372036854775807:=by omega
 have q5:=Ab (show ∀g cap w',w'.ownsRow 0 80 1 (.slice (some ⟨g,0,none⟩) (N+1) cap) (N+1) (l.map AI++[.pointer x])->w.grownBy w' (HG a N c).ownBlock->((HG a N c).ownBlock=some g\/g=w.heap.size)->Gb l N x (.slice a N c) w (.returned (.slice (some ⟨g,0,none⟩) (N+1) cap)) w' from fun g cap w' h1 h2 h3=>by
  refine⟨g,cap,by rw[hN],?_,h2,by grind⟩
  grind [fN,BY,List.take_length])
 rw[<- hN] at ho |-;have HO:=Ab ho;have HL:=Ab (show (l.map AI).length=N by simp[hN]);have qe:N<=c:=by omega
 have qd:c<=BY:=by
  rcases ho.2 with⟨h,_⟩|⟨g,cap,cur,h,_,_,_,h4,_⟩
  ·grind
  grind
 have qb:N<=1000000000000:=by omega
 have q6:(c=N) \/ ¬ c=N:=Classical.em _;clear ho q7 hN hq hb;rcases q6 with q6|q6;all_goals go_enter func291,ntmps291
 all_goals go_wp2_with (at_builtin;refine wpList_append_lies _ rfl _ _ 106 rfl 0 80 i0 (.pointer none) 1 8 underlying106 q8 hz0 q9 hz2 rfl (by decide) _ _ _ rfl (Aa HO) ⟨q,0,none⟩ 1 1 [.pointer x] rfl rfl (fun j u hj=>by
   cases j with
   | zero=>injection hj with hj;subst hj;exact q0
   | succ j=>simp at hj) (fun u hu=>by simp at hu;subst hu;rfl) (by decide) (by unfold BY;omega) (by omega) (by omega) w.heap.size rfl ?_;intro g2 cap2 w2 h1 h2 h3 _;have q4:=Ab (Aa q5 g2 cap2 w2 h1 h2 h3);clear h1 h2 h3)
 all_goals (go_ret;exact Aa q4)
end
theorem NH{P:Program}{w:A5}{ops:Array Oper}{rest:List Oper}{o:Oper}{a:Act}{Q:Exit->Act->A5->Prop}(qe:o.guard=none)(s x:Operand)(t tn e:TypeId)(i:TypeInfo)(z:A4)(kn kq:IntKind)(ho:o.op=.call { callee:=.builtin .append,args:=#[s,x],argTypes:=#[t,tn] })(ht:P.underlying t=some (.slice e))(qh:P.underlying tn=some (.int kn))(hi:P.info? e=some i)(hz:i.zero=some z)(qg:i.size=1)(qj:i.bytes=8)(qi:z.cells.size=1)(g off q0 q4:Nat)(hs:a.eval s=.slice (some ⟨g,off,none⟩) q0 q4)(q5:List A4)(hl:q5.length=q0)(hold:∀j u,q5[j]? = some u->w.cell? ((⟨g,off,none⟩:Addr).add j)=some u)(k:Nat)(h0:0<k)(hx:a.eval x=.int kq k)(hg:q4<q0+k)(qk:q0+k<=10000000000000)(q9:Nat)(q8:q0+k=q9)(h:∀cap2 (cur:List A4) w1,q9<=cap2->cap2<=BY->cur.length=cap2->cur.take q0=q5->Hid (w1.heap[w.heap.size]? = some (.cells cur.toArray e (0,0)))->G1 w.heap.size w w1->wpList P ops Q rest (a.put o.dst (.slice (some ⟨w.heap.size,0,none⟩) q9 cap2)) w1):wpList P ops Q (o::rest) a w:=by
 subst q8;refine wpList_plain qe fun K hK=>?_;have qd:(Builtin.firstCells i.size q0 (.slice (some ⟨g,off,none⟩) q0 q4)).run P w.drew=.ok q5.toArray w.drew:=by
  rw[qg];exact run_firstCells_some w.drew 1 q0 ⟨g,off,none⟩ q0 q4 q5 (by omega) hold
 have q7:=growslice_fits (bytes:=i.bytes) hg (by grind);have hr:=Lib.run_append_grow_zeros (P:=P) w t tn o.type e i z kq kn ht qh hi hz (some ⟨g,off,none⟩) q0 q4 q5 qd k h0 (by omega) hg (by omega) (by grind) q7;have qf:=grownCap_ge w (q0+k) q4 e;have qb:D0 w (q0+k) q4 e<=BY:=grownCap_le_maxLen w (q0+k) q4 e (by unfold BY;omega);have q6:=h _ (q5++(A2 z.cells k++A2 z.cells (D0 w (q0+k) q4 e-(q0+k))).toList) (w.drew.alloc (.cells (q5.toArray++A2 z.cells k++A2 z.cells (D0 w (q0+k) q4 e-(q0+k))) e)) qf qb (by
   simp only[List.length_append,Array.length_toList,Array.size_append,size_zeroCells,qi];omega) (by grind) (by
   have e1:(q5++(A2 z.cells k++A2 z.cells (D0 w (q0+k) q4 e-(q0+k))).toList).toArray=q5.toArray++A2 z.cells k++A2 z.cells (D0 w (q0+k) q4 e-(q0+k)):=by
    grind
   rw[e1];exact heap_alloc_new w.drew _) ⟨rfl,rfl,rfl,by simp,fun j hj=>heap_alloc_old w.drew (.cells _ _) hj⟩
 unfold Oper.wp execOp;simp only[ho,resolve,invoke,builtin,Sem.run_bind,Sem.run_pure,Result.andThen_ok,List.map_toArray,G3,List.map_nil,hs,hx,hr];exact hK _ _ q6
theorem Qw{w:A5}{q:Nat}{v:A4}(h:w.cell? ⟨q,0,none⟩=some v):∀j u,([v]:List A4)[j]? = some u->w.cell? ((⟨q,0,none⟩:Addr).add j)=some u:=by
 intro j u hj;cases j with
 | zero=>injection hj with hj;subst hj;exact h
 | succ j=>simp at hj
theorem Ms{x:Option Addr}:∀u∈[AI x],u.oneCell'=true:=by
 intro u hu;simp at hu;subst hu;rfl
theorem L6{α:Type}{l:List α}{i j:Nat}{u:α}(h:(l.take i)[j]? = some u):l[j]? = some u:=by
 grind
theorem OA{l:List (Option Addr)}{i:Nat}{x:Option Addr}{cur:List A4}(hi:i<=l.length)(hc:l.length+1<=cur.length)(ht:cur.take i=(l.map AI).take i):
  (A3 (A3 cur i [.pointer x]) (i+1) ((l.map AI).drop i)).take (l.length+1)=(fN i x l).map AI/\(A3 (A3 cur i [.pointer x]) (i+1) ((l.map AI).drop i)).length=cur.length:=by
 have h1:(cur.take i).length=i:=by grind
 unfold A3 fN;constructor
 ·have e1:(CD i cur++([AI x]++CH (i+[AI x].length) cur)).take (i+1)=CD i cur++[AI x]:=by
   grind
  rw[e1,ht];rw[List.map_append,G3,List.map_take,List.map_drop];have h2:(CD i (List.map AI l)++[AI x]++CH i (List.map AI l)).length=l.length+1:=by simp;omega
  grind
 grind
section
variable{w:A5}{sl:A4}{l:List (Option Addr)}{x:Option Addr}{q i:Nat}
theorem WI{g:Nat}(ho:w.ownsRow 0 80 1 (.slice (some ⟨g,0,none⟩) l.length l.length) l.length (l.map AI))(hq:w.heap[q]? = some (.cells #[.pointer x] 80 (0,0)))(hi:i<l.length)(hb:l.length<=1000000000000):
  F1 AT 291 #[.slice (some ⟨g,0,none⟩) l.length l.length,.int .i64 i,.slice (some ⟨q,0,none⟩) 1 1] w (Gb l i x (.slice (some ⟨g,0,none⟩) l.length l.length) w):=by
 obtain⟨i0,qe,hz0,qg,hz2⟩:=Et FM;have hsz:(Tryz.prog.info? 80).map (·.size)=some 1:=by rw[qe];simp[qg]
 have q0:∀j u,(l.map AI)[j]? = some u->w.cell? ((⟨g,0,none⟩:Addr).add j)=some u:=fun j u h=>ho.cells (g:=g) rfl j u h;have hlt:g<w.heap.size/\q<w.heap.size:=⟨(AA ho g rfl).1,(Array.getElem?_eq_some_iff.1 hq).1⟩
 obtain⟨N,hN⟩:∃N,N=l.length:=⟨_,rfl⟩
 have qm:w.cell? ⟨q,0,none⟩=some (.pointer x):=by simp[C2,hq]
 have HC:=Ab q0;have HQ:=Ab qm;have HN:=Ab hN;have qw:i<N:=by omega
 have qq:N<=1000000000000:=by omega
 have hne:¬ (i:Int)=(N:Int):=by omega
 have qt:(i:Int)<=N:=by omega
 have q5:=Ab (show ∀cap2 (cur:List A4) w3,l.length+1<=cap2->cap2<=BY->cur.length=cap2->cur.take i=(l.map AI).take i->w3.heap[w.heap.size]? = some (.cells (A3 (A3 cur i [.pointer x]) (i+1) ((l.map AI).drop i)).toArray 80 (0,0))->G1 w.heap.size w w3->Gb l i x (.slice (some ⟨g,0,none⟩) l.length l.length) w (.returned (.slice (some ⟨w.heap.size,0,none⟩) (l.length+1) cap2)) w3 from fun cap2 cur w3 h1 h2 h3 h4 h5 hb3=>by
  obtain⟨r1,r2⟩:=OA (x:=x) (by omega) (show l.length+1<=cur.length by omega) h4;refine⟨w.heap.size,cap2,rfl,⟨by simp[Hm x (show i<=l.length by omega)],Or.inr ⟨w.heap.size,cap2,_,rfl,HH _,h5,h1,h2,by simp[r2,h3],?_⟩⟩,⟨hb3.os,hb3.tape,hb3.output,hb3.size,fun k hk _=>hb3.block k hk⟩,Or.inr (Dp _)⟩;rw[HI];exact r1)
 rw[<- hN] at q5 hb |-;clear ho hq hi q0 qm hN
 go_enter func291,ntmps291
 have qo:Value.int .i64 ((N:Int)+1-(i:Int))=.int .i64 ((N+1-i:Nat):Int):=by rw[show (N:Int)+1-(i:Int)=((N+1-i:Nat):Int) by omega]
 go_wp2_with (first
  | (at_builtin;refine NH rfl _ _ 106 3 80 i0 (.pointer none) .i64 .i64 rfl underlying106 underlying3 qe hz0 qg hz2 rfl g 0 i N rfl ((l.map AI).take i) (by have:=Aa HN;simp;omega) (fun j u hj=>Aa HC j u (L6 hj)) (N+1-i) (by omega) qo (by omega) (by omega) (N+1) (by omega) ?_;intro cap2 cur w1 h1 h2 h3 h4 h5 hb1;have qn:=(hb1.cell (p:=⟨q,0,none⟩) hlt.2).trans (Aa HQ);have qr:¬ cap2=i:=(by omega);have qk:=Ab qn;have qh:=Ab hb1;have H4:=Ab h4;clear qn hb1 h4)
  | ((with_reducible refine SA ?_);go_loud (refine wpList_copy_splice rfl _ _ 106 106 rfl 80 underlying106 hsz (some ⟨w.heap.size,i,none⟩) (some ⟨q,0,none⟩) (N+1-i) (cap2-i) 1 1 rfl rfl w.heap.size i cur 80 (Aa h5) [.pointer x] (by simp[F2];omega) (fun _=>⟨rfl,⟨q,0,none⟩,rfl,Qw (Aa qk)⟩) (by simp;omega) Ms w.heap.size w (Aa qh) (Dp _) ?_);intro w2 h6 hb2;have q4:=Ab hb2;clear hb2))
 have qp:¬ cap2=i+1:=by omega
 have q6:Hid ((A3 cur i [AI x]).length=cap2):=by
  have:=length_splice cur i [AI x] (by simp;omega);rw[h3] at this;exact this
 have q8:Hid (∀j v,((l.map AI).drop i)[j]? = some v->w2.cell? ((⟨g,i,none⟩:Addr).add j)=some v):=fun j v hj=>by
  rw[A6] at hj;have h9:=Aa HC (i+j) v hj;rw[HB] at h9 |-;rw[HD] at h9;exact ((Aa q4).cell (p:=⟨g,i+j,none⟩) hlt.1).trans h9
 have q9:Hid (((l.map AI).drop i).length=N-i):=by have:=Aa HN;show _=_;simp;omega
 have q7:∀u∈(l.map AI).drop i,u.oneCell'=true:=fun u hu=>by
  obtain⟨y,_,rfl⟩:=List.mem_map.1 (List.mem_of_mem_drop hu);rfl
 have qy:IntKind.i64.wrap ((i:Int)+1)=((i+1:Nat):Int):=by rw[E0];omega
 have qu:((i+1:Nat):Int)<=(N:Int)+1:=by omega
 have qv:(0:Int)<=(i:Int)+1:=by omega
 obtain⟨w4,qb⟩:∃w4,w4=w2.drew.setRow w.heap.size ((A3 cur i [AI x]).toArray.toList.take (i+1)++(l.map AI).drop i++(A3 cur i [AI x]).toArray.toList.drop (i+1+((l.map AI).drop i).length)).toArray:=⟨_,rfl⟩
 have qf:∀ty,(Dt #[106,106] ty #[.slice (some ⟨w.heap.size,i+1,none⟩) (N-i) (cap2-(i+1)),.slice (some ⟨g,i,none⟩) (N-i) (N-i)]).run AT w2.drew=.ok (goInt ((l.map AI).drop i).length) w4:=fun ty=>by
  rw[qb];exact D1 (P:=AT) w2.drew 106 106 ty 80 w.heap.size (i+1) (N-i) (cap2-(i+1)) ⟨g,i,none⟩ (N-i) (N-i) (A3 cur i [.pointer x]).toArray 80 ((l.map AI).drop i) underlying106 hsz (Aa h6) (by rw[Aa q9];simp) (Aa q8) (by rw[Aa q9];show _<=(A3 cur i [AI x]).toArray.size;rw[D2,Aa q6];omega) q7
 have qi:=Ab (show G1 w.heap.size w w4 from by rw[qb];exact below_setRow (w:=w2.drew) ⟨(Aa q4).os,(Aa q4).tape,(Aa q4).output,(Aa q4).size,(Aa q4).block⟩ (Dp _) _);have qj:=Ab (show w4.heap[w.heap.size]? = some (.cells (A3 (A3 cur i [.pointer x]) (i+1) ((l.map AI).drop i)).toArray 80 (0,0)) from by
  rw[qb,F5 w2.drew w.heap.size _ _ 80 _ (Aa h6)];simp[A3])
 have qd:=Ab (Aa q5 cap2 cur w4 (by have:=Aa HN;omega) h2 h3 (Aa H4) (Aa qj) (Aa qi));rw[show ((l.map AI).drop i).length=N-i from Aa q9] at qf;clear qb qi qj q5 q7 q9 q8 q6 H4 h6 q4 h5 h2 h3 qh qk HC HQ qo hz0 qg hz2 qe hsz;have qx:¬ N=i:=by omega
 go_region_law (fail)
 all_goals (go_wp2_with (fail);go_ret;exact Aa qd)
end
section
variable{w:A5}{sl:A4}{l:List (Option Addr)}{x:Option Addr}{q i:Nat}
theorem WH{g cap:Nat}(ho:w.ownsRow 0 80 1 (.slice (some ⟨g,0,none⟩) l.length cap) l.length (l.map AI))(hq:w.heap[q]? = some (.cells #[.pointer x] 80 (0,0)))(qq:q≠g)(hi:i<l.length)(qe:l.length<cap)(hb:l.length<=1000000000000):
  F1 AT 291 #[.slice (some ⟨g,0,none⟩) l.length cap,.int .i64 i,.slice (some ⟨q,0,none⟩) 1 1] w (Gb l i x (.slice (some ⟨g,0,none⟩) l.length cap) w):=by
 obtain⟨i0,qp,hz0,qu,hz2⟩:=Et FM;have hsz:(Tryz.prog.info? 80).map (·.size)=some 1:=by rw[qp];simp[qu]
 obtain⟨cur,hg,qi,qy,q4⟩:∃cur:List A4,w.heap[g]? = some (.cells cur.toArray 80 (0,0))/\cap<=BY/\cur.length=cap/\cur.take l.length=l.map AI:=by
  rcases ho.2 with⟨h,_⟩|⟨g',qv,cur,h,_,h2,_,h4,h5,h6⟩
  ·cases h
  ·injection h with h7 _ h8;injection h7 with h7;injection h7 with h7;subst h7;subst h8;exact⟨cur.toList,by simpa using h2,h4,by simpa using h5,by simpa using h6⟩
 obtain⟨N,hN⟩:∃N,N=l.length:=⟨_,rfl⟩
 have qn:w.cell? ⟨q,0,none⟩=some (.pointer x):=by simp[C2,hq]
 have zg:=fun (off n c:Nat)=>Oi (off:=off) (n:=n) (c:=c) hg hq qq;have hlt:g<w.heap.size/\q<w.heap.size:=by grind
 have qg:((cur.drop i).take (N-i)).length=N-i:=by simp;omega
 have qf:∀W:A5,W.heap[g]? = w.heap[g]? -> ∀j v,((cur.drop i).take (N-i))[j]? = some v->W.cell? ((⟨g,i,none⟩:Addr).add j)=some v:=fun W hW j v hj=>by
  have h1:=L6 hj;rw[A6] at h1;rw[HB,AS (w:=w) hW];simp[C2,hg,h1]
 have qd:∀u∈(cur.drop i).take (N-i),u.oneCell'=true:=fun u hu=>by
  obtain⟨j,hj⟩:=List.getElem?_of_mem hu;rw[DD] at hj;split at hj
  ·rename_i ze;rw[A6] at hj;have h2:(cur.take l.length)[i+j]? = some u:=by rw[DD,if_pos (by omega)];exact hj
   rw[q4,Bs] at h2;obtain⟨y,_,rfl⟩:=Option.map_eq_some_iff.1 h2;rfl
  ·cases hj
 obtain⟨q0,q5⟩:∃q0,q0=A3 cur (i+1) ((cur.drop i).take (N-i)):=⟨_,rfl⟩
 have qh:q0.length=cap:=by
  grind [A3,CL,C1]
 have qr:∀ty,(Dt #[106,106] ty #[.slice (some ⟨g,i+1,none⟩) (N-i) (cap-(i+1)),.slice (some ⟨g,i,none⟩) (N+1-i) (cap-i)]).run AT w.drew=.ok (goInt ((N-i:Nat))) (w.drew.setRow g (cur.toArray.toList.take (i+1)++(cur.drop i).take (N-i)++cur.toArray.toList.drop (i+1+((cur.drop i).take (N-i)).length)).toArray):=fun ty=>by
  have h:=D1 (P:=AT) w.drew 106 106 ty 80 g (i+1) (N-i) (cap-(i+1)) ⟨g,i,none⟩ (N+1-i) (cap-i) cur.toArray 80 ((cur.drop i).take (N-i)) underlying106 hsz hg (by rw[qg];simp[F2];omega) (qf w.drew rfl) (by rw[qg,D2];omega) qd;rw[qg] at h |-;exact h
 have qj:(w.drew.setRow g (cur.toArray.toList.take (i+1)++(cur.drop i).take (N-i)++cur.toArray.toList.drop (i+1+((cur.drop i).take (N-i)).length)).toArray).heap[g]? = some (.cells q0.toArray 80 (0,0)):=by
  rw[F5 w.drew g _ _ 80 _ hg,q5];simp[A3]
 have q6:w.grownBy (w.drew.setRow g (cur.toArray.toList.take (i+1)++(cur.drop i).take (N-i)++cur.toArray.toList.drop (i+1+((cur.drop i).take (N-i)).length)).toArray) (some g):=⟨rfl,rfl,rfl,by simp[HE],fun k _ hne=>setRow_other w.drew g k _ (fun e=>hne (by rw[e]))⟩
 generalize w.drew.setRow g (cur.toArray.toList.take (i+1)++(cur.drop i).take (N-i)++cur.toArray.toList.drop (i+1+((cur.drop i).take (N-i)).length)).toArray=w4 at *;have q9:w4.cell? ⟨q,0,none⟩=some (.pointer x):=(AS (a:=⟨q,0,none⟩) (q6.block q hlt.2 (fun e=>qq (Option.some.inj e)))).trans qn;have qb:∀w5:A5,w5.heap[g]? = some (.cells (A3 q0 i [.pointer x]).toArray 80 (0,0))->w4.grownBy w5 (some g)->Gb l i x (.slice (some ⟨g,0,none⟩) l.length cap) w (.returned (.slice (some ⟨g,0,none⟩) (l.length+1) cap)) w5:=fun w5 h5 q7=>by
  refine⟨g,cap,rfl,⟨by simp[Hm x (show i<=l.length by omega)],Or.inr ⟨g,cap,_,rfl,HH _,h5,by omega,qi,?_,?_⟩⟩,⟨q7.os.trans q6.os,q7.tape.trans q6.tape,q7.output.trans q6.output,Nat.le_trans q6.size q7.size,fun k hk hne=>(q7.block k (Nat.lt_of_lt_of_le hk q6.size) hne).trans (q6.block k hk hne)⟩,Or.inl rfl⟩
  ·grind [A3,CL,C1]
  ·have e1:A3 q0 i [AI x]=A3 (A3 cur i [.pointer x]) (i+1) ((l.map AI).drop i):=by
    have e3:(l.map AI).drop i=(cur.drop i).take (N-i):=by
     rw[<- q4,hN,List.drop_take]
    rw[e3,q5];have zf:(cur.take i).length=i:=by rw[Ft];omega
    have qz:(cur.take (i+1)).length=i+1:=by rw[Ft];omega
    unfold A3;simp only[CL,C1,HD];rw[List.take_append_of_le_length (by omega),G2,F7 (by omega)];rw[FD,CR (by omega),qz,Nat.sub_self,List.drop_zero,G0];have e4:(CD i cur++([AI x]++CH (i+1) cur)).take (i+1)=CD i cur++[AI x]:=by
     grind
    rw[e4];have e5:CH (i+1+((cur.drop i).take (N-i)).length) (CD i cur++([AI x]++CH (i+1) cur))=CH (i+1+((cur.drop i).take (N-i)).length) cur:=by
     rw[<- List.append_assoc,FD,CR (by grind),G0,List.drop_drop]
     simp_all
    rw[e5];simp
   have hr:=(OA (x:=x) (cur:=cur) (i:=i) (by omega) (show l.length+1<=cur.length by omega) (by rw[<- q4,G2,F7 (by omega)])).1;rw[HI,List.toList_toArray,e1];exact hr
 have qt:∀ty,(Dt #[106,106] ty #[.slice (some ⟨g,i,none⟩) (N+1-i) (cap-i),.slice (some ⟨q,0,none⟩) 1 1]).run AT w4=.ok (goInt (1:Nat)) (w4.setRow g (q0.toArray.toList.take i++[AI x]++q0.toArray.toList.drop (i+[AI x].length)).toArray):=fun ty=>
  D1 (P:=AT) w4 106 106 ty 80 g i (N+1-i) (cap-i) ⟨q,0,none⟩ 1 1 q0.toArray 80 [.pointer x] underlying106 hsz qj (by simp[F2];omega) (Qw q9) (by simp;omega) Ms
 have qo:(w4.setRow g (q0.toArray.toList.take i++[AI x]++q0.toArray.toList.drop (i+[AI x].length)).toArray).heap[g]? = some (.cells (A3 q0 i [.pointer x]).toArray 80 (0,0)):=by
  rw[F5 w4 g _ _ 80 _ qj];simp[A3]
 have q7:w4.grownBy (w4.setRow g (q0.toArray.toList.take i++[AI x]++q0.toArray.toList.drop (i+[AI x].length)).toArray) (some g):=⟨rfl,rfl,rfl,by simp[HE],fun k _ hne=>setRow_other w4 g k _ (fun e=>hne (by rw[e]))⟩
 generalize w4.setRow g (q0.toArray.toList.take i++[AI x]++q0.toArray.toList.drop (i+[AI x].length)).toArray=w5 at *;have q8:=Ab (qb w5 qo q7);have zc:i<N:=by omega
 have z1:N<=1000000000000:=by omega
 have hne:¬ (i:Int)=(N:Int):=by omega
 have z7:(i:Int)<=N:=by omega
 have qk:¬ (cap:Int)<(N:Int)+1:=by omega
 have qm:(N:Int)+1<=(cap:Int):=by omega
 have qx:(cap:Int)<=9223372036854775807:=by unfold BY at qi;omega
 have z6:¬ cap=i:=by omega
 have qw:¬ cap=i+1:=by omega
 rw[<- hN] at q8 |-;clear ho hq hi hg qy q4 hN qn qg qf qd q5 qh qj q6 q9 qb qe hb qi qo q7 hz0 qu hz2 qp hsz hlt;have zh:IntKind.i64.wrap ((i:Int)+1)=((i+1:Nat):Int):=by rw[E0];omega
 have z8:((i+1:Nat):Int)<=(N:Int)+1:=by omega
 have za:(0:Int)<=(i:Int)+1:=by omega
 have zb:(i:Int)<=(N:Int)+1:=by omega
 go_enter func291,ntmps291
 go_wp2_with (fail)
 go_region_law (fail)
 all_goals (go_wp2_with (fail);go_ret;exact Aa q8)
theorem bG(ho:w.ownsRow 0 80 1 sl l.length (l.map AI))(hq:w.heap[q]? = some (.cells #[.pointer x] 80 (0,0)))(q0:sl.ownBlock≠some q)(hi:i<=l.length)(hb:l.length<=1000000000000):
  F1 AT 291 #[sl,.int .i64 i,.slice (some ⟨q,0,none⟩) 1 1] w (Gb l i x sl w):=by
 by_cases he:i=l.length
 ·subst he;exact YY ho hq hb
 ·rcases ho.2 with⟨_,h⟩|⟨g,cap,cur,rfl,_,_,h3,_⟩
  ·omega
  ·by_cases hc:cap=l.length
   ·subst hc;exact WI ho hq (by omega) hb
   ·exact WH ho hq (by grind) (by omega) (by omega) hb
end
theorem Pt.first{P:A4->To->Prop}(k:Lit):∀ {l:List (Lit×DataW A4)} {m:List (Lit×To)},Pt P l m->D3 (.map l) k=true ->
  ∃i key c x,m.findIdx? (fun p=>p.1.sameKey k)=some i/\m[i]? = some (key,c)/\m.find? (fun p=>p.1.sameKey k)=some (key,c)/\(∀z,(HA l).atKey k z=.held x)/\P x c
 | [],[],_,h=>by cases h
 | a::r,b::s,⟨⟨kk,x,e,g⟩,t⟩,h=>by
  by_cases hk:a.1.sameKey k=true
  ·have hb:b.1.sameKey k=true:=by grind
   refine⟨0,b.1,b.2,x,?_,rfl,?_,fun z=>?_,g⟩
   ·grind
   ·grind
   ·rw[B2,Hp (p:=fun p=>p.1.sameKey k) hk];exact e
  ·have hb:¬ b.1.sameKey k=true:=by grind
   have h2:D3 (.map r) k=true:=by
    have h3:(a.1.sameKey k || r.any fun p=>p.1.sameKey k)=true:=h;rw[Bool.eq_false_iff.2 hk,Bool.false_or] at h3;exact h3
   obtain⟨i,key,c,x',e1,e2,e3,e4,e5⟩:=Pt.first k t h2
   refine⟨i+1,key,c,x',?_,by grind,?_,fun z=>?_,e5⟩
   ·grind
   ·grind
   ·rw[B2,Jq (p:=fun p=>p.1.sameKey k) hk];exact e4 z
def DT(f:Nat)(w:A5)(n:dS)(t:By)(e:Ending):Prop:=match Aq (dV (f+1) n) t with
 | .ok d=>∃i c x,gH (dV (f+1) n) t=some i/\(AJ n)[i]? = some c/\d=dV f c/\e=.returned (.tuple #[x,.int .i64 0])/\Ad f w x c
 | .error c=>e=.returned (.tuple #[.pointer none,.int .i64 c])
theorem DE{c:Nat}{w:A5}(h:Aq (dV (f+1) n) t=.error c):DT f w n t (.returned (.tuple #[.pointer none,.int .i64 c])):=by
 unfold DT;rw[h]
theorem ME{i:Nat}{w:A5}{c:dS}{x:A4}(h:Aq (dV (f+1) n) t=.ok (dV f c))(h1:gH (dV (f+1) n) t=some i)(h2:(AJ n)[i]? = some c)(h3:Ad f w x c):
  DT f w n t (.returned (.tuple #[x,.int .i64 0])):=by
 unfold DT
 grind
theorem JV{w:A5}{u:A4}(ht:t.length<=1048576)(hr:Rng w)(h:Ad (f+1) w u n):
  F1 AT 111 #[u,.string ⟨t.toArray⟩] w fun e w'=>DT f w n t e/\G1 w.heap.size w w':=by
 obtain⟨b,g,x,rfl,rfl,h⟩:=h;rcases h with⟨k,hk,_,rfl,h⟩|⟨m,_,rfl,h,q5⟩|⟨s,_,rfl,h⟩|⟨al,sl,ps,rfl,h,ho,hs,ha⟩|⟨es,m,D,rfl,h,ho,hp⟩
 ·refine (DI (k:=k) (by omega) h).mono ?_;rintro e w' ⟨rfl,hb⟩;exact⟨DE (c:=11) rfl,hb⟩
 ·refine (DI (k:=3) (by omega) h).mono ?_;rintro e w' ⟨rfl,hb⟩;exact⟨DE (c:=11) rfl,hb⟩
 ·refine (DI (k:=4) (by omega) h).mono ?_;rintro e w' ⟨rfl,hb⟩;exact⟨DE (c:=11) rfl,hb⟩
 ·have hl:=ha.length;refine SE (R:=DT f w (dW b g (.slice al [])) t) ht hr h ho (fun hi=>DE (GV hi)) (fun i hi hx=>?_) (fun i hx hi=>DE (Ii hx (by simp;omega)));have q4:i<al.length:=by omega
  refine ME (c:=al[i]) (i:=i) ?_ ?_ (by rw[BW];grind) (ha.get i hi q4)
  ·rw[Bq,IY hx (by grind),List.getElem_map]
  grind [dV,Bq,gH,dW,BW,AX,BH,Af]
 ·have hh:D3 (.map D:DataW A4) (.string t)=D3 (.map (es.map fun p=>(p.1,dV f p.2)):DataW Unit) (.string t):=
   (Pt.mapR (P:=fun _ _=>True) (q:=dV f) (hp.mono fun _ _ _=>trivial)).has _
  have hc:Aq (dV (f+1) (dW b g (.map es))) t=(if D3 (.map D:DataW A4) (.string t) then .ok ((HA (es.map fun p=>(p.1,dV f p.2))).atKey (.string t) .nil) else .error 11):=by
   rw[hh];rfl
  refine SD (R:=DT f w (dW b g (.map es)) t) ht h ho (fun hno=>DE (by grind)) (fun q0=>?_);obtain⟨i,key,c,x,e1,e2,e3,e4,e5⟩:=hp.first (.string t) q0
  refine⟨x,e4,ME (c:=c) (i:=i) ?_ ?_ ?_ e5⟩
  ·rw[hc,if_pos q0,B2,List.find?_map,show ((fun p=>p.1.sameKey (.string t)) ∘ fun p:Lit×dS=>(p.1,dV f p.2))=fun p=>p.1.sameKey (.string t) from rfl,e3];rfl
  ·rw[AX];unfold gH Ap;simp only;rw[List.findIdx?_map];exact e1
  ·rw[BH,Bs,e2];rfl
theorem Uk(fa:Nat)(v:A4)(a:dS):Vr (InT fa v a) where
 call:=fun s w u d t ht hr h=>by
  obtain⟨q0,f,p,n,hf,hs,hT,rfl,hp⟩:=h;cases f with
  | zero=>exact hT.elim
  | succ f=>
   refine (JV ht hr hT).mono ?_;rintro e w' ⟨hk,hb⟩;refine⟨?_,hb⟩;unfold DT at hk;unfold LR;cases hc:Aq (dV (f+1) n) t with
   | error c=>grind
   | ok d=>
    rw[hc] at hk;obtain⟨i,c,x,h1,h2,rfl,rfl,h3⟩:=hk;have q4:Bj p (dV fa a)=some (dV (f+1) n):=by
     rw[<- hf];exact Ha (f:=f+1) (by rw[hf];exact q0) hs
    refine⟨x,rfl,q0.bel hb,f,p++[i],c,by simp;omega,Hb h2 hs,h3.bel hb,rfl,?_⟩;exact Ix h1 (show (Bi (dV (f+1) n))[i]? = some (dV f c) by rw[DQ hT,Bs,h2];rfl) hp q4
theorem XQ{fa:Nat}{a:dS}{w:A5}{v pv:A4}{l:List By}(hl:∀t∈l,t.length<=1048576)(hn:l.length<=1048576)(hr:Rng w)(h:Ad fa w v a)(hp:CW w pv l):
  F1 AT 81 #[pv,v] w fun e w'=>LR (InT fa v a l) (Ah (dV fa a) l) e w'/\G1 w.heap.size w w':=
 cU (Uk fa v a) hl hn hr ⟨h,fa,[],a,rfl,rfl,h,rfl,rfl⟩ hp
abbrev plV(pth:A4)(b:Nat)(key:By)(i:Nat):A4:=.agg #[pth,.pointer (some ⟨b,0,none⟩),.string ⟨key.toArray⟩,.int .i64 i]
theorem M8(w:A5)(o:Obj)(q:Nat):G1 w.heap.size w ((w.alloc o).drewN q):=by
 have h:=(Below.refl w.heap.size w).alloc (Dp _) o;exact⟨h.os,h.tape,h.output,h.size,h.block⟩
section
variable{w:A5}{b:Nat}{pth:A4}{key:By}{i:Nat}
theorem QO{m n:Nat}{D:List (Lit×DataW A4)}(hk:key.length<=1048576)(h:VB w b 6 n0 [] (.slice none 0 0) (.map (some m)))(ho:w.ownsMap AT 9 RV m n (.map D)){x:A4}(hx:(HA D).atKey (.string key) (.held (.pointer none))=.held x):
  F1 AT 159 #[plV pth b key i] w fun e w'=>e=.returned x/\G1 w.heap.size w w':=by
 have q5:=h.lt;have q0:∀o,(w.alloc o).cell? ⟨b,0,none⟩=some (.int .i64 6):=fun o=>(AS (w:=w) (A1 w o b q5)).trans h.c0;have q6:∀o,(w.alloc o).cell? ⟨b,6,none⟩=some (.map (some m)):=fun o=>(AS (w:=w) (A1 w o b q5)).trans h.c6;have q7:∀o q,(HF 109 (.map (some m)) (.string ⟨key.toArray⟩) false).run AT ((w.alloc o).drewN q)=.ok x ((w.alloc o).drewN q):=fun o q=>by
  obtain⟨v,ps,q4,hv⟩:=(An (w':=(w.alloc o).drewN q) ho (A1 w o m (Bg ho))).lookup BE underlying109 (B3 _) (zd:=.held (.pointer none)) (zp:=[]) rfl (ED key hk);rw[hx] at hv;obtain⟨rfl,_⟩:=Cg hv rfl;exact q4
 have hl0:∀o,(HF 109 (.map (some m)) (.string ⟨key.toArray⟩) false).run AT (w.alloc o)=.ok x (w.alloc o):=fun o=>q7 o 0;clear h ho hx
 go_enter func159,ntmps159
 go_wp2_with (fail)
 go_quiet (fail)
 go_wp2_with (fail)
 go_ret;exact⟨rfl,M8 _ _ _⟩
theorem Y3{sl:A4}{ps:List A4}(h:VB w b 5 n0 [] sl (.map none))(ho:w.ownsRow 0 80 1 sl ps.length ps)(hi:i<ps.length):
  F1 AT 159 #[plV pth b key i] w fun e w'=>e=.returned ps[i]/\G1 w.heap.size w w':=by
 have q4:=h.lt;have q0:∀o,(w.alloc o).cell? ⟨b,0,none⟩=some (.int .i64 5):=fun o=>(AS (w:=w) (A1 w o b q4)).trans h.c0;have q5:∀o,(w.alloc o).cell? ⟨b,5,none⟩=some sl:=fun o=>(AS (w:=w) (A1 w o b q4)).trans h.c5;obtain⟨N,hN⟩:∃N,N=ps.length:=⟨_,rfl⟩
 obtain⟨g,cap,rfl,a1,a2,a3,hc⟩:=Bm ho (by omega);have qi:∀o,(w.alloc o).cell? ⟨g,i,none⟩=some ps[i]:=fun o=>(AS (w:=w) (A1 w o g a3)).trans (hc i hi);rw[<- hN] at q5 a1;have hlt:i<N:=by omega
 have q6:(i:Int)<(N:Int):=by omega
 have q7:(N:Int)<=9223372036854775807:=by unfold BY at a2;omega
 generalize ps[i]=pv at *;clear h ho hc hN hi
 go_enter func159,ntmps159
 go_wp2_with (fail)
 go_quiet (fail)
 go_wp2_with (fail)
 go_ret;exact⟨rfl,M8 _ _ _⟩
theorem Yk{sl:A4}{pu:Option Addr}{ps:List A4}(h:VB w b 5 n0 [] sl (.map none))(ho:w.ownsRow 0 80 1 sl ps.length ps)(hi:i<ps.length):
  F1 AT 250 #[plV pth b key i,.pointer pu] w fun e w'=>e=.returned (.tuple #[]) /\ ∃g,sl.ownBlock=some g/\w'.ownsRow 0 80 1 sl ps.length (ps.set i (.pointer pu))/\w.grownBy w' (some g):=by
 have q6:=h.lt;have q0:∀o,(w.alloc o).cell? ⟨b,0,none⟩=some (.int .i64 5):=fun o=>(AS (w:=w) (A1 w o b q6)).trans h.c0;have q5:∀o,(w.alloc o).cell? ⟨b,5,none⟩=some sl:=fun o=>(AS (w:=w) (A1 w o b q6)).trans h.c5;obtain⟨N,hN⟩:∃N,N=ps.length:=⟨_,rfl⟩
 obtain⟨g,cap,rfl,a1,a2,a3,hc⟩:=Bm ho (by omega);have qi:∀o,(w.alloc o).cell? ⟨g,i,none⟩=some ps[i]:=fun o=>(AS (w:=w) (A1 w o g a3)).trans (hc i hi);have zi:∀o,(w.alloc o).frozen? ⟨g,i,none⟩=false:=fun o=>(ho.alloc o).frozenAt i;have q4:Hid (∀o,Value.ownBlock (.slice (some ⟨g,0,none⟩) ps.length cap)=some g/\(((w.setCell ⟨g,i,none⟩ (.pointer pu)).alloc o).drew).ownsRow 0 80 1 (.slice (some ⟨g,0,none⟩) ps.length cap) ps.length (ps.set i (.pointer pu))/\w.grownBy (((w.setCell ⟨g,i,none⟩ (.pointer pu)).alloc o).drew) (some g)):=Ab (fun o=>by
  have h1:=ho.stored i (.pointer pu);have h3:=h1.2.andThen (World.grownBy_alloc (w.setCell ⟨g,i,none⟩ (.pointer pu)) o none) (fun j hj=>by cases hj);exact⟨rfl,h1.1.alloc o,⟨h3.os,h3.tape,h3.output,h3.size,h3.block⟩⟩)
 have q9:∀o q,((w.alloc o).drewN q).cell? ⟨g,i,none⟩=some ps[i]:=fun o _=>qi o;have qd:∀o q,((w.alloc o).drewN q).frozen? ⟨g,i,none⟩=false:=fun o _=>zi o;have qb:∀o,((w.alloc o).drew).cell? ⟨g,i,none⟩=some ps[i]:=fun o=>qi o;have qe:∀o,((w.alloc o).drew).frozen? ⟨g,i,none⟩=false:=fun o=>zi o;have hlt:i<N:=by omega
 have q7:(i:Int)<(N:Int):=by omega
 have q8:(N:Int)<=9223372036854775807:=by unfold BY at a2;omega
 rw[<- hN] at q5 a1 q4 |-;generalize ps[i]=pv at *;clear h ho hc hN hi
 go_enter func250,ntmps250
 go_wp2_with (fail)
 go_region_law (fail)
 all_goals exact bodyPost_end (results_none rfl _ _ _) rfl ⟨rfl,g,Aa q4 _⟩
end
end Go.Proofs.YtdpomdelmdofmaaGreatDoor
