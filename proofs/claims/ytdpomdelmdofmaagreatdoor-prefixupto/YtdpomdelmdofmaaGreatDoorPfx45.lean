import Derived.Shelf.SlicesE.Compact
import Derived.Test.YtdpomdelmdofmaaGreatDoorPfx44
open Go.Proofs.Tryz renaming prog->AI
open Array renaming getElem?_eq_some_iff->AS
open Go renaming Value->AT,DataW->A2,World->A4,strKeys->BY,callsIn_wide->CH,maxLen->C2,Calls->G0
open Go.Fence renaming wide->A1
open List renaming drop_eq_nil_of_le->A3,drop_eq_getElem_cons->A5,length_cons->E0,length_map->F2
open Go.Maps renaming size->A6,size_eq->CD
open Go.World renaming putObj_heap_same->CL
open Go.ByteArray renaming toList_eq->CR
open Go.RowKit renaming Below->C1
open Go.Sort renaming ahead->Dp
open Or renaming inl->Dt
open Nat renaming le_trans->DD,le_refl->Ft,zero_le->F1
open Go.IntKind renaming wrap_i64->D0
open Go.Instr renaming mapUpdate->F5,lookup->G1
open Go.RowKit.Below renaming refl->G2
open List.Pairwise renaming nil->G3
namespace Go.Proofs
open Go.Shelf
def Tryz.eCompact_ren:Go.Shelf.Ren:=⟨fun|43=>253|n=>n,fun|22=>59|23=>9|3=>3|4=>4|0=>0|n=>n,fun|n=>n⟩
theorem Tryz.eCompact:Go.Proofs.SlLaysE.n43 AI Tryz.eCompact_ren:={
 mixed:=by kernel_rfl
 f43:=⟨Tryz.f253.name,by decide,Tryz.func253.trans (congrArg some (by kernel_rfl))⟩
 t0:=underlying0
 a0:=Tryz.isAgg0
 z0:=Tryz.sizeOf0
 v0:=Tryz.zeroValue0
 t3:=underlying3
 a3:=Tryz.isAgg3
 z3:=Tryz.sizeOf3
 v3:=Tryz.zeroValue3
 t4:=underlying4
 a4:=Tryz.isAgg4
 z4:=Tryz.sizeOf4
 v4:=Tryz.zeroValue4
 t22:=underlying59
 a22:=Tryz.isAgg59
 z22:=Tryz.sizeOf59
 v22:=Tryz.zeroValue59
 a23:=Tryz.isAgg9
 z23:=Tryz.sizeOf9 }
end Go.Proofs

set_option maxRecDepth 100000
set_option maxHeartbeats 4000000
namespace Go.Proofs.YtdpomdelmdofmaaGreatDoor
open Go.Proofs.Tryz
open Go.RowKit Go.Maps Go.Sort Go.Shelf Go.Lib
variable{w:A4}
theorem WJ:EqlAt AI 9 encStr (fun x y:By=>decide (x=y)):=by
 have h:=EqlAt.string AI 9;refine⟨fun x y w=>?_,fun op a b x y w=>h.2 op a b _ _ w⟩;rw[show encStr x=.string ⟨x.toArray⟩ from rfl,show encStr y=.string ⟨y.toArray⟩ from rfl,h.1];simp only[CR];by_cases e:x=y<;>simp[e]
theorem WI:NeqAt AI 9 encStr (fun x y:By=>decide (x=y)):=by
 have h:=NeqAt.string AI 9;refine⟨fun x y w=>?_,fun op a b x y w=>h.2 op a b _ _ w⟩;rw[show encStr x=.string ⟨x.toArray⟩ from rfl,show encStr y=.string ⟨y.toArray⟩ from rfl,h.1];simp only[CR];by_cases e:x=y<;>simp[e]
theorem NF{a:Option Addr}{c:Nat}:G0 AI 253 #[.slice a 0 c] w fun e w'=>e=.returned (.slice a 0 c)/\w'=w:=by
 go_enter func253,ntmps253
 go_wp2_with (fail)
 go_ret;exact⟨rfl,rfl⟩
theorem Mq{B g cap:Nat}{cur:Array AT}{w0:A4}{ss:List By}(hb:C1 B w0 w)(hg:B<=g)(h:w.heap[g]? = some (.cells cur 9 (0,0)))(hc:ss.length<=cap)(q9:cur.size=cap)(ht:cur.toList.take ss.length=ss.map encStr)(qd:ss.length<=1000000):
  G0 AI 187 #[.slice (some ⟨g,0,none⟩) ss.length cap] w fun e w1=>e=.returned (.tuple #[])/\G0 AI 253 #[.slice (some ⟨g,0,none⟩) ss.length cap] w1 fun e w2=>
   ∃ks:List By,e=.returned (.slice (some ⟨g,0,none⟩) ks.length cap)/\ks.Pairwise (fun a b=>a<b)/\(∀k,k∈ks<->k∈ss)/\ks.length<=cap/\SR w2 g ks.length ks/\C1 B w0 w2:=by
 have q6:g<w.heap.size:=(AS.1 h).1;have qb:C2=9223372036854775807:=by unfold C2;omega
 have q5:G0 AI 187 #[.slice (some ⟨g,0,none⟩) ss.length cap] w _:=AnyM.slices_Sort_string Tryz.sort187 g 0 cap ss w (Lr h ht) q6 (by omega);refine q5.mono ?_;rintro e w1 ⟨rfl,n,os,rfl⟩;refine⟨rfl,?_⟩;obtain⟨l,hl⟩:∃l,l=ss.mergeSort fun x y=>decide (x<=y):=⟨_,rfl⟩
 have q7:l.length=ss.length:=by rw[hl,List.length_mergeSort]
 rw[<- hl];have h1:(Dp w n).heap[g]? = some (.cells cur 9 (0,0)):=h;obtain⟨p1,p2,p3⟩:=KY h1 l.toArray;obtain⟨w1,q4⟩:∃w1,w1=grow (putRow encStr (Dp w n) g 0 l.toArray) os:=⟨_,rfl⟩
 rw[<- q4];have hold:∀k,k<w.heap.size->w1.heap[k]? = (putRow encStr (Dp w n) g 0 l.toArray).heap[k]?:=fun k hk=>by
  rw[q4];exact Array.getElem?_append_left (by rw[p3];exact hk)
 have h2:w1.heap[g]? = some (.cells (putCells encStr 0 l.toArray cur) 9 (0,0)):=(hold g q6).trans p1;have hpc:(putCells encStr 0 l.toArray cur).size=cur.size:=by simp[putCells]
 have hb1:C1 B w0 w1:=by
  have hs:w1.heap.size=w.heap.size+os.size:=by rw[q4];simp[grow,p3]
  refine⟨?_,?_,?_,by have:=hb.size;omega,fun k hk=>(hold k (by have:=hb.size;omega)).trans ((p2 k (by omega)).trans (hb.block k hk))⟩
  ·rw[q4];exact hb.os
  ·rw[q4];exact hb.tape
  ·rw[q4];exact hb.output
 have q8:(putCells encStr 0 l.toArray cur).toList.take l.length=l.map encStr:=by
  rw[GV (by simp;omega) l.length (by simp)];exact List.take_of_length_le (by simp)
 have q0:G0 AI 253 #[.slice (some ⟨g,0,none⟩) l.toArray.size cap] w1 _:=AnyE.slices_Compact Tryz.eCompact encStr (fun x=>rfl) WJ WI [] (fun w=>Tryz.zeroValue9 w) g 0 cap l.toArray w1 (Lr h2 q8) (by simp;omega) (by simp;omega);have e1:l.toArray.size=ss.length:=by simp[q7]
 rw[e1] at q0;refine q0.mono ?_;rintro e w2 ⟨rfl,q,rfl⟩;obtain⟨c1,c2,c3⟩:=NE (l:=l) (by rw[hl];exact List.pairwise_mergeSort (le:=fun a b:By=>decide (a<=b)) UV UW _);rw[q7] at c1 c2 c3;have h3:(Dp w1 q).heap[g]? = some (.cells (putCells encStr 0 l.toArray cur) 9 (0,0)):=h2;obtain⟨q1,q2,q3⟩:=KY h3 (compactUpTo l.toArray ss.length++List.replicate (ss.length-(compactUpTo l.toArray ss.length).length) []).toArray;refine⟨compactUpTo l.toArray ss.length,rfl,c1,fun k=>?_,by omega,⟨_,q1,?_⟩,⟨hb1.os,hb1.tape,hb1.output,?_,fun k hk=>(q2 k (by omega)).trans (hb1.block k hk)⟩⟩
 ·rw[c2,hl];exact (List.mergeSort_perm _ _).mem_iff
 ·rw[GV (by simp[hpc];omega) _ (by simp)];simp
 ·rw[q3];exact hb1.size
theorem MS{P:AT->To->Prop}{D:List (Lit×A2 AT)}{xs:List (Lit×To)}(hp:Pt P D xs)(hx:AL xs)(k:By):k∈BY (.map D:A2 AT) <-> ∃c,(Lit.string k,c)∈xs:=by
 rw[hp.keys];exact MY hx.2
theorem P4{m1 n1 m2 n2:Nat}{D1 D2:List (Lit×A2 AT)}{xs ys:List (Lit×To)}{P1 P2:AT->To->Prop}(o1:w.ownsMap AI 9 RV m1 n1 (.map D1))(p1:Pt P1 D1 xs)(o2:w.ownsMap AI 9 RV m2 n2 (.map D2))(p2:Pt P2 D2 ys)(hx:AL xs)(hy:AL ys)(qz:xs.length<=400000)(z1:ys.length<=400000):
  G0 AI 208 #[.map (some m1),.map (some m2)] w (NU (BS xs ys) w):=by
 have zr:A6 (.map D1:A2 AT)<=400000:=by rw[CD,p1.len];exact qz
 have zs:A6 (.map D2:A2 AT)<=400000:=by rw[CD,p2.len];exact z1
 have zt:400000*1000000<=C2/\C2<=9223372036854775807:=by unfold C2;omega
 have zl:=A7 o1;have zm:=A7 o2;have qe:=Ab (fun (ss tt ks:List By) (h1:ss.Perm (BY (.map D1:A2 AT))) (h2:tt.Perm (BY (.map D2:A2 AT))) (hr:ks.Pairwise (fun a b=>a<b)) (hk:∀k,k∈ks<->k∈ss++tt)=>(show ks=BS xs ys from My hr (Jq hx hy) fun k=>by
  rw[hk,FD hx hy,List.mem_append,h1.mem_iff,h2.mem_iff,MS p1 hx,MS p2 hy]))
 have HO:=Ab (And.intro o1 o2);obtain⟨Q,hQ⟩:∃Q,Q=NU (BS xs ys) w:=⟨_,rfl⟩
 rw[<- hQ];have HQ:=Ab hQ;clear o1 o2 p1 p2 hx hy hQ qz z1
 go_enter func208,ntmps208
 go_wp2_with (fail);refine (CH.1 (Tryz.maps_Keys_141 (some m1) w)).mono ?_
 rintro e wa ⟨rfl,qm⟩;have qt:C1 w.heap.size w wa:=by rw[qm];exact (G2 _ _).alloc (Ft _) _
 have hsa:wa.heap.size=w.heap.size+1:=by rw[qm];simp
 have z7:wa.cell? ⟨w.heap.size,0,none⟩=some (.map (some m1)):=by rw[qm];simp
 have q7:SeqGives A1 3 AI 188 #[.pointer (some ⟨w.heap.size,0,none⟩)] encStr (fun ss=>ss.Perm (BY (.map D1:A2 AT))) (A6 (.map D1:A2 AT)) wa:=
  AnyZ.keys_gives (ρ:=Tryz.keys141_ren) { Tryz.keys141 with } A1 _ trivial rfl (by omega) w.heap.size m1 n1 _ _ (by omega) z7 (Aj (Aa HO).1 (qt.block m1 zl))
 have qi:CallsIn A1 5 AI 186 #[.func (.func 188) #[] #[.pointer (some ⟨w.heap.size,0,none⟩)]] wa fun e w'=>∃ (v:AT) (ss:List (List UInt8)),e=.returned v/\ss.Perm (BY (.map D1:A2 AT))/\w'.ownsRow wa.heap.size 9 1 v ss.length (ss.map encStr)/\(v=.slice none 0 0<->ss=[])/\C1 wa.heap.size wa w':=
  AnyZ.collect_in (ρ:=Tryz.sorted140_ren) { Tryz.sorted140 with } A1 5 trivial trivial rfl (by omega) 188 _ trivial (enters_of func188 (by kernel_rfl) rfl) _ _ (by omega) (by omega) wa q7
 have zg:=Ab qt;have qp:=Ab qi;clear qm z7 q7 qi qt
 go_wp2_with (fail);refine (CH.1 (Aa qp)).mono ?_
 rintro e w3 ⟨v,ss,rfl,q5,qd,_,hb3⟩;obtain⟨va,vn,vc,rfl⟩:∃a n c,v=.slice a n c:=by
  rcases qd.2 with⟨e,_⟩|⟨_,_,_,e,_⟩<;>exact⟨_,_,_,e⟩
 have qg:C1 w.heap.size w w3:=(Aa zg).trans (hb3.mono (by omega));have zu:=hb3.size;have qw:=Ab qg;have qf:=Ab qd;have HP:=Ab q5;clear q5 qd hb3 qg
 go_wp2_with (fail);refine (CH.1 (Tryz.maps_Keys_141 (some m2) w3)).mono ?_
 rintro e wd ⟨rfl,qn⟩;have qu:C1 w3.heap.size w3 wd:=by rw[qn];exact (G2 _ _).alloc (Ft _) _
 have zv:wd.heap.size=w3.heap.size+1:=by rw[qn];simp
 have z8:wd.cell? ⟨w3.heap.size,0,none⟩=some (.map (some m2)):=by rw[qn];simp
 have qb:C1 w.heap.size w wd:=(Aa qw).trans (qu.mono (Aa qw).size);have q8:SeqStops A1 4 AI 188 #[.pointer (some ⟨w3.heap.size,0,none⟩)] encStr (fun ss=>ss.Perm (BY (.map D2:A2 AT)) /\ ∀x,x∈ss<->has (.map D2:A2 AT) (.string x)=true) (fun zc=>zc.Nodup /\ ∀x∈zc,has (.map D2:A2 AT) (.string x)=true) (A6 (.map D2:A2 AT)) wd:=
  AnyZ.keys_stops (ρ:=Tryz.keys141_ren) { Tryz.keys141 with } A1 _ trivial rfl (by omega) w3.heap.size m2 n2 _ wd (by omega) z8 (Aj (Aa HO).2 (qb.block m2 zm))
 have q6:wd.ownsRow w.heap.size 9 1 (.slice va vn vc) ss.length (ss.map encStr):=by
  have h1:=AD (w':=wd) (Aa qf) fun q hq=>qu.block q (AC (Aa qf) q hq).1;exact ownsRow_base_a h1 (by omega)
 have zn:ss.length<=400000:=by
  have h1:=(Aa HP).length_eq;have h2:(BY (.map D1:A2 AT)).length=A6 (.map D1:A2 AT):=by rw[CD];exact F2 _
  omega
 have q9:=Ab (S9 (B:=w.heap.size) q6 (by omega) (by omega) (enters_of func188 (by kernel_rfl) rfl) q8);have zh:=Ab qb;clear qn z8 q8 q6 qu qb
 go_wp2_with (fail);refine (CH.1 (Aa q9)).mono ?_
 rintro e w5 ⟨v5,tt,rfl,⟨q0,_⟩,qk,qr⟩;have q4:C1 w.heap.size w w5:=(Aa zh).trans qr;rcases qk with⟨_,⟨rfl,z6⟩|⟨g,cap,cur,rfl,hg,qy,qj,qv,zq,htk⟩⟩
 ·have he:ss++tt=[]:=List.eq_nil_of_length_eq_zero z6;have HK:=Ab (Aa qe ss tt [] (Aa HP) q0 G3 (fun k=>by rw[he]));have ze:=Ab q4;clear q0 z6 qr q4 he q9
  go_wp2_with (fail);have za:G0 AI 187 #[.slice none 0 0] w5 fun e w'=>e=.returned (.tuple #[])/\w'=w5:=AnyM.slices_Sort_string_none Tryz.sort187 none 0 w5
  refine za.mono ?_;rintro e w6 ⟨rfl,rfl⟩;clear za
  go_wp2_with (fail);refine NF.mono ?_
  rintro e w7 ⟨rfl,rfl⟩
  go_wp2_with (fail);show Q (.returned (.slice none 0 0)) _
  rw[Aa HQ];exact⟨Aa ze,Dt ⟨(Aa HK).symm,_,_,rfl⟩⟩
 ·have zo:(ss++tt).length<=1000000:=by
   have h2:=q0.length_eq;have h3:(BY (.map D2:A2 AT)).length=A6 (.map D2:A2 AT):=by rw[CD];exact F2 _
   rw[List.length_append];omega
  have qq:=Ab (Mq (ss:=ss++tt) (w0:=w) (B:=w.heap.size) q4 hg qy qj (by omega) (by simpa using htk) zo);have zi:=Ab q0;generalize (ss++tt).length=nl at qq |-;clear q0 qr q4 qy htk q9
  go_wp2_with (fail);refine (Aa qq).mono ?_
  rintro e w6 ⟨rfl,qh⟩;have qo:=Ab qh;clear qh qq
  go_wp2_with (fail);refine (Aa qo).mono ?_
  rintro e w7 ⟨ks,rfl,hr,hk,zk,zb,qx⟩;have HK:=Ab (Aa qe ss tt ks (Aa HP) (Aa zi) hr hk);have zf:=Ab qx;have zj:=Ab zb;clear hr hk zb qx
  go_wp2_with (fail);show Q (.returned (.slice (some ⟨g,0,none⟩) ks.length cap)) _
  rw[Aa HQ,<- Aa HK];exact⟨Aa zf,Or.inr ⟨g,cap,rfl,hg,zk,qv,Aa zj⟩⟩
end Go.Proofs.YtdpomdelmdofmaaGreatDoor

namespace Go.Proofs.YtdpomdelmdofmaaGreatDoor
open Go.Proofs.Tryz
open Go.RowKit
theorem Km{P:Program}{g:Operand}{ps:Array Tmp}{assign body:Code}{Q:Exit->Act->A4->Prop}{a:Act}{w:A4}{gf:Nat}{lb:Array AT}{l₀:Nat}{r₀:Loop}(q9:w.heap[l₀]? = some (.loop r₀))
  (hg:a.eval g=.func (.func gf) #[] lb) (eg:∀args w,(callFunc gf args).run P w=.ok (.enter gf args) w) (N:Nat) (arg:Nat->Array AT) (qb:∀k,(arg k).size=ps.size) (I:Nat->A4->Prop) (A:Nat->Act->A4->Prop)
  (hI:∀k,Dy w.heap.size (I k)) (hA:∀k a',Dy w.heap.size (A k a')) (h0:I 0 w)
  (hiter:∀ (l:Nat) (J:Nat->A4->Prop) (W:A4),(∀k W,J k W->I k W)->(∀k W,k<N->J k W->YieldAt A1 0 P l (arg k) W fun e W'=>e=.returned (.bool true)/\J (k+1) W')->J 0 W ->
   CallsIn A1 0 P gf (#[.func (.yield l) #[] #[]]++lb) W fun e W'=>(∃v,e=.returned v)/\J N W')
  (hassign:∀l k W,k<N->I k W->w.heap.size<W.heap.size->assign.wpIn (Fence.wide.inRound l) 0 P (fun e a' W'=>e=.normal/\W'.heap[w.heap.size]? = W.heap[w.heap.size]? /\ A k a' W') { tmps:=(ps.zip (arg k)).foldl (fun t (p,v)=>t.setIfInBounds p v) a.tmps,defers:=[] } W)
  (hbody:∀l k a' W,k<N->A k a' W->w.heap.size<W.heap.size->body.wpIn (Fence.wide.inRound l) 0 P (fun e _ W'=>e=.normal/\W'.heap[w.heap.size]? = W.heap[w.heap.size]? /\ I (k+1) W') a' W)
  (hdone:∀W,I N W->Q .normal a W):
  (Code.rangeFunc g ps assign body).wpIn (Fence.wide.inRound l₀) 0 P Q a w:=by
 refine wpIn_rangeFunc fun fn q7=>?_;obtain⟨B,hB⟩:∃B,B=w.heap.size:=⟨_,rfl⟩
 obtain⟨rc,q4⟩:∃rc:LoopState->Loop,rc=fun st=>{ state:=st,pending:=none,fn,tmps:=a.tmps,params:=ps,assign,body,defers:=r₀.defers }:=⟨_,rfl⟩
 obtain⟨W1,q0⟩:∃W1,W1=w.alloc (.loop (rc .ready)):=⟨_,rfl⟩
 have t1:W1.heap[B]? = some (.loop (rc .ready)):=by rw[q0,hB];exact World.alloc_heap_new w _
 have i1:I 0 W1:=hI 0 w W1 h0 (by rw[q0];rfl) (by rw[q0];rfl) (by rw[q0];rfl) (by rw[q0];simp) fun j hj _ _=>by rw[q0];exact Below.heap_alloc w _ j hj
 rw[<- hB] at hI hA hassign hbody;refine⟨B,[],W1,{ target:=.fn (.func gf) lb,args:=#[.func (.yield B) #[] #[]] },W1,gf,#[.func (.yield B) #[] #[]]++lb,W1,?_,?_,?_,?_,?_,?_⟩
 ·rw[q0,q4,hB];exact run_enterLoop_inner q9 _ _ _ _ _
 ·simp only[resolve,hg];simp[go_sem]
 ·intro f' _;exact trivial
 ·simp[invoke,go_sem,eg]
 ·intro h;cases h
 ·refine CallsIn.mono (CallsIn.inRound l₀ (hiter B (fun k W=>I k W/\W.heap[B]? = some (.loop (rc .ready))) W1 (fun k W h=>h.1) ?_ ⟨i1,t1⟩)) ?_
  ·rintro k W hk ⟨hi,hl⟩;have hy:=run_yield (P:=P) (args:=arg k) hl (by rw[q4];exact qb k);rw[q4] at hy;refine⟨fn,_,assign,body,hy,roundIn_of_wpIn q7 (wpIn_mono (hassign B k W hk hi (AS.1 hl).1) ?_)⟩;rintro e a' Wa ⟨rfl,qe,ha⟩;have q6:=qe.trans hl;have hlt:=(AS.1 q6).1;refine⟨_,run_beginRound q6 (by rw[q4]),wpIn_mono (hbody B k a' _ hk ((hA k a').put ha (Dt rfl) _) (by simp[World.putObj];omega)) ?_⟩;rintro e a3 W3 ⟨rfl,qd,q8⟩;have l3:W3.heap[B]? = some (.loop { rc .ready with state:=.busy }):=qd.trans (CL hlt);have hr:=run_endRound (P:=P) none l3;refine⟨_,_,hr,rfl,(hI (k+1)).put q8 (Dt rfl) _,?_⟩;refine (CL (AS.1 l3).1).trans ?_;rw[q4];rfl
  ·rintro e W2 ⟨⟨v,rfl⟩,hi,hl⟩;have q5:=run_endLoop (P:=P) hl (by rw[q4];simp);exact⟨none,_,by rw[q5,q4],hdone _ ((hI N).put hi (Dt rfl) _)⟩
end Go.Proofs.YtdpomdelmdofmaaGreatDoor

set_option maxRecDepth 100000
set_option maxHeartbeats 4000000
namespace Go.Proofs.YtdpomdelmdofmaaGreatDoor
open Go.Proofs.Tryz
open Go.RowKit Go.Maps
variable{a b m n:Nat}{D:A2 AT}{V:Nat->Nat->Nat}{w:A4}
attribute [local go_sem] Oper.semAt_some
def pv(i j:Nat):AT:=.agg #[.int .i64 i,.int .i64 j]
def Hi(i j:Nat):Lit:=.string (keyBytes [.int .i64 i,.int .i64 j])
theorem Y2:(273:TypeId)<Tryz.prog.types.size:=of_decide_eq_true (by kernel_rfl)
theorem pka:Tryz.prog.keyTypeAt 2 273=true:=by kernel_rfl
theorem TN:Keyed AI 273:=Keyed.of_law (deep_law_laid Va (m:=2) (by omega) Y2 pka (by rw[underlying273]))
theorem pkl(i j:Nat):WideAt.IsKeyLit (Hi i j):=by unfold Hi;exact trivial
theorem pkt:Tryz.prog.keyType 273=true:=by kernel_rfl
theorem Rr:Tryz.prog.cellsOf 273=2:=by kernel_rfl
theorem pci:Tryz.prog.cellsOf 3=1:=by kernel_rfl
theorem iwf{k:Nat}(hk:k<=1000000):(Lit.int .i64 (k:Int)).wf=true:=by
 have h1:IntKind.i64.min = -9223372036854775808:=by decide
 have h2:IntKind.i64.max=9223372036854775807:=by decide
 simp only[Lit.wf,h1,h2,Bool.and_eq_true,decide_eq_true_eq];omega
theorem PL(i j:Nat)(hi:i<=1000000)(hj:j<=1000000):keyOf AI 273 (pv i j)=some (Hi i j):=by
 obtain⟨m,hm⟩:=nsz;have h1:=iwf hi;have h2:=iwf hj;unfold keyOf pv Hi;rw[underlying273];simp only[pkt,Value.formed,underlying273,Rr,hm];simp[Program.keyLits,underlying273,underlying3,Rr,pci,Value.cells,h1,h2]
theorem TM{i j:Nat}(h1:i<=1000000)(h2:j<=1000000)(h3:a<=1000000)(h4:b<=1000000)(h:Hi i j=Hi a b):i=a/\j=b:=by
 have:=TN.inj (PL i j h1 h2) (h▸PL a b h3 h4);unfold pv at this;simp at this;omega
noncomputable abbrev IE(v:AT):Option (A2 AT×List MemPlace):=plainElem AI 3 v
theorem Ve{k:Nat}(hk:k<=1000000):IE (.int .i64 k)=some (.lit (.int .i64 k),[]):=plainElem_int underlying3 (iwf hk)
theorem YA(w:A4):(zeroValue 3).run AI w=.ok (.int .i64 0) w:=by kernel_rfl
structure Tb(D:A2 AT)(V:Nat->Nat->Nat):Prop where
 map:IsMap D
 vals:∀i j,i<=1000000->j<=1000000->D.atKey (Hi i j) (.lit (.int .i64 0))=.lit (.int .i64 (V i j))
theorem Tb.put(h:Tb D V){v:Nat}(ha:a<=1000000)(hb:b<=1000000):Tb (D.put (Hi a b) (.lit (.int .i64 v))) (fun i j=>if i=a/\j=b then v else V i j):=by
 refine⟨h.map.put _ _,fun i j hi hj=>?_⟩;by_cases e:i=a/\j=b
 ·obtain⟨rfl,rfl⟩:=e;rw[if_pos ⟨rfl,rfl⟩];exact atKey_put_same h.map (pkl _ _) _ _
 ·rw[if_neg e,atKey_put_other (fun h2=>e (TM hi hj ha hb h2))];exact h.vals i j hi hj
theorem Tb.as{V':Nat->Nat->Nat}(h:Tb D V)(he:∀i j,V i j=V' i j):Tb D V':=by
 have:V=V':=by funext i j;exact he i j
 subst this;exact h
theorem EB{w':A4}(h:w.ownsMap AI 273 IE m n D)(hk:w'.heap[m]? = w.heap[m]?):w'.ownsMap AI 273 IE m n D:=by
 obtain⟨es,q0,hb,r⟩:=h;exact⟨es,q0,hk.trans hb,r⟩
theorem Ic(ho:w.ownsMap AI 273 IE m n D)(h:Tb D V){i j:Nat}(hi:i<=1000000)(hj:j<=1000000){w':A4}(hb:w'.heap[m]? = w.heap[m]?):
  (G1 270 (.map (some m)) (.agg #[.int .i64 i,.int .i64 j]) false).run AI w'=.ok (.int .i64 (V i j)) w':=by
 obtain⟨v1,q0,r1,q1⟩:=(EB ho hb).lookup TN underlying270 (YA w') (zd:=.lit (.int .i64 0)) (zp:=[]) (Ve (k:=0) (by omega)) (PL i j hi hj);rw[h.vals i j hi hj] at q1;obtain⟨c,e1,e2,_⟩:=plainElem_int_inv underlying3 q1;have e3:(DataW.lit (.int .i64 (V i j:Int)):A2 AT)=.lit (.int .i64 c):=congrArg Prod.fst e2;have e4:v1=.int .i64 (V i j:Int):=by
  rw[e1];rw[(Lit.int.inj (DataW.lit.inj e3)).2]
 rw[e4] at r1;exact r1
theorem Xf(ho:w.ownsMap AI 273 IE m n D)(h:Tb D V)(hn:n<=1000000000){v:Nat}(ha:a<=1000000)(hb:b<=1000000)(hv:v<=1000000):
  ∃w3 D3,(F5 270 (.map (some m)) (.agg #[.int .i64 a,.int .i64 b]) (.int .i64 v)).run AI w=.ok () w3/\w3.ownsMap AI 273 IE m (n+1) D3/\Tb D3 (fun i j=>if i=a/\j=b then v else V i j)/\w.grownBy w3 (some m):=by
 obtain⟨w3,q0,q4,hg⟩:=ho.update TN underlying270 (by unfold C2;omega) (PL a b ha hb) (val:=.int .i64 v) (d:=.lit (.int .i64 v)) (ps:=[]) (Ve hv);exact⟨w3,_,q0,q4,h.put ha hb,hg⟩
theorem LD{l Bs g N cap:Nat}{ao:Option Addr}{c:Nat->Option Addr}{J:Nat->A4->Prop}{W:A4}(hN:N<=C2)(q4:0<N->ao=some ⟨g,0,none⟩)(hJ:∀k W,J k W->W.cell? ⟨Bs,0,none⟩=some (.slice ao N cap) /\ ∀j,j<N->W.cell? ⟨g,j,none⟩=some (.pointer (c j)))(hY:∀k W,k<N->J k W->YieldAt A1 0 AI l #[.int .i64 ((N-1-k:Nat):Int),.pointer (c (N-1-k))] W fun e W'=>e=.returned (.bool true)/\J (k+1) W')(h0:J 0 W):
  CallsIn A1 0 AI 292 (#[.func (.yield l) #[] #[]] ++ #[.pointer (some ⟨Bs,0,none⟩)]) W fun e W'=>(∃v,e=.returned v)/\J N W':=by
 have HJ:=Ab hJ;have HY:=Ab hY;have q5:=Ab q4;have q8:=(hJ 0 W h0).1;have H0:=Ab h0;unfold C2 at hN;have w1:IntKind.i64.wrap ((N:Int)-1)=(N:Int)-1:=by rw[D0];omega
 clear hJ hY h0 q4;refine callsIn_of_wp func292 rfl trivial ?_ rfl;simp only[ntmps292,List.size_toArray,E0,List.length_nil,Nat.reduceAdd,Nat.reduceSub,Array.replicate_succ,Array.replicate_zero,List.push_toArray,List.append_toArray,List.nil_append,List.cons_append]
 gi_wp2
 gi_loopw [3] (fun i wr=>∃r:Nat,r<=N/\i=.int .i64 ((r:Int)-1)/\J (N-r) wr) (fun i _=>((intOf i)+1).toNat)
 case atStart=>exact⟨N,Ft _,rfl,by rw[Nat.sub_self];exact Aa H0⟩
 case round=>
  obtain⟨r,hr,rfl,hj⟩:=hrel;cases r with
  | zero=>
   have q6:=Ab hj;clear hj
   gi_wp2
   go_end0
   exact⟨⟨_,rfl⟩,Aa q6⟩
  | succ i=>
   obtain⟨hb,hc⟩:=Aa HJ _ _ hj;obtain rfl:=Aa q5 (by omega);have e1:(((i+1:Nat):Int)-1)=(i:Int):=by omega
   have hk:N-(i+1)<N:=by omega
   have e2:N-1-(N-(i+1))=i:=by omega
   have e3:N-(i+1)+1=N-i:=by omega
   have c0:=hc i (by omega);obtain⟨fn,tmps,assign,body,hy,hR⟩:=Aa HY _ _ hk hj;rw[e2] at hy;rw[e3] at hR;have HR:=Ab hR;have hlt:(i:Int)<(N:Int):=by omega
   have q9:(0:Int)<=(i:Int):=by omega
   have w2:IntKind.i64.wrap ((i:Int)-1)=(i:Int)-1:=by rw[D0];omega
   rw[e1];clear hj hc hR e1 e2 e3
   gi_wp2
   refine⟨rfl,(Aa HR).mono ?_⟩;rintro e W3 ⟨rfl,q0⟩;have q7:=Ab q0;clear q0
   gi_wp2
   go_roundw
   case rel=>exact⟨i,by omega,rfl,Aa q7⟩
   case measure=>simp[intOf]
theorem LB{a:Option Addr}{cap:Nat}:G0 AI 254 #[.slice a n cap] w fun e w'=>e=.returned (.func (.func 292) #[] #[.pointer (some ⟨w.heap.size,0,none⟩)])/\w'=w.alloc (.cells #[.slice a n cap] 106):=by
 go_enter func254,ntmps254
 go_wp2_with (fail)
 go_ret;exact⟨rfl,rfl⟩
end Go.Proofs.YtdpomdelmdofmaaGreatDoor

namespace Go.Proofs.YtdpomdelmdofmaaGreatDoor
open Go.Proofs.Tryz
open Go.RowKit Go.Maps

theorem Ir:∀a:List To,Zq a []=0
 | []=>by rw[Zq]
 | x::a=>by rw[Zq]
theorem JM:∀a b:List To,Zq a b<=a.length
 | [],b=>by rw[Zq];exact F1 _
 | x::a,[]=>by rw[Zq];exact F1 _
 | x::a,y::b=>by
  have h1:=JM a b;have h2:=JM a (y::b);have h3:=JM (x::a) b;rw[Zq];simp only[E0] at *;split<;>omega
termination_by a b=>a.length+b.length
noncomputable def Zg(xs ys:List To)(k q i j:Nat):Nat:=if xs.length<=i+k\/(xs.length=i+k+1/\ys.length<=j+q) then Zq (xs.drop i) (ys.drop j) else 0
variable{xs ys:List To}
theorem Vc(k q i j:Nat):Zg xs ys k q i j<=xs.length:=by
 unfold Zg;split
 ·exact DD (JM _ _) (by rw[List.length_drop];omega)
 ·exact F1 _
theorem Y4(i j:Nat):Zg xs ys 0 0 i j=0:=by
 unfold Zg;split
 ·rename_i h;rcases h with h|⟨_,h⟩
  ·rw[A3 (by omega),Zq]
  ·rw[show ys.drop j=[] from A3 (by omega),Ir]
 ·rfl
theorem XE(k i j:Nat):Zg xs ys k ys.length i j=Zg xs ys (k+1) 0 i j:=by
 unfold Zg;by_cases h1:xs.length<=i+k
 ·rw[if_pos (Dt h1),if_pos (Dt (by omega))]
 ·by_cases h2:xs.length=i+k+1
  ·rw[if_pos (Or.inr ⟨h2,by omega⟩),if_pos (Dt (by omega))]
  ·rw[if_neg (by omega)];by_cases h3:xs.length=i+(k+1)+1/\ys.length<=j+0
   ·rw[if_pos (Or.inr h3),show ys.drop j=[] from A3 (by omega),Ir]
   ·rw[if_neg (by omega)]
theorem XF(i j:Nat):Zg xs ys xs.length 0 i j=Zq (xs.drop i) (ys.drop j):=by
 unfold Zg;rw[if_pos (Dt (by omega))]
theorem Wr{k q:Nat}(hk:k<xs.length)(hq:q<ys.length)(i j:Nat):
  (if i=xs.length-1-k/\j=ys.length-1-q then (if veq (xs[xs.length-1-k]'(by omega)) (ys[ys.length-1-q]'(by omega))=true then 1+Zg xs ys k q (xs.length-1-k+1) (ys.length-1-q+1) else max (Zg xs ys k q (xs.length-1-k+1) (ys.length-1-q)) (Zg xs ys k q (xs.length-1-k) (ys.length-1-q+1))) else Zg xs ys k q i j)=Zg xs ys k (q+1) i j:=by
 have e1:xs.drop (xs.length-1-k)=xs[xs.length-1-k]'(by omega)::xs.drop (xs.length-1-k+1):=A5 (by omega);have e2:ys.drop (ys.length-1-q)=ys[ys.length-1-q]'(by omega)::ys.drop (ys.length-1-q+1):=A5 (by omega);by_cases h:i=xs.length-1-k/\j=ys.length-1-q
 ·obtain⟨rfl,rfl⟩:=h;rw[if_pos ⟨rfl,rfl⟩];have g:Zg xs ys k (q+1) (xs.length-1-k) (ys.length-1-q)=Zq (xs.drop (xs.length-1-k)) (ys.drop (ys.length-1-q)):=by unfold Zg;rw[if_pos (by omega)]
  have g1:Zg xs ys k q (xs.length-1-k+1) (ys.length-1-q+1)=Zq (xs.drop (xs.length-1-k+1)) (ys.drop (ys.length-1-q+1)):=by unfold Zg;rw[if_pos (by omega)]
  have g2:Zg xs ys k q (xs.length-1-k+1) (ys.length-1-q)=Zq (xs.drop (xs.length-1-k+1)) (ys.drop (ys.length-1-q)):=by unfold Zg;rw[if_pos (by omega)]
  have g3:Zg xs ys k q (xs.length-1-k) (ys.length-1-q+1)=Zq (xs.drop (xs.length-1-k)) (ys.drop (ys.length-1-q+1)):=by unfold Zg;rw[if_pos (by omega)]
  rw[g,g1,g2,g3,e1,e2,Zq]
 ·rw[if_neg h];unfold Zg;by_cases h1:xs.length<=i+k\/(xs.length=i+k+1/\ys.length<=j+q)
  ·rw[if_pos h1,if_pos (by omega)]
  ·rw[if_neg h1,if_neg (by omega)]

structure LnI(w:A4)(s1 s2:AT)(C:Nat)(V:Nat->Nat->Nat)(W:A4):Prop where
 box:W.heap[w.heap.size]? = some (.cells #[s2] 106 (0,0))
 left:W.heap[w.heap.size+2]? = some (.cells #[.map (some (w.heap.size+1))] 270 (0,0))
 bac:W.heap[w.heap.size+3]? = some (.cells #[s1] 106 (0,0))
 map:∃cnt D,cnt<=C/\W.ownsMap AI 273 IE (w.heap.size+1) cnt D/\Tb D V
 bel:C1 w.heap.size w W
section
variable{w W W':A4}{s1 s2:AT}{C:Nat}{V:Nat->Nat->Nat}
theorem LnI.sz(h:LnI w s1 s2 C V W):w.heap.size+3<W.heap.size:=(AS.1 h.bac).1
theorem LnI.kept(h:LnI w s1 s2 C V W)(e1:W'.os=W.os)(e2:W'.tape=W.tape)(e3:W'.output=W.output)(e4:W.heap.size<=W'.heap.size)(e5:∀j,j<w.heap.size+4->W'.heap[j]? = W.heap[j]?):LnI w s1 s2 C V W':=by
 obtain⟨cnt,D,h1,h2,h3⟩:=h.map;exact⟨(e5 _ (by omega)).trans h.box,(e5 _ (by omega)).trans h.left,(e5 _ (by omega)).trans h.bac,⟨cnt,D,h1,EB h2 (e5 _ (by omega)),h3⟩,⟨e1.trans h.bel.os,e2.trans h.bel.tape,e3.trans h.bel.output,DD h.bel.size e4,fun k hk=>(e5 k (by omega)).trans (h.bel.block k hk)⟩⟩
theorem LnI.low(h:LnI w s1 s2 C V W)(hb:C1 W.heap.size W W'):LnI w s1 s2 C V W':=h.kept hb.os hb.tape hb.output hb.size fun j hj=>hb.block j (by have:=h.sz;omega)
theorem LnI.as{C':Nat}{V':Nat->Nat->Nat}(h:LnI w s1 s2 C V W)(hC:C<=C')(he:∀i j,V i j=V' i j):LnI w s1 s2 C' V' W:=by
 obtain⟨cnt,D,h1,h2,h3⟩:=h.map;exact⟨h.box,h.left,h.bac,⟨cnt,D,by omega,h2,h3.as he⟩,h.bel⟩
theorem LnI.look(h:LnI w s1 s2 C V W){i j:Nat}(hi:i<=1000000)(hj:j<=1000000)(hb:W'.heap[w.heap.size+1]? = W.heap[w.heap.size+1]?):
  (G1 270 (.map (some (w.heap.size+1))) (.agg #[.int .i64 i,.int .i64 j]) false).run AI W'=.ok (.int .i64 (V i j)) W':=by
 obtain⟨cnt,D,h1,h2,h3⟩:=h.map;exact Ic h2 h3 hi hj hb
theorem LnI.put(h:LnI w s1 s2 C V W)(hC:C<1000000000){a b v:Nat}(ha:a<=1000000)(hb:b<=1000000)(hv:v<=1000000):
  ∃W3,(F5 270 (.map (some (w.heap.size+1))) (.agg #[.int .i64 a,.int .i64 b]) (.int .i64 v)).run AI W.drew=.ok () W3/\LnI w s1 s2 (C+1) (fun i j=>if i=a/\j=b then v else V i j) W3/\W.grownBy W3 (some (w.heap.size+1)):=by
 obtain⟨cnt,D,h1,h2,h3⟩:=h.map;have q0:W.drew.ownsMap AI 273 IE (w.heap.size+1) cnt D:=EB h2 rfl;obtain⟨W3,D3,r1,r2,r3,r4⟩:=Xf q0 h3 (by omega) ha hb hv;have hs:=h.sz;have hg:W.grownBy W3 (some (w.heap.size+1)):=⟨r4.os,r4.tape,r4.output,r4.size,r4.block⟩
 have hk:∀j,j<w.heap.size+4->j≠w.heap.size+1->W3.heap[j]? = W.heap[j]?:=fun j hj q5=>hg.block j (by omega) (fun e=>q5 (Option.some.inj e));exact⟨W3,r1,⟨(hk _ (by omega) (by omega)).trans h.box,(hk _ (by omega) (by omega)).trans h.left,(hk _ (by omega) (by omega)).trans h.bac,⟨cnt+1,D3,by omega,r2,r3⟩,⟨hg.os.trans h.bel.os,hg.tape.trans h.bel.tape,hg.output.trans h.bel.output,DD h.bel.size hg.size,fun k q4=>(hk k (by omega) (by omega)).trans (h.bel.block k q4)⟩⟩,hg⟩
end
end Go.Proofs.YtdpomdelmdofmaaGreatDoor
