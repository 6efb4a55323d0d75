import Derived.Test.YtdpomdelmdofmaaGreatDoorRea36
import Derived.Test.YtdpomdelmdofmaaGreatDoorRea38
open Go.Proofs.Tryz renaming prog->AI
open Array renaming getElem?_eq_some_iff->AS
open List renaming drop_eq_nil_of_le->AT,length_cons->A1,eq_nil_of_length_eq_zero->A2,drop_eq_getElem_cons->A5,mem_cons_of_mem->CL,cons_append->Dp,nil_append->DD,map_append->D0,take_left->D2,drop_left->E0,map_cons->Ft
open Go renaming World->A3,Value->BY,DataW->D1
open Nat renaming le_trans->A4,zero_le->A6,le_refl->CH,sub_self->F1
open Go.World renaming putObj_heap_same->CD
open Go.Fence renaming wide->CR
open Go.Lib renaming itoa->C1
open Go.IntKind renaming wrap_i64->C2
open Go.Instr renaming mapUpdate->Dt,lookup->FD
open Except renaming error->F2
open Or renaming inl->F5,inr->F7
set_option maxRecDepth 100000
set_option maxHeartbeats 4000000
namespace Go.Proofs.YtdpomdelmdofmaaGreatDoor
open Go.Proofs.Tryz Go.RowKit Go.Maps
variable{k i j b v m:Nat}{a es:List To}{y:To}
theorem Lv{P:Program}{g:Operand}{ps:Array Tmp}{assign body:Code}{Q:Exit->Act->A3->Prop}{a:Act}{w:A3}{gf:Nat}{lb:Array BY}{l₀:Nat}{r₀:Loop}(q9:w.heap[l₀]? = some (.loop r₀))(hg:a.eval g=.func (.func gf) #[] lb)(eg:∀args w,(callFunc gf args).run P w=.ok (.enter gf args) w)(N:Nat)(arg:Nat->Array BY)(qe:∀k,(arg k).size=ps.size)(I:Nat->A3->Prop)(A:Nat->Act->A3->Prop)(hI:∀k,DU w.heap.size (I k))(hA:∀k a',DU w.heap.size (A k a'))(h0:I 0 w)(hiter:∀ (l:Nat) (J:Nat->A3->Prop) (W:A3),(∀k W,J k W->I k W)->(∀k W,k<N->J k W->YieldAt CR 0 P l (arg k) W fun e W'=>e=.returned (.bool true)/\J (k+1) W')->J 0 W ->
   CallsIn CR 0 P gf (#[.func (.yield l) #[] #[]]++lb) W fun e W'=>(∃v,e=.returned v)/\J N W')(hassign:∀l k W,k<N->I k W->w.heap.size<W.heap.size->assign.wpIn (Fence.wide.inRound l) 0 P (fun e a' W'=>e=.normal/\W'.heap[w.heap.size]? = W.heap[w.heap.size]? /\ A k a' W') { tmps:=(ps.zip (arg k)).foldl (fun t (p,v)=>t.setIfInBounds p v) a.tmps,defers:=[] } W)(hbody:∀l k a' W,k<N->A k a' W->w.heap.size<W.heap.size->body.wpIn (Fence.wide.inRound l) 0 P (fun e _ W'=>e=.normal/\W'.heap[w.heap.size]? = W.heap[w.heap.size]? /\ I (k+1) W') a' W)(hdone:∀W,I N W->Q .normal a W):
  (Code.rangeFunc g ps assign body).wpIn (Fence.wide.inRound l₀) 0 P Q a w:=by
 refine wpIn_rangeFunc fun fn q7=>?_;obtain⟨B,hB⟩:∃B,B=w.heap.size:=⟨_,rfl⟩
 obtain⟨rc,q4⟩:∃rc:LoopState->Loop,rc=fun st=>{ state:=st,pending:=none,fn,tmps:=a.tmps,params:=ps,assign,body,defers:=r₀.defers }:=⟨_,rfl⟩
 obtain⟨W1,q0⟩:∃W1,W1=w.alloc (.loop (rc .ready)):=⟨_,rfl⟩
 have t1:W1.heap[B]? = some (.loop (rc .ready)):=by rw[q0,hB];exact World.alloc_heap_new w _
 have i1:I 0 W1:=hI 0 w W1 h0 (by rw[q0];rfl) (by simp_all) (by rw[q0];rfl) (by grind) fun j hj _ _=>by rw[q0];exact Below.heap_alloc w _ j hj
 rw[<- hB] at hI hA hassign hbody;refine⟨B,[],W1,{ target:=.fn (.func gf) lb,args:=#[.func (.yield B) #[] #[]] },W1,gf,#[.func (.yield B) #[] #[]]++lb,W1,?_,?_,?_,?_,?_,?_⟩
 ·rw[q0,q4,hB];exact run_enterLoop_inner q9 _ _ _ _ _
 ·simp only[resolve,hg];simp[go_sem]
 ·intro f' _;exact trivial
 ·simp[invoke,go_sem,eg]
 ·intro h;cases h
 ·refine CallsIn.mono (CallsIn.inRound l₀ (hiter B (fun k W=>I k W/\W.heap[B]? = some (.loop (rc .ready))) W1 (fun k W h=>h.1) ?_ ⟨i1,t1⟩)) ?_
  ·rintro k W hk ⟨hi,hl⟩;have hy:=run_yield (P:=P) (args:=arg k) hl (by grind);rw[q4] at hy;refine⟨fn,_,assign,body,hy,roundIn_of_wpIn q7 (wpIn_mono (hassign B k W hk hi (AS.1 hl).1) ?_)⟩;rintro e a' Wa ⟨rfl,qd,ha⟩;have q6:=qd.trans hl;have hlt:=(AS.1 q6).1;refine⟨_,run_beginRound q6 (by rw[q4]),wpIn_mono (hbody B k a' _ hk ((hA k a').put ha (F5 rfl) _) (by simp_all)) ?_⟩;rintro e a3 W3 ⟨rfl,qb,q8⟩;have l3:W3.heap[B]? = some (.loop { rc .ready with state:=.busy }):=qb.trans (CD hlt);have hr:=run_endRound (P:=P) none l3;refine⟨_,_,hr,rfl,(hI (k+1)).put q8 (F5 rfl) _,?_⟩;refine (CD (by grind)).trans ?_
   grind
  ·rintro e W2 ⟨⟨v,rfl⟩,hi,hl⟩;have q5:=run_endLoop (P:=P) hl (by grind);exact⟨none,_,by rw[q5,q4],hdone _ ((hI N).put hi (F5 rfl) _)⟩
section
attribute [local go_sem] Oper.semAt_some
def pv(i j:Nat):BY:=.agg #[.int .i64 i,.int .i64 j]
def Iz(i j:Nat):Lit:=.string (keyBytes [.int .i64 i,.int .i64 j])
theorem dC:(273:TypeId)<Tryz.prog.types.size:=of_decide_eq_true (by kernel_rfl)
theorem pka:Tryz.prog.keyTypeAt 2 273=true:=by kernel_rfl
theorem V0:Keyed AI 273:=Keyed.of_law (deep_law_laid XE (m:=2) (by omega) dC pka (by rw[underlying273]))
theorem pkl(i j:Nat):WideAt.IsKeyLit (Iz i j):=by unfold Iz;exact trivial
theorem pkt:Tryz.prog.keyType 273=true:=by kernel_rfl
theorem TF:Tryz.prog.cellsOf 273=2:=by kernel_rfl
theorem pci:Tryz.prog.cellsOf 3=1:=by kernel_rfl
theorem iwf(hk:k<=1000000):(Lit.int .i64 (k:Int)).wf=true:=by
 have h1:IntKind.i64.min = -9223372036854775808:=by decide
 have h2:IntKind.i64.max=9223372036854775807:=by decide
 simp only[Lit.wf,h1,h2,Bool.and_eq_true,decide_eq_true_eq];omega
theorem Rz(i j:Nat)(hi:i<=1000000)(hj:j<=1000000):keyOf AI 273 (pv i j)=some (Iz i j):=by
 obtain⟨m,hm⟩:=nsz;have h1:=iwf hi;have h2:=iwf hj;unfold keyOf pv Iz;rw[underlying273];simp only[pkt,Value.formed,underlying273,TF,hm];simp[Program.keyLits,underlying273,underlying3,TF,pci,Value.cells,h1,h2]
theorem VZ{a:Nat}(h1:i<=1000000)(h2:j<=1000000)(h3:a<=1000000)(h4:b<=1000000)(h:Iz i j=Iz a b):i=a/\j=b:=by
 have:=V0.inj (Rz i j h1 h2) (h▸Rz a b h3 h4)
 grind [pv]
noncomputable abbrev IE(v:BY):Option (D1 BY×List MemPlace):=plainElem AI 3 v
theorem XI(hk:k<=1000000):IE (.int .i64 k)=some (.lit (.int .i64 k),[]):=plainElem_int underlying3 (iwf hk)
theorem bX(w:A3):(zeroValue 3).run AI w=.ok (.int .i64 0) w:=by kernel_rfl
structure Tb(D:D1 BY)(V:Nat->Nat->Nat):Prop where
 map:IsMap D
 vals:∀i j,i<=1000000->j<=1000000->D.atKey (Iz i j) (.lit (.int .i64 0))=.lit (.int .i64 (V i j))
theorem Tb.put{D:D1 BY}{V:Nat->Nat->Nat}(h:Tb D V){a:Nat}(ha:a<=1000000)(hb:b<=1000000):Tb (D.put (Iz a b) (.lit (.int .i64 v))) (fun i j=>if i=a/\j=b then v else V i j):=by
 refine⟨h.map.put _ _,fun i j hi hj=>?_⟩;by_cases e:i=a/\j=b
 ·obtain⟨rfl,rfl⟩:=e;rw[if_pos ⟨rfl,rfl⟩];exact atKey_put_same h.map (pkl _ _) _ _
 ·rw[if_neg e,atKey_put_other (fun h2=>e (VZ hi hj ha hb h2))];exact h.vals i j hi hj
theorem Tb.as{D:D1 BY}{V V':Nat->Nat->Nat}(h:Tb D V)(he:∀i j,V i j=V' i j):Tb D V':=by
 have:V=V':=by grind
 grind
theorem E2{w w':A3}{n:Nat}{D:D1 BY}(h:w.ownsMap AI 273 IE m n D)(hk:w'.heap[m]? = w.heap[m]?):w'.ownsMap AI 273 IE m n D:=by
 obtain⟨es,q0,hb,r⟩:=h;exact⟨es,q0,hk.trans hb,r⟩
theorem Ja{w:A3}{n:Nat}{D:D1 BY}{V:Nat->Nat->Nat}(ho:w.ownsMap AI 273 IE m n D)(h:Tb D V)(hi:i<=1000000)(hj:j<=1000000){w':A3}(hb:w'.heap[m]? = w.heap[m]?):
  (FD 270 (.map (some m)) (.agg #[.int .i64 i,.int .i64 j]) false).run AI w'=.ok (.int .i64 (V i j)) w':=by
 obtain⟨v1,q0,r1,q1⟩:=(E2 ho hb).lookup V0 underlying270 (bX w') (zd:=.lit (.int .i64 0)) (zp:=[]) (XI (k:=0) (by omega)) (Rz i j hi hj);rw[h.vals i j hi hj] at q1;obtain⟨c,e1,e2,_⟩:=plainElem_int_inv underlying3 q1;have e3:(DataW.lit (.int .i64 (V i j:Int)):D1 BY)=.lit (.int .i64 c):=congrArg Prod.fst e2;have e4:v1=.int .i64 (V i j:Int):=by
  grind
 rw[e4] at r1;exact r1
theorem ZD{w:A3}{n:Nat}{D:D1 BY}{V:Nat->Nat->Nat}(ho:w.ownsMap AI 273 IE m n D)(h:Tb D V)(hn:n<=1000000000){a:Nat}(ha:a<=1000000)(hb:b<=1000000)(hv:v<=1000000):
  ∃w3 D3,(Dt 270 (.map (some m)) (.agg #[.int .i64 a,.int .i64 b]) (.int .i64 v)).run AI w=.ok () w3/\w3.ownsMap AI 273 IE m (n+1) D3/\Tb D3 (fun i j=>if i=a/\j=b then v else V i j)/\w.grownBy w3 (some m):=by
 obtain⟨w3,q0,q4,hg⟩:=ho.update V0 underlying270 (by grind [maxLen]) (Rz a b ha hb) (val:=.int .i64 v) (d:=.lit (.int .i64 v)) (ps:=[]) (XI hv);exact⟨w3,_,q0,q4,h.put ha hb,hg⟩
theorem Nc{l Bs g N cap:Nat}{ao:Option Addr}{c:Nat->Option Addr}{J:Nat->A3->Prop}{W:A3}(hN:N<=maxLen)(q4:0<N->ao=some ⟨g,0,none⟩)(hJ:∀k W,J k W->W.cell? ⟨Bs,0,none⟩=some (.slice ao N cap) /\ ∀j,j<N->W.cell? ⟨g,j,none⟩=some (.pointer (c j)))(hY:∀k W,k<N->J k W->YieldAt CR 0 AI l #[.int .i64 ((N-1-k:Nat):Int),.pointer (c (N-1-k))] W fun e W'=>e=.returned (.bool true)/\J (k+1) W')(h0:J 0 W):
  CallsIn CR 0 AI 292 (#[.func (.yield l) #[] #[]] ++ #[.pointer (some ⟨Bs,0,none⟩)]) W fun e W'=>(∃v,e=.returned v)/\J N W':=by
 have HJ:=Ab hJ;have HY:=Ab hY;have q5:=Ab q4;have q8:=(hJ 0 W h0).1;have H0:=Ab h0;unfold maxLen at hN;have w1:IntKind.i64.wrap ((N:Int)-1)=(N:Int)-1:=by rw[C2];omega
 clear hJ hY h0 q4;refine callsIn_of_wp func292 rfl trivial ?_ rfl;simp only[ntmps292,List.size_toArray,A1,List.length_nil,Nat.reduceAdd,Nat.reduceSub,Array.replicate_succ,Array.replicate_zero,List.push_toArray,List.append_toArray,DD,Dp]
 gi_wp2
 gi_loopw [3] (fun i wr=>∃r:Nat,r<=N/\i=.int .i64 ((r:Int)-1)/\J (N-r) wr) (fun i _=>((intOf i)+1).toNat)
 case atStart=>exact⟨N,CH _,rfl,by rw[F1];exact Aa H0⟩
 case round=>
  obtain⟨r,hr,rfl,hj⟩:=hrel;cases r with
  | zero=>
   have q6:=Ab hj;clear hj
   gi_wp2
   go_end0
   exact⟨⟨_,rfl⟩,Aa q6⟩
  | succ i=>
   obtain⟨hb,hc⟩:=Aa HJ _ _ hj;obtain rfl:=Aa q5 (by omega);have e1:(((i+1:Nat):Int)-1)=(i:Int):=by omega
   have hk:N-(i+1)<N:=by omega
   have e2:N-1-(N-(i+1))=i:=by omega
   have e3:N-(i+1)+1=N-i:=by omega
   have c0:=hc i (by omega);obtain⟨fn,tmps,assign,body,hy,hR⟩:=Aa HY _ _ hk hj;rw[e2] at hy;rw[e3] at hR;have HR:=Ab hR;have hlt:(i:Int)<(N:Int):=by omega
   have q9:(0:Int)<=(i:Int):=by omega
   have w2:IntKind.i64.wrap ((i:Int)-1)=(i:Int)-1:=by rw[C2];omega
   rw[e1];clear hj hc hR e1 e2 e3
   gi_wp2
   refine⟨rfl,(Aa HR).mono ?_⟩;rintro e W3 ⟨rfl,q0⟩;have q7:=Ab q0;clear q0
   gi_wp2
   go_roundw
   case rel=>exact⟨i,by omega,rfl,Aa q7⟩
   case measure=>simp[intOf]
theorem Na{a:Option Addr}{n cap:Nat}{w:A3}:Calls AI 254 #[.slice a n cap] w fun e w'=>e=.returned (.func (.func 292) #[] #[.pointer (some ⟨w.heap.size,0,none⟩)])/\w'=w.alloc (.cells #[.slice a n cap] 106):=by
 go_enter func254,ntmps254
 go_wp2_with (fail)
 go_ret
 simp_all
end
section
theorem Jm:∀a:List To,eB a []=0
 | []=>by rw[eB]
 | x::a=>by rw[eB]
theorem IM:∀a b:List To,eB a b<=a.length
 | [],b=>by rw[eB];exact A6 _
 | x::a,[]=>by rw[eB];exact A6 _
 | x::a,y::b=>by
  have h1:=IM a b;have h2:=IM a (y::b);have h3:=IM (x::a) b;rw[eB];simp only[A1] at *;split<;>omega
termination_by a b=>a.length+b.length
noncomputable def dU(xs ys:List To)(k q i j:Nat):Nat:=if xs.length<=i+k\/(xs.length=i+k+1/\ys.length<=j+q) then eB (xs.drop i) (ys.drop j) else 0
variable{xs ys:List To}
theorem XG(k q i j:Nat):dU xs ys k q i j<=xs.length:=by
 unfold dU;split
 ·exact A4 (IM _ _) (by grind)
 omega
theorem dF(i j:Nat):dU xs ys 0 0 i j=0:=by
 unfold dU;split
 ·rename_i h;rcases h with h|⟨_,h⟩
  ·rw[AT (by omega),eB]
  ·rw[show ys.drop j=[] from AT (by omega),Jm]
 ·rfl
theorem Z1(k i j:Nat):dU xs ys k ys.length i j=dU xs ys (k+1) 0 i j:=by
 unfold dU;by_cases h1:xs.length<=i+k
 ·grind
 ·by_cases h2:xs.length=i+k+1
  ·grind
  ·rw[if_neg (by omega)];by_cases h3:xs.length=i+(k+1)+1/\ys.length<=j+0
   ·rw[if_pos (F7 h3),show ys.drop j=[] from AT (by omega),Jm]
   grind
theorem Z2(i j:Nat):dU xs ys xs.length 0 i j=eB (xs.drop i) (ys.drop j):=by
 grind [dU]
theorem YR{q:Nat}(hk:k<xs.length)(hq:q<ys.length)(i j:Nat):
  (if i=xs.length-1-k/\j=ys.length-1-q then (if veq (xs[xs.length-1-k]'(by omega)) (ys[ys.length-1-q]'(by omega))=true then 1+dU xs ys k q (xs.length-1-k+1) (ys.length-1-q+1) else max (dU xs ys k q (xs.length-1-k+1) (ys.length-1-q)) (dU xs ys k q (xs.length-1-k) (ys.length-1-q+1))) else dU xs ys k q i j)=dU xs ys k (q+1) i j:=by
 have e1:xs.drop (xs.length-1-k)=xs[xs.length-1-k]'(by omega)::xs.drop (xs.length-1-k+1):=A5 (by omega);have e2:ys.drop (ys.length-1-q)=ys[ys.length-1-q]'(by omega)::ys.drop (ys.length-1-q+1):=A5 (by omega);by_cases h:i=xs.length-1-k/\j=ys.length-1-q
 ·obtain⟨rfl,rfl⟩:=h;rw[if_pos ⟨rfl,rfl⟩];have g:dU xs ys k (q+1) (xs.length-1-k) (ys.length-1-q)=eB (xs.drop (xs.length-1-k)) (ys.drop (ys.length-1-q)):=by unfold dU;grind
  have g1:dU xs ys k q (xs.length-1-k+1) (ys.length-1-q+1)=eB (xs.drop (xs.length-1-k+1)) (ys.drop (ys.length-1-q+1)):=by unfold dU;grind
  have g2:dU xs ys k q (xs.length-1-k+1) (ys.length-1-q)=eB (xs.drop (xs.length-1-k+1)) (ys.drop (ys.length-1-q)):=by unfold dU;grind
  have g3:dU xs ys k q (xs.length-1-k) (ys.length-1-q+1)=eB (xs.drop (xs.length-1-k)) (ys.drop (ys.length-1-q+1)):=by unfold dU;grind
  rw[g,g1,g2,g3,e1,e2,eB]
 ·rw[if_neg h];unfold dU
  grind
structure LnI(w:A3)(s1 s2:BY)(C:Nat)(V:Nat->Nat->Nat)(W:A3):Prop where
 box:W.heap[w.heap.size]? = some (.cells #[s2] 106 (0,0))
 left:W.heap[w.heap.size+2]? = some (.cells #[.map (some (w.heap.size+1))] 270 (0,0))
 bac:W.heap[w.heap.size+3]? = some (.cells #[s1] 106 (0,0))
 map:∃cnt D,cnt<=C/\W.ownsMap AI 273 IE (w.heap.size+1) cnt D/\Tb D V
 bel:Below w.heap.size w W
section
variable{w W W':A3}{s1 s2:BY}{C:Nat}{V:Nat->Nat->Nat}
theorem LnI.sz(h:LnI w s1 s2 C V W):w.heap.size+3<W.heap.size:=(AS.1 h.bac).1
theorem LnI.kept(h:LnI w s1 s2 C V W)(e1:W'.os=W.os)(e2:W'.tape=W.tape)(e3:W'.output=W.output)(e4:W.heap.size<=W'.heap.size)(e5:∀j,j<w.heap.size+4->W'.heap[j]? = W.heap[j]?):LnI w s1 s2 C V W':=by
 obtain⟨cnt,D,h1,h2,h3⟩:=h.map;exact⟨(e5 _ (by omega)).trans h.box,(e5 _ (by omega)).trans h.left,(e5 _ (by omega)).trans h.bac,⟨cnt,D,h1,E2 h2 (e5 _ (by omega)),h3⟩,⟨e1.trans h.bel.os,e2.trans h.bel.tape,e3.trans h.bel.output,A4 h.bel.size e4,fun k hk=>(e5 k (by omega)).trans (h.bel.block k hk)⟩⟩
theorem LnI.low(h:LnI w s1 s2 C V W)(hb:Below W.heap.size W W'):LnI w s1 s2 C V W':=h.kept hb.os hb.tape hb.output hb.size fun j hj=>hb.block j (by have:=h.sz;omega)
theorem LnI.as{C':Nat}{V':Nat->Nat->Nat}(h:LnI w s1 s2 C V W)(hC:C<=C')(he:∀i j,V i j=V' i j):LnI w s1 s2 C' V' W:=by
 obtain⟨cnt,D,h1,h2,h3⟩:=h.map;exact⟨h.box,h.left,h.bac,⟨cnt,D,by omega,h2,h3.as he⟩,h.bel⟩
theorem LnI.look(h:LnI w s1 s2 C V W)(hi:i<=1000000)(hj:j<=1000000)(hb:W'.heap[w.heap.size+1]? = W.heap[w.heap.size+1]?):
  (FD 270 (.map (some (w.heap.size+1))) (.agg #[.int .i64 i,.int .i64 j]) false).run AI W'=.ok (.int .i64 (V i j)) W':=by
 obtain⟨cnt,D,h1,h2,h3⟩:=h.map;exact Ja h2 h3 hi hj hb
theorem LnI.put(h:LnI w s1 s2 C V W)(hC:C<1000000000){a:Nat}(ha:a<=1000000)(hb:b<=1000000)(hv:v<=1000000):
  ∃W3,(Dt 270 (.map (some (w.heap.size+1))) (.agg #[.int .i64 a,.int .i64 b]) (.int .i64 v)).run AI W.drew=.ok () W3/\LnI w s1 s2 (C+1) (fun i j=>if i=a/\j=b then v else V i j) W3/\W.grownBy W3 (some (w.heap.size+1)):=by
 obtain⟨cnt,D,h1,h2,h3⟩:=h.map;have q0:W.drew.ownsMap AI 273 IE (w.heap.size+1) cnt D:=E2 h2 rfl;obtain⟨W3,D3,r1,r2,r3,r4⟩:=ZD q0 h3 (by omega) ha hb hv;have hs:=h.sz;have hg:W.grownBy W3 (some (w.heap.size+1)):=⟨r4.os,r4.tape,r4.output,r4.size,r4.block⟩
 have hk:∀j,j<w.heap.size+4->j≠w.heap.size+1->W3.heap[j]? = W.heap[j]?:=fun j hj hne=>hg.block j (by omega) (by grind);exact⟨W3,r1,⟨(hk _ (by omega) (by omega)).trans h.box,(hk _ (by omega) (by omega)).trans h.left,(hk _ (by omega) (by omega)).trans h.bac,by grind,⟨hg.os.trans h.bel.os,hg.tape.trans h.bel.tape,hg.output.trans h.bel.output,A4 h.bel.size hg.size,fun k q4=>(hk k (by omega) (by omega)).trans (h.bel.block k q4)⟩⟩,hg⟩
end
end
section
variable{d x:Int}
def fJ(d:Int)(v:To)(ops:List dX)(w:To):Prop:=∀ (k:Nat) (j0:List dX),∃j,Cc d k v j0 (ops.map jB)=.ok (w,j)
theorem fJ.nil(v:To):fJ d v [] v:=fun _ j0=>⟨j0,rfl⟩
theorem fJ.append{v u w:To}{a b:List dX}(h1:fJ d v a u)(h2:fJ d u b w):fJ d v (a++b) w:=fun k j0=>by
 obtain⟨j1,e1⟩:=h1 k j0;obtain⟨j2,e2⟩:=h2 (k+(a.map jB).length) j1;exact⟨j2,by rw[D0,O2,e1];exact e2⟩
theorem TZ{w:To}(h:dY d x top 1 w)(hs:dT top w<=20000):Fj d w=0:=by
 have h1:=J0 h;have h2:=(BT h).1
 grind [Fj]
theorem fJ.one{v w:To}{o:dX}{j:List dX}(hd:gW v (jB o)=.ok (w,j))(hw:eG d x 20000 w):fJ d v [o] w:=fun k j0=>by
 refine⟨j0++j,?_⟩;rw[Ft,List.map_nil,Cc,hd];simp only;rw[if_pos (TZ hw.gd hw.sz),Cc]
variable{s:List By}{D n n1:To}{q:List Nat}{f:Nat}{B:Nat}
theorem Dn(hD:eG d x B D)(hf:Ah D s=.ok n)(hq:A8 D s=some q)(q0:f+q.length=top)(hg:dY d x f (1+q.length) n1){c:Nat}(hs:dT f n1<=dT f n+c)(hc:dT top D+c<=B):
  eG d x B (As q n1 D)/\Ah (As q n1 D) s=.ok n1/\A8 (As q n1 D) s=some q/\dT top (As q n1 D)+dT f n=dT top D+dT f n1/\Bj q D=some n:=by
 obtain⟨g1,g2,g3⟩:=EM n1 hD.gd hf hq;have h1:dY d x (f+q.length) 1 D:=by rw[q0];exact hD.gd
 have h2:=KW h1 g3 hg;have h3:=Kn (n':=n1) h1 g3;rw[q0] at h2 h3;have h4:=hD.dd;have h5:=hD.sz;exact⟨⟨h2,h4,by omega⟩,g1,g2,h3,g3⟩
theorem MO{t:By}{a:To}:∀ {s:List By} {v:To},Ah v (s++[t])=.ok a -> ∃n,Ah v s=.ok n/\Aq n t=.ok a
 | [],v,h=>by
  refine⟨v,rfl,?_⟩;have h':(match Aq v t with
   | .ok e=>Ah e []
   | .error c=>.error c)=.ok a:=h
  cases hc:Aq v t with
  | error c=>rw[hc] at h';cases h'
  | ok e=>rw[hc] at h';exact h'
 | b::s,v,h=>by
  rw[Dp,Ah] at h;rw[Ah];cases hc:Aq v b with
  | error c=>rw[hc] at h;cases h
  | ok e=>
   rw[hc] at h;exact MO h
theorem Yj{dU:Int}{t:By}{a:To}(y:To)(hn:dY d x (f+1) dU n)(hp:gH n t=some i)(ha:(Bi n)[i]? = some a):He ((eZ t).getD 0) t y n=CM i y n:=by
 obtain⟨_,q4⟩:=hn;rcases q4 with⟨k,hk,rfl⟩|⟨s,hs,rfl⟩|⟨m,h1,h2,h3,rfl⟩|⟨es,h,rfl⟩|⟨es,h1,h2,rfl⟩
 ·cases hp
 ·cases hp
 ·cases hp
 ·have q0:(match eZ t with
   | none=>none
   | some i=>if i<es.length then some i else none)=some i:=hp
  cases hi:eZ t with
  | none=>rw[hi] at q0;cases q0
  | some j=>
   rw[hi] at q0;simp only at q0;split at q0
   ·injection q0 with q0;subst q0;rfl
   ·cases q0
 ·obtain⟨o,ho⟩:=Lx hp;exact (LX y ⟨h1,fun p hp=>let ⟨⟨s,e,_⟩,_⟩:=h2 p hp; ⟨s,e⟩⟩ ho).symm
theorem Zd(hD:eG d x B D)(hf:Ah D s=.ok n)(hq:A8 D s=some q)(y:To):EO D s y=.ok (As q y D,[(2,s,n)]):=by
 rcases List.eq_nil_or_concat s with rfl|⟨s',t,e⟩
 ·injection hf with hf;injection hq with hq;subst hf hq;rfl
 ·rw[List.concat_eq_append] at e;subst e;obtain⟨m,hm,hc⟩:=MO hf;obtain⟨q',g,q7,q6,q0,q5,_⟩:=Co hD hm;obtain⟨i,hi,q4⟩:=Gq q5 hc;have e2:=Iy q6 q0 hi q4;rw[hq] at e2;injection e2 with e2;subst e2;unfold EO;rw[Er];simp only[hm,hc,Im q6];rw[Io q0 q4,Yj y q5 hi q4]
noncomputable def fM:Nat->List To->List To->List To
 | 0,_,_=>[]
 | _+1,[],_=>[]
 | _+1,_::_,[]=>[]
 | n+1,x::a,y::b=>if eB a (y::b)=eB (x::a) (y::b) then fM n a (y::b)
   else if eB (x::a) b=eB (x::a) (y::b) then fM n (x::a) b
   else x::fM n a b
def ER(f:Nat)(l:List To):Nat:=(l.map fun e=>dT f e+1).sum
theorem Pm(f:Nat)(a b:List To):ER f (a++b)=ER f a+ER f b:=by unfold ER;rw[D0,List.sum_append]
theorem CZ(f:Nat)(a:To)(b:List To):ER f (a::b)=dT f a+1+ER f b:=by unfold ER;rw[Ft,List.sum_cons]
theorem EE(f:Nat)(es:List To):dT (f+1) (Af es)=2+ER f es:=GH f es
theorem Wy{b:List To}{x:To}(h1:¬ eB a (y::b)=eB (x::a) (y::b))(h2:¬ eB (x::a) b=eB (x::a) (y::b)):x=y:=by
 by_cases hv:veq x y=true
 ·unfold veq at hv;exact @of_decide_eq_true _ (Classical.propDecidable _) hv
 ·exfalso
  have e:eB (x::a) (y::b)=max (eB a (y::b)) (eB (x::a) b):=by
   conv=>lhs;rw[eB]
   rw[if_neg hv]
  omega
theorem EK{dU:Int}:dY d x (f+1) dU (Af es)<->dU<=d /\ ∀e∈es,dY d x f (dU+1) e:=by
 constructor
 ·rintro⟨h0,h⟩;refine⟨h0,?_⟩;rcases h with⟨k,hk,e⟩|⟨s,hs,e⟩|⟨m,h1,h2,h3,e⟩|⟨es',h,e⟩|⟨es',h1,h2,e⟩
  ·cases e
  ·cases e
  ·cases e
  ·injection e with e;subst e;exact h
  ·cases e
 ·rintro⟨h0,h⟩;exact⟨h0,F7 (F7 (F7 (F5 ⟨es,h,rfl⟩)))⟩
theorem lH{e:To}(hi:i<=1000000000000)(he:es[i]? = some e):Aq (Af es) (C1 (i:Int))=.ok e:=by
 show (match eZ (C1 (i:Int)) with
  | none=>F2 12
  | some i=>match es[i]? with
   | some e=>.ok e
   | none=>.error 11)=.ok e
 rw[Ho i hi];simp only[he]
theorem Xd(hq:A8 D s=some q){e:To}(hf:Ah D s=.ok (Af es))(hi:i<=1000000000000)(he:es[i]? = some e):CU D (Ca s i)=.ok (As q (Af (fC i es)) D,[(0,Ca s i,e)]):=by
 unfold CU Ca;rw[Er];simp only[hf,lH hi he,Im hq,Ho i hi,Option.getD_some];rfl
theorem Xk(hq:A8 D s=some q)(hf:Ah D s=.ok (Af es))(hi:i<=es.length)(hl:es.length<=1000000000):Cq D (Ca s i) y=.ok (As q (Af (fN i y es)) D,[(1,Ca s i,.nil)]):=by
 unfold Cq Ca;rw[Er];simp only[hf];have hsl:D4 es.length (C1 (i:Int))=.ok i:=by
  unfold D4;rw[if_neg (by
   intro e;have h:=Ho i (by omega);rw[e] at h;cases h),Ho i (by omega)]
  simp only
  rw[if_neg (by omega)]
 show (match D4 es.length (C1 (i:Int)) with
  | .error c=>F2 c
  | .ok i=>.ok (As (iL D s) (FT i iY y (Af es)) D,[((1,s++[C1 (i:Int)],.nil):dX)]))=_
 rw[hsl,Im hq];rfl
end
section
variable{d x:Int}{s:List By}{q:List Nat}{f:Nat}
theorem IW:∀ (m:Nat) (a:List To),fM m a []=[]
 | 0,_=>rfl
 | _+1,[]=>rfl
 | _+1,_::_=>rfl
theorem J9:∀ (m:Nat) (b:List To),fM m [] b=[]
 | 0,_=>rfl
 | _+1,_=>rfl
theorem Ww(q0 a:List To)(y:To):fC q0.length (q0++y::a)=q0++a:=by
 unfold fC;rw[D2,show q0.length+1=(q0++[y]).length by simp,show q0++y::a=(q0++[y])++a by simp,E0]
theorem Wu(q0 a:List To)(y:To):fN q0.length y (q0++a)=q0++y::a:=by
 unfold fN;rw[D2,E0]
theorem Y2(q0 a:List To)(y:To):(q0++y::a)[q0.length]? = some y:=by
 rw[List.getElem?_append_right (CH _),F1];rfl
theorem Qm{D:To}{q0:List To}(hD:eG d x 20000 D)(hf:Ah D s=.ok (Af (q0++y::a)))(hq:A8 D s=some q)(q4:f+1+q.length=top):
  fJ d D [(1,Ca s q0.length,.nil)] (As q (Af (q0++a)) D)/\eG d x 20000 (As q (Af (q0++a)) D)/\Ah (As q (Af (q0++a)) D) s=.ok (Af (q0++a))/\A8 (As q (Af (q0++a)) D) s=some q/\Bj q D=some (Af (q0++y::a))/\dT top (As q (Af (q0++a)) D)<=dT top D:=by
 obtain⟨q',f',q5,qd,qb,q6,q9,_⟩:=Co hD hf;obtain rfl:q=q':=by grind
 obtain rfl:f=f':=by omega
 obtain⟨h0,hg⟩:=EK.1 q6;have q7:(q0++y::a).length<=20000:=A4 (GQ (v:=Af (q0++y::a)) (f:=f)) q9;have q8:dT (f+1) (Af (q0++a))<=dT (f+1) (Af (q0++y::a)):=by
  grind [EE,Pm,CZ]
 obtain⟨n1,n2,n3,n4,n5⟩:=Dn (n1:=Af (q0++a)) hD hf hq q4 (EK.2 (by grind)) (c:=0) q8 (by have:=hD.sz;omega);have hl:q0.length<=20000:=by grind
 have hr:=Xd hq hf (i:=q0.length) (by omega) (Y2 q0 a y);rw[Ww] at hr;exact⟨fJ.one (o:=(1,Ca s q0.length,.nil)) hr n1,n1,n2,n3,n5,by omega⟩
theorem Fz(q4:f+1+q.length=top):∀ (m:Nat) (a b:List To) (k j:Nat) (q0:List To) (D:To),a.length+b.length<=m->q0.length=k->eG d x 20000 D->Ah D s=.ok (Af (q0++a))->A8 D s=some q ->
  fJ d D ((eJ m a b k j).1.map fun (i:Nat)=>((1,Ca s i,.nil):dX)) (As q (Af (q0++fM m a b)) D)
 | 0,a,b,k,j,q0,D,hm,hk,hD,hf,hq=>by
  obtain rfl:a=[]:=A2 (by omega);obtain⟨_,_,g3⟩:=EM (Af (q0++[])) hD.gd hf hq;show fJ d D [] (As q (Af (q0++[])) D);rw[Di q g3];exact fJ.nil D
 | m+1,[],[],k,j,q0,D,hm,hk,hD,hf,hq=>by
  obtain⟨_,_,g3⟩:=EM (Af (q0++[])) hD.gd hf hq;show fJ d D [] (As q (Af (q0++[])) D);rw[Di q g3];exact fJ.nil D
 | m+1,y::a,[],k,j,q0,D,hm,hk,hD,hf,hq=>by
  subst hk;obtain⟨h1,h2,h3,h4,h5,_⟩:=Qm hD hf hq q4;have ih:=Fz q4 m a [] q0.length j q0 _ (by grind) rfl h2 h3 h4;rw[DZ q _ _ h5,IW] at ih;rw[IW];exact h1.append ih
 | m+1,[],z::b,k,j,q0,D,hm,hk,hD,hf,hq=>by
  have ih:=Fz q4 m [] b k (j+1) q0 D (by grind) hk hD hf hq;rw[J9] at ih |-;exact ih
 | m+1,y::a,z::b,k,j,q0,D,hm,hk,hD,hf,hq=>by
  simp only[A1] at hm;by_cases h1:eB a (z::b)=eB (y::a) (z::b)
  ·have e1:eJ (m+1) (y::a) (z::b) k j=((k::(eJ m a (z::b) k j).1),(eJ m a (z::b) k j).2):=by rw[eJ,if_pos h1]
   have e2:fM (m+1) (y::a) (z::b)=fM m a (z::b):=by rw[fM,if_pos h1]
   rw[e1,e2];subst hk;obtain⟨g1,g2,g3,g4,g5,_⟩:=Qm hD hf hq q4;have ih:=Fz q4 m a (z::b) q0.length j q0 _ (by grind) rfl g2 g3 g4;rw[DZ q _ _ g5] at ih;exact g1.append ih
  ·by_cases h2:eB (y::a) b=eB (y::a) (z::b)
   ·have e1:eJ (m+1) (y::a) (z::b) k j=((eJ m (y::a) b k (j+1)).1,j::(eJ m (y::a) b k (j+1)).2):=by rw[eJ,if_neg h1,if_pos h2]
    have e2:fM (m+1) (y::a) (z::b)=fM m (y::a) b:=by rw[fM,if_neg h1,if_pos h2]
    rw[e1,e2];exact Fz q4 m (y::a) b k (j+1) q0 D (by grind) hk hD hf hq
   ·have e1:eJ (m+1) (y::a) (z::b) k j=eJ m a b (k+1) (j+1):=by rw[eJ,if_neg h1,if_neg h2]
    have e2:fM (m+1) (y::a) (z::b)=y::fM m a b:=by rw[fM,if_neg h1,if_neg h2]
    rw[e1,e2];have ih:=Fz q4 m a b (k+1) (j+1) (q0++[y]) D (by omega) (by simp;omega) hD (by grind) hq
    grind
theorem Rf{D:To}{q0:List To}(hD:eG d x 20000 D)(hf:Ah D s=.ok (Af (q0++a)))(hq:A8 D s=some q)(q4:f+1+q.length=top)(hy:dY d x f (1+(q.length:Int)+1) y)(hs:dT top D+(dT f y+1)<=20000):
  fJ d D [(0,Ca s q0.length,y)] (As q (Af (q0++y::a)) D)/\eG d x 20000 (As q (Af (q0++y::a)) D)/\Ah (As q (Af (q0++y::a)) D) s=.ok (Af (q0++y::a))/\A8 (As q (Af (q0++y::a)) D) s=some q/\Bj q D=some (Af (q0++a))/\dT top (As q (Af (q0++y::a)) D)<=dT top D+(dT f y+1):=by
 obtain⟨q',f',q5,qb,q9,q6,q8,_⟩:=Co hD hf;obtain rfl:q=q':=by grind
 obtain rfl:f=f':=by omega
 obtain⟨h0,hg⟩:=EK.1 q6;have q7:(q0++a).length<=20000:=A4 (GQ (v:=Af (q0++a)) (f:=f)) q8;have qd:dT (f+1) (Af (q0++y::a))=dT (f+1) (Af (q0++a))+(dT f y+1):=by
  grind [EE,Pm,CZ]
 obtain⟨n1,n2,n3,n4,n5⟩:=Dn (n1:=Af (q0++y::a)) hD hf hq q4 (EK.2 (by grind)) (c:=dT f y+1) (by omega) (by omega);have hr:=Xk hq (y:=y) hf (i:=q0.length) (by grind) (by omega);rw[Wu] at hr;exact⟨fJ.one (o:=(0,Ca s q0.length,y)) hr n1,n1,n2,n3,n5,by omega⟩
theorem GY(q5:f+1+q.length=top){bs:List To}(q4:∀e∈bs,dY d x f (1+(q.length:Int)+1) e):∀ (m:Nat) (a b:List To) (k j:Nat) (q0:List To) (D:To),a.length+b.length<=m->q0.length=j->bs=q0++b->eG d x 20000 D->Ah D s=.ok (Af (q0++fM m a b))->A8 D s=some q->dT top D+ER f b<=20000 ->
  fJ d D ((eJ m a b k j).2.map fun (i:Nat)=>((0,Ca s i,(bs[i]?).getD .nil):dX)) (As q (Af bs) D)
 | 0,a,b,k,j,q0,D,hm,hk,hb,hD,hf,hq,hs=>by
  obtain rfl:b=[]:=A2 (by omega);obtain⟨_,_,g3⟩:=EM (Af bs) hD.gd hf hq;have e:q0++fM 0 a []=bs:=by rw[hb];rfl
  rw[e] at g3;show fJ d D [] _;rw[Di q g3];exact fJ.nil D
 | m+1,a,[],k,j,q0,D,hm,hk,hb,hD,hf,hq,hs=>by
  obtain⟨_,_,g3⟩:=EM (Af bs) hD.gd hf hq;have e:q0++fM (m+1) a []=bs:=by rw[hb,IW]
  rw[e] at g3;have e2:∀ (m:Nat) (a:List To) (k j:Nat),(eJ m a [] k j).2=[]:=by
   intro m;induction m with
   | zero=>intro a k j;rfl
   | succ m ih=>
    intro a k j;cases a with
    | nil=>rfl
    | cons y a=>exact ih a k j
  rw[e2,Di q g3];exact fJ.nil D
 | m+1,[],z::b,k,j,q0,D,hm,hk,hb,hD,hf,hq,hs=>by
  subst hk;rw[J9] at hf;have hz:(bs[q0.length]?).getD .nil=z:=by grind
  rw[CZ] at hs;obtain⟨g1,g2,g3,g4,g5,g6⟩:=Rf hD hf hq q5 (q4 z (by rw[hb];simp)) (by omega);have ih:=GY q5 q4 m [] b k (q0.length+1) (q0++[z]) _ (by grind) (by simp) (by grind) g2 (by rw[J9];grind) g4 (by omega);rw[DZ q _ _ g5] at ih;show fJ d D ((0,Ca s q0.length,(bs[q0.length]?).getD .nil)::_) _;rw[hz];exact g1.append ih
 | m+1,y::a,z::b,k,j,q0,D,hm,hk,hb,hD,hf,hq,hs=>by
  subst hk;simp only[A1] at hm;have hz:(bs[q0.length]?).getD .nil=z:=by grind
  rw[CZ] at hs;by_cases h1:eB a (z::b)=eB (y::a) (z::b)
  ·have e1:eJ (m+1) (y::a) (z::b) k q0.length=((k::(eJ m a (z::b) k q0.length).1),(eJ m a (z::b) k q0.length).2):=by rw[eJ,if_pos h1]
   have e2:fM (m+1) (y::a) (z::b)=fM m a (z::b):=by rw[fM,if_pos h1]
   rw[e2] at hf;rw[e1];exact GY q5 q4 m a (z::b) k q0.length q0 D (by grind) rfl hb hD hf hq (by rw[CZ];omega)
  ·by_cases h2:eB (y::a) b=eB (y::a) (z::b)
   ·have e1:eJ (m+1) (y::a) (z::b) k q0.length=((eJ m (y::a) b k (q0.length+1)).1,q0.length::(eJ m (y::a) b k (q0.length+1)).2):=by rw[eJ,if_neg h1,if_pos h2]
    have e2:fM (m+1) (y::a) (z::b)=fM m (y::a) b:=by rw[fM,if_neg h1,if_pos h2]
    rw[e2] at hf;rw[e1];obtain⟨g1,g2,g3,g4,g5,g6⟩:=Rf hD hf hq q5 (q4 z (by rw[hb];simp)) (by omega);have ih:=GY q5 q4 m (y::a) b k (q0.length+1) (q0++[z]) _ (by grind) (by simp) (by grind) g2 (by grind) g4 (by omega);rw[DZ q _ _ g5] at ih;show fJ d D ((0,Ca s q0.length,(bs[q0.length]?).getD .nil)::_) _;rw[hz];exact g1.append ih
   ·have e1:eJ (m+1) (y::a) (z::b) k q0.length=eJ m a b (k+1) (q0.length+1):=by rw[eJ,if_neg h1,if_neg h2]
    have e2:fM (m+1) (y::a) (z::b)=y::fM m a b:=by rw[fM,if_neg h1,if_neg h2]
    have q6:=Wy h1 h2;rw[e2,q6] at hf;rw[e1];exact GY q5 q4 m a b (k+1) (q0.length+1) (q0++[z]) D (by omega) (by simp) (by grind) hD (by grind) hq (by omega)
theorem UW{D:To}{b:List To}(q0:f+1+q.length=top)(hb:∀e∈b,dY d x f (1+(q.length:Int)+1) e)(hD:eG d x 20000 D)(hf:Ah D s=.ok (Af a))(hq:A8 D s=some q)(hs:dT top D+ER f b<=20000):fJ d D (B6 s a b) (As q (Af b) D):=by
 have h1:=Fz q0 (a.length+b.length) a b 0 0 [] D (CH _) rfl hD hf hq;rw[DD] at h1;obtain⟨q',f',q5,q9,q7,q6,qb,_⟩:=Co hD hf;obtain rfl:q=q':=by grind
 obtain rfl:f=f':=by omega
 obtain⟨h0,hg⟩:=EK.1 q6;have q4:∀ (m:Nat) (a b:List To),(∀e∈fM m a b,e∈a)/\ER f (fM m a b)<=ER f a:=by
  intro m;induction m with
  | zero=>intro a b;exact⟨fun e he=>(by cases he),A6 _⟩
  | succ m ih=>
   intro a b
   match a,b with
   | [],_=>exact⟨fun e he=>(by cases he),A6 _⟩
   | _::_,[]=>exact⟨fun e he=>(by cases he),A6 _⟩
   | y::a,z::b=>
    rw[fM];split
    ·obtain⟨i1,i2⟩:=ih a (z::b);exact⟨fun e he=>CL _ (i1 e he),by rw[CZ];omega⟩
    ·split
     ·exact ih (y::a) b
     ·obtain⟨i1,i2⟩:=ih a b;refine⟨fun e he=>?_,by rw[CZ,CZ];omega⟩;rcases List.mem_cons.1 he with rfl|he
      ·exact List.mem_cons_self
      ·exact CL _ (i1 e he)
 obtain⟨c1,c2⟩:=q4 (a.length+b.length) a b;obtain⟨n1,n2,n3,n4,n5⟩:=Dn (n1:=Af (fM (a.length+b.length) a b)) hD hf hq q0 (EK.2 (by grind)) (c:=0) (by rw[EE,EE];omega) (by omega);have q8:dT (f+1) (Af (fM (a.length+b.length) a b))<=dT (f+1) (Af a):=by rw[EE,EE];omega
 have h2:=GY q0 hb (a.length+b.length) a b 0 0 [] _ (CH _) rfl rfl n1 (by grind) n3 (by omega);rw[DZ q _ _ n5] at h2;exact h1.append h2
end
end Go.Proofs.YtdpomdelmdofmaaGreatDoor
