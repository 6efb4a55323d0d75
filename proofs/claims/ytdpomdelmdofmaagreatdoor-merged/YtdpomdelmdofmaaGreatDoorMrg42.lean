/-
  A loop over a function whose turns come in one order, within a round of another.
-/
import Derived.Test.YtdpomdelmdofmaaGreatDoorMrg24
import Derived.RangeFuncNested
import Derived.Test.YtdpomdelmdofmaaGreatDoorMrg27
import Derived.Test.YtdpomdelmdofmaaGreatDoorMrg16
import Derived.OrdersIn
namespace Go.Proofs.YtdpomdelmdofmaaGreatDoor
section
open Go.RowKit
theorem range_turns_in {P:Program} {g:Operand} {ps:Array Tmp} {assign body:Code} {Q:Exit→Act→World→Prop} {a:Act} {w:World} {gf:Nat} {lb:Array Value} {l₀:Nat} {r₀:Loop} (hl₀:w.heap[l₀]? = some (.loop r₀))
  (hg:a.eval g = .func (.func gf) #[] lb) (eg:∀args w,(callFunc gf args).run P w = .ok (.enter gf args) w) (N:Nat) (arg:Nat→Array Value) (hps:∀k,(arg k).size=ps.size) (I:Nat→World→Prop) (A:Nat→Act→World→Prop)
  (hI:∀k,Apart2 w.heap.size (I k)) (hA:∀k a',Apart2 w.heap.size (A k a')) (h0:I 0 w)
  (hiter:∀ (l:Nat) (J:Nat→World→Prop) (W:World),(∀k W,J k W→I k W)→(∀k W,k<N→J k W→YieldAt Fence.wide 0 P l (arg k) W fun e W'=>e = .returned (.bool true)∧J (k+1) W')→J 0 W →
   CallsIn Fence.wide 0 P gf (#[.func (.yield l) #[] #[]]++lb) W fun e W'=>(∃v,e = .returned v)∧J N W')
  (hassign:∀l k W,k<N→I k W→w.heap.size<W.heap.size→assign.wpIn (Fence.wide.inRound l) 0 P (fun e a' W'=>e = .normal∧W'.heap[w.heap.size]? = W.heap[w.heap.size]? ∧ A k a' W') { tmps:=(ps.zip (arg k)).foldl (fun t (p,v)=>t.setIfInBounds p v) a.tmps,defers:=[] } W)
  (hbody:∀l k a' W,k<N→A k a' W→w.heap.size<W.heap.size→body.wpIn (Fence.wide.inRound l) 0 P (fun e _ W'=>e = .normal∧W'.heap[w.heap.size]? = W.heap[w.heap.size]? ∧ I (k+1) W') a' W)
  (hdone:∀W,I N W→Q .normal a W) :
  (Code.rangeFunc g ps assign body).wpIn (Fence.wide.inRound l₀) 0 P Q a w:=by
 refine wpIn_rangeFunc fun fn hfn=>?_
 obtain⟨B,hB⟩:∃B,B=w.heap.size:=⟨_,rfl⟩
 obtain⟨rc,hrc⟩:∃rc:LoopState→Loop,rc=fun st=>{ state:=st,pending:=none,fn,tmps:=a.tmps,params:=ps,assign,body,defers:=r₀.defers }:=⟨_,rfl⟩
 obtain⟨W1,hW1⟩:∃W1,W1=w.alloc (.loop (rc .ready)):=⟨_,rfl⟩
 have t1:W1.heap[B]? = some (.loop (rc .ready)):=by rw[hW1,hB];exact World.alloc_heap_new w _
 have i1:I 0 W1:=hI 0 w W1 h0 (by rw[hW1];rfl) (by rw[hW1];rfl) (by rw[hW1];rfl) (by rw[hW1];simp) fun j hj _ _=>by rw[hW1];exact Below.heap_alloc w _ j hj
 rw[← hB] at hI hA hassign hbody
 refine⟨B,[],W1,{ target:=.fn (.func gf) lb,args:=#[.func (.yield B) #[] #[]] },W1,gf,#[.func (.yield B) #[] #[]]++lb,W1,?_,?_,?_,?_,?_,?_⟩
 ·rw[hW1,hrc,hB];exact run_enterLoop_inner hl₀ _ _ _ _ _
 ·simp only[resolve,hg]
  simp[go_sem]
 ·intro f' _;exact trivial
 ·simp[invoke,go_sem,eg]
 ·intro h;cases h
 ·refine CallsIn.mono (CallsIn.inRound l₀ (hiter B (fun k W=>I k W∧W.heap[B]? = some (.loop (rc .ready))) W1 (fun k W h=>h.1) ?_ ⟨i1,t1⟩)) ?_
  ·rintro k W hk ⟨hi,hl⟩
   have hy:=run_yield (P:=P) (args:=arg k) hl (by rw[hrc];exact hps k)
   rw[hrc] at hy
   refine⟨fn,_,assign,body,hy,roundIn_of_wpIn hfn (wpIn_mono (hassign B k W hk hi (Array.getElem?_eq_some_iff.1 hl).1) ?_)⟩
   rintro e a' Wa ⟨rfl,hta,ha⟩
   have hla:=hta.trans hl
   have hlt:=(Array.getElem?_eq_some_iff.1 hla).1
   refine⟨_,run_beginRound hla (by rw[hrc]),wpIn_mono (hbody B k a' _ hk ((hA k a').put ha (Or.inl rfl) _) (by simp[World.putObj];omega)) ?_⟩
   rintro e a3 W3 ⟨rfl,ht3,hi3⟩
   have l3:W3.heap[B]? = some (.loop { rc .ready with state:=.busy }):=ht3.trans (World.putObj_heap_same hlt)
   have hr:=run_endRound (P:=P) none l3
   refine⟨_,_,hr,rfl,(hI (k+1)).put hi3 (Or.inl rfl) _,?_⟩
   refine (World.putObj_heap_same (Array.getElem?_eq_some_iff.1 l3).1).trans ?_
   rw[hrc];rfl
  ·rintro e W2 ⟨⟨v,rfl⟩,hi,hl⟩
   have hend:=run_endLoop (P:=P) hl (by rw[hrc];simp)
   exact⟨none,_,by rw[hend,hrc],hdone _ ((hI N).put hi (Or.inl rfl) _)⟩
end

section
set_option maxRecDepth 100000
set_option maxHeartbeats 4000000
open Go.RowKit Go.Maps
attribute [local go_sem] Oper.semAt_some
def pv (i j:Nat):Value:=.agg #[.int .i64 i,.int .i64 j]
def plit (i j:Nat):Lit:=.string (keyBytes [.int .i64 i,.int .i64 j])
theorem prow:(273:TypeId)<Tryz.prog.types.size:=of_decide_eq_true (by kernel_rfl)
theorem pka:Tryz.prog.keyTypeAt 2 273=true:=by kernel_rfl
theorem plaw:Keyed Tryz.prog 273:=Keyed.of_law (deep_law_laid nlaid (m:=2) (by omega) prow pka (by rw[Tryz.underlying273]))
theorem pkl (i j:Nat):WideAt.IsKeyLit (plit i j):=by unfold plit;exact trivial
theorem pkt:Tryz.prog.keyType 273=true:=by kernel_rfl
theorem pcells:Tryz.prog.cellsOf 273=2:=by kernel_rfl
theorem pci:Tryz.prog.cellsOf 3=1:=by kernel_rfl
theorem iwf {k:Nat} (hk:k≤1000000):(Lit.int .i64 (k:Int)).wf=true:=by
 have h1:IntKind.i64.min = -9223372036854775808:=by decide
 have h2:IntKind.i64.max=9223372036854775807:=by decide
 simp only[Lit.wf,h1,h2,Bool.and_eq_true,decide_eq_true_eq]
 omega
theorem pkey (i j:Nat) (hi:i≤1000000) (hj:j≤1000000):keyOf Tryz.prog 273 (pv i j)=some (plit i j):=by
 obtain⟨m,hm⟩:=nsz
 have h1:=iwf hi
 have h2:=iwf hj
 unfold keyOf pv plit
 rw[Tryz.underlying273]
 simp only[pkt,Value.formed,Tryz.underlying273,pcells,hm]
 simp[Program.keyLits,Tryz.underlying273,Tryz.underlying3,pcells,pci,Value.cells,h1,h2]
theorem plit_inj {i j a b:Nat} (h1:i≤1000000) (h2:j≤1000000) (h3:a≤1000000) (h4:b≤1000000) (h:plit i j=plit a b):i=a∧j=b:=by
 have:=plaw.inj (pkey i j h1 h2) (h▸pkey a b h3 h4)
 unfold pv at this
 simp at this
 omega
noncomputable abbrev IE (v:Value):Option (DataW Value×List MemPlace):=plainElem Tryz.prog 3 v
theorem ielem {k:Nat} (hk:k≤1000000):IE (.int .i64 k)=some (.lit (.int .i64 k),[]):=plainElem_int Tryz.underlying3 (iwf hk)
theorem izero (w:World):(zeroValue 3).run Tryz.prog w = .ok (.int .i64 0) w:=by kernel_rfl
structure Tb (D:DataW Value) (V:Nat→Nat→Nat):Prop where
 map:IsMap D
 vals:∀i j,i≤1000000→j≤1000000→D.atKey (plit i j) (.lit (.int .i64 0)) = .lit (.int .i64 (V i j))
theorem Tb.put {D:DataW Value} {V:Nat→Nat→Nat} (h:Tb D V) {a b v:Nat} (ha:a≤1000000) (hb:b≤1000000):Tb (D.put (plit a b) (.lit (.int .i64 v))) (fun i j=>if i=a∧j=b then v else V i j):=by
 refine⟨h.map.put _ _,fun i j hi hj=>?_⟩
 by_cases e:i=a∧j=b
 ·obtain⟨rfl,rfl⟩:=e
  rw[if_pos ⟨rfl,rfl⟩]
  exact atKey_put_same h.map (pkl _ _) _ _
 ·rw[if_neg e,atKey_put_other (fun h2=>e (plit_inj hi hj ha hb h2))]
  exact h.vals i j hi hj
theorem Tb.as {D:DataW Value} {V V':Nat→Nat→Nat} (h:Tb D V) (he:∀i j,V i j=V' i j):Tb D V':=by
 have:V=V':=by funext i j;exact he i j
 subst this;exact h
theorem tmap_kept {w w':World} {m n:Nat} {D:DataW Value} (h:w.ownsMap Tryz.prog 273 IE m n D) (hk:w'.heap[m]? = w.heap[m]?):w'.ownsMap Tryz.prog 273 IE m n D:=by
 obtain⟨es,clock,hb,r⟩:=h;exact⟨es,clock,hk.trans hb,r⟩
theorem tb_look {w:World} {m n:Nat} {D:DataW Value} {V:Nat→Nat→Nat} (ho:w.ownsMap Tryz.prog 273 IE m n D) (h:Tb D V) {i j:Nat} (hi:i≤1000000) (hj:j≤1000000) {w':World} (hb:w'.heap[m]? = w.heap[m]?) :
  (Instr.lookup 270 (.map (some m)) (.agg #[.int .i64 i,.int .i64 j]) false).run Tryz.prog w' = .ok (.int .i64 (V i j)) w':=by
 obtain⟨v1,ps1,r1,q1⟩:=(tmap_kept ho hb).lookup plaw Tryz.underlying270 (izero w') (zd:=.lit (.int .i64 0)) (zp:=[]) (ielem (k:=0) (by omega)) (pkey i j hi hj)
 rw[h.vals i j hi hj] at q1
 obtain⟨c,e1,e2,_⟩:=plainElem_int_inv Tryz.underlying3 q1
 have e3:(DataW.lit (.int .i64 (V i j:Int)):DataW Value) = .lit (.int .i64 c):=congrArg Prod.fst e2
 have e4:v1 = .int .i64 (V i j:Int):=by
  rw[e1]
  rw[(Lit.int.inj (DataW.lit.inj e3)).2]
 rw[e4] at r1
 exact r1
theorem tb_put {w:World} {m n:Nat} {D:DataW Value} {V:Nat→Nat→Nat} (ho:w.ownsMap Tryz.prog 273 IE m n D) (h:Tb D V) (hn:n≤1000000000) {a b v:Nat} (ha:a≤1000000) (hb:b≤1000000) (hv:v≤1000000) :
  ∃w3 D3,(Instr.mapUpdate 270 (.map (some m)) (.agg #[.int .i64 a,.int .i64 b]) (.int .i64 v)).run Tryz.prog w = .ok () w3∧w3.ownsMap Tryz.prog 273 IE m (n+1) D3∧Tb D3 (fun i j=>if i=a∧j=b then v else V i j)∧w.grownBy w3 (some m):=by
 obtain⟨w3,hrun,ho3,hg⟩:=ho.update plaw Tryz.underlying270 (by unfold maxLen;omega) (pkey a b ha hb) (val:=.int .i64 v) (d:=.lit (.int .i64 v)) (ps:=[]) (ielem hv)
 exact⟨w3,_,hrun,ho3,h.put ha hb,hg⟩
theorem back1V_in {l Bs g N cap:Nat} {ao:Option Addr} {c:Nat→Option Addr} {J:Nat→World→Prop} {W:World} (hN:N≤maxLen) (hao:0<N→ao=some ⟨g,0,none⟩)
  (hJ:∀k W,J k W→W.cell? ⟨Bs,0,none⟩=some (.slice ao N cap) ∧ ∀j,j<N→W.cell? ⟨g,j,none⟩=some (.pointer (c j)))
  (hY:∀k W,k<N→J k W→YieldAt Fence.wide 0 Tryz.prog l #[.int .i64 ((N-1-k:Nat):Int),.pointer (c (N-1-k))] W fun e W'=>e = .returned (.bool true)∧J (k+1) W') (h0:J 0 W) :
  CallsIn Fence.wide 0 Tryz.prog 292 (#[.func (.yield l) #[] #[]] ++ #[.pointer (some ⟨Bs,0,none⟩)]) W fun e W'=>(∃v,e = .returned v)∧J N W':=by
 have HJ:=hide hJ
 have HY:=hide hY
 have HAO:=hide hao
 have hb0:=(hJ 0 W h0).1
 have H0:=hide h0
 unfold maxLen at hN
 have w1:IntKind.i64.wrap ((N:Int)-1)=(N:Int)-1:=by rw[IntKind.wrap_i64];omega
 clear hJ hY h0 hao
 refine callsIn_of_wp Tryz.func292 rfl trivial ?_ rfl
 simp only[Tryz.ntmps292,List.size_toArray,List.length_cons,List.length_nil,Nat.reduceAdd,Nat.reduceSub,Array.replicate_succ,Array.replicate_zero,List.push_toArray,List.append_toArray,List.nil_append,List.cons_append]
 gi_wp2
 gi_loopw [3] (fun i wr=>∃r:Nat,r≤N∧i = .int .i64 ((r:Int)-1)∧J (N-r) wr) (fun i _=>((intOf i)+1).toNat)
 case atStart=>exact⟨N,Nat.le_refl _,rfl,by rw[Nat.sub_self];exact unhide H0⟩
 case round =>
  obtain⟨r,hr,rfl,hj⟩:=hrel
  cases r with
  | zero =>
   have HJ2:=hide hj
   clear hj
   gi_wp2
   go_end0
   exact⟨⟨_,rfl⟩,unhide HJ2⟩
  | succ i =>
   obtain⟨hb,hc⟩:=unhide HJ _ _ hj
   obtain rfl:=unhide HAO (by omega)
   have e1:(((i+1:Nat):Int)-1)=(i:Int):=by omega
   have hk:N-(i+1)<N:=by omega
   have e2:N-1-(N-(i+1))=i:=by omega
   have e3:N-(i+1)+1=N-i:=by omega
   have c0:=hc i (by omega)
   obtain⟨fn,tmps,assign,body,hy,hR⟩:=unhide HY _ _ hk hj
   rw[e2] at hy
   rw[e3] at hR
   have HR:=hide hR
   have hlt:(i:Int)<(N:Int):=by omega
   have hge:(0:Int)≤(i:Int):=by omega
   have w2:IntKind.i64.wrap ((i:Int)-1)=(i:Int)-1:=by rw[IntKind.wrap_i64];omega
   rw[e1]
   clear hj hc hR e1 e2 e3
   gi_wp2
   refine⟨rfl,(unhide HR).mono ?_⟩
   rintro e W3 ⟨rfl,hJ3⟩
   have HJ3:=hide hJ3
   clear hJ3
   gi_wp2
   go_roundw
   case rel=>exact⟨i,by omega,rfl,unhide HJ3⟩
   case measure=>simp[intOf]
theorem backV_any {a:Option Addr} {n cap:Nat} {w:World}:Calls Tryz.prog 254 #[.slice a n cap] w fun e w'=>e = .returned (.func (.func 292) #[] #[.pointer (some ⟨w.heap.size,0,none⟩)])∧w'=w.alloc (.cells #[.slice a n cap] 106):=by
 go_enter Tryz.func254,Tryz.ntmps254
 go_wp2_with (fail)
 go_ret
 exact⟨rfl,rfl⟩
end

section
open Go.RowKit Go.Maps
namespace Sp
theorem lcs_nil:∀a:List V,lcs a []=0
 | []=>by rw[lcs]
 | x::a=>by rw[lcs]
theorem lcs_le:∀a b:List V,lcs a b≤a.length
 | [],b=>by rw[lcs];exact Nat.zero_le _
 | x::a,[]=>by rw[lcs];exact Nat.zero_le _
 | x::a,y::b=>by
  have h1:=lcs_le a b
  have h2:=lcs_le a (y::b)
  have h3:=lcs_le (x::a) b
  rw[lcs]
  simp only[List.length_cons] at *
  split<;>omega
termination_by a b=>a.length+b.length
noncomputable def lv (xs ys:List V) (k q i j:Nat):Nat:=if xs.length≤i+k∨(xs.length=i+k+1∧ys.length≤j+q) then lcs (xs.drop i) (ys.drop j) else 0
variable {xs ys:List V}
theorem lv_le (k q i j:Nat):lv xs ys k q i j≤xs.length:=by
 unfold lv
 split
 ·exact Nat.le_trans (lcs_le _ _) (by rw[List.length_drop];omega)
 ·exact Nat.zero_le _
theorem lv_0 (i j:Nat):lv xs ys 0 0 i j=0:=by
 unfold lv
 split
 ·rename_i h
  rcases h with h|⟨_,h⟩
  ·rw[List.drop_eq_nil_of_le (by omega),lcs]
  ·rw[show ys.drop j=[] from List.drop_eq_nil_of_le (by omega),lcs_nil]
 ·rfl
theorem lv_row (k i j:Nat):lv xs ys k ys.length i j=lv xs ys (k+1) 0 i j:=by
 unfold lv
 by_cases h1:xs.length≤i+k
 ·rw[if_pos (Or.inl h1),if_pos (Or.inl (by omega))]
 ·by_cases h2:xs.length=i+k+1
  ·rw[if_pos (Or.inr ⟨h2,by omega⟩),if_pos (Or.inl (by omega))]
  ·rw[if_neg (by omega)]
   by_cases h3:xs.length=i+(k+1)+1∧ys.length≤j+0
   ·rw[if_pos (Or.inr h3),show ys.drop j=[] from List.drop_eq_nil_of_le (by omega),lcs_nil]
   ·rw[if_neg (by omega)]
theorem lv_end (i j:Nat):lv xs ys xs.length 0 i j=lcs (xs.drop i) (ys.drop j):=by
 unfold lv
 rw[if_pos (Or.inl (by omega))]
theorem lv_step {k q:Nat} (hk:k<xs.length) (hq:q<ys.length) (i j:Nat) :
  (if i=xs.length-1-k∧j=ys.length-1-q then (if veq (xs[xs.length-1-k]'(by omega)) (ys[ys.length-1-q]'(by omega))=true then 1+lv xs ys k q (xs.length-1-k+1) (ys.length-1-q+1) else max (lv xs ys k q (xs.length-1-k+1) (ys.length-1-q)) (lv xs ys k q (xs.length-1-k) (ys.length-1-q+1))) else lv xs ys k q i j)=lv xs ys k (q+1) i j:=by
 have e1:xs.drop (xs.length-1-k)=xs[xs.length-1-k]'(by omega)::xs.drop (xs.length-1-k+1):=List.drop_eq_getElem_cons (by omega)
 have e2:ys.drop (ys.length-1-q)=ys[ys.length-1-q]'(by omega)::ys.drop (ys.length-1-q+1):=List.drop_eq_getElem_cons (by omega)
 by_cases h:i=xs.length-1-k∧j=ys.length-1-q
 ·obtain⟨rfl,rfl⟩:=h
  rw[if_pos ⟨rfl,rfl⟩]
  have g:lv xs ys k (q+1) (xs.length-1-k) (ys.length-1-q)=lcs (xs.drop (xs.length-1-k)) (ys.drop (ys.length-1-q)):=by unfold lv;rw[if_pos (by omega)]
  have g1:lv xs ys k q (xs.length-1-k+1) (ys.length-1-q+1)=lcs (xs.drop (xs.length-1-k+1)) (ys.drop (ys.length-1-q+1)):=by unfold lv;rw[if_pos (by omega)]
  have g2:lv xs ys k q (xs.length-1-k+1) (ys.length-1-q)=lcs (xs.drop (xs.length-1-k+1)) (ys.drop (ys.length-1-q)):=by unfold lv;rw[if_pos (by omega)]
  have g3:lv xs ys k q (xs.length-1-k) (ys.length-1-q+1)=lcs (xs.drop (xs.length-1-k)) (ys.drop (ys.length-1-q+1)):=by unfold lv;rw[if_pos (by omega)]
  rw[g,g1,g2,g3,e1,e2,lcs]
 ·rw[if_neg h]
  unfold lv
  by_cases h1:xs.length≤i+k∨(xs.length=i+k+1∧ys.length≤j+q)
  ·rw[if_pos h1,if_pos (by omega)]
  ·rw[if_neg h1,if_neg (by omega)]
end Sp
structure LnI (w:World) (s1 s2:Value) (C:Nat) (V:Nat→Nat→Nat) (W:World):Prop where
 box:W.heap[w.heap.size]? = some (.cells #[s2] 106 (0,0))
 left:W.heap[w.heap.size+2]? = some (.cells #[.map (some (w.heap.size+1))] 270 (0,0))
 bac:W.heap[w.heap.size+3]? = some (.cells #[s1] 106 (0,0))
 map:∃cnt D,cnt≤C∧W.ownsMap Tryz.prog 273 IE (w.heap.size+1) cnt D∧Tb D V
 bel:Below w.heap.size w W
section
variable {w W W':World} {s1 s2:Value} {C:Nat} {V:Nat→Nat→Nat}
theorem LnI.sz (h:LnI w s1 s2 C V W):w.heap.size+3<W.heap.size:=(Array.getElem?_eq_some_iff.1 h.bac).1
theorem LnI.kept (h:LnI w s1 s2 C V W) (e1:W'.os=W.os) (e2:W'.tape=W.tape) (e3:W'.output=W.output) (e4:W.heap.size≤W'.heap.size) (e5:∀j,j<w.heap.size+4→W'.heap[j]? = W.heap[j]?):LnI w s1 s2 C V W':=by
 obtain⟨cnt,D,h1,h2,h3⟩:=h.map
 exact⟨(e5 _ (by omega)).trans h.box,(e5 _ (by omega)).trans h.left,(e5 _ (by omega)).trans h.bac,⟨cnt,D,h1,tmap_kept h2 (e5 _ (by omega)),h3⟩,⟨e1.trans h.bel.os,e2.trans h.bel.tape,e3.trans h.bel.output,Nat.le_trans h.bel.size e4,fun k hk=>(e5 k (by omega)).trans (h.bel.block k hk)⟩⟩
theorem LnI.low (h:LnI w s1 s2 C V W) (hb:Below W.heap.size W W'):LnI w s1 s2 C V W':=h.kept hb.os hb.tape hb.output hb.size fun j hj=>hb.block j (by have:=h.sz;omega)
theorem LnI.as {C':Nat} {V':Nat→Nat→Nat} (h:LnI w s1 s2 C V W) (hC:C≤C') (he:∀i j,V i j=V' i j):LnI w s1 s2 C' V' W:=by
 obtain⟨cnt,D,h1,h2,h3⟩:=h.map
 exact⟨h.box,h.left,h.bac,⟨cnt,D,by omega,h2,h3.as he⟩,h.bel⟩
theorem LnI.look (h:LnI w s1 s2 C V W) {i j:Nat} (hi:i≤1000000) (hj:j≤1000000) (hb:W'.heap[w.heap.size+1]? = W.heap[w.heap.size+1]?) :
  (Instr.lookup 270 (.map (some (w.heap.size+1))) (.agg #[.int .i64 i,.int .i64 j]) false).run Tryz.prog W' = .ok (.int .i64 (V i j)) W':=by
 obtain⟨cnt,D,h1,h2,h3⟩:=h.map
 exact tb_look h2 h3 hi hj hb
theorem LnI.put (h:LnI w s1 s2 C V W) (hC:C<1000000000) {a b v:Nat} (ha:a≤1000000) (hb:b≤1000000) (hv:v≤1000000) :
  ∃W3,(Instr.mapUpdate 270 (.map (some (w.heap.size+1))) (.agg #[.int .i64 a,.int .i64 b]) (.int .i64 v)).run Tryz.prog W.drew = .ok () W3∧LnI w s1 s2 (C+1) (fun i j=>if i=a∧j=b then v else V i j) W3∧W.grownBy W3 (some (w.heap.size+1)):=by
 obtain⟨cnt,D,h1,h2,h3⟩:=h.map
 have h2':W.drew.ownsMap Tryz.prog 273 IE (w.heap.size+1) cnt D:=tmap_kept h2 rfl
 obtain⟨W3,D3,r1,r2,r3,r4⟩:=tb_put h2' h3 (by omega) ha hb hv
 have hs:=h.sz
 have hg:W.grownBy W3 (some (w.heap.size+1)):=⟨r4.os,r4.tape,r4.output,r4.size,r4.block⟩
 have hk:∀j,j<w.heap.size+4→j≠w.heap.size+1→W3.heap[j]? = W.heap[j]?:=fun j hj hne=>hg.block j (by omega) (fun e=>hne (Option.some.inj e))
 exact⟨W3,r1,⟨(hk _ (by omega) (by omega)).trans h.box,(hk _ (by omega) (by omega)).trans h.left,(hk _ (by omega) (by omega)).trans h.bac,⟨cnt+1,D3,by omega,r2,r3⟩,⟨hg.os.trans h.bel.os,hg.tape.trans h.bel.tape,hg.output.trans h.bel.output,Nat.le_trans h.bel.size hg.size,fun k hk'=>(hk k (by omega) (by omega)).trans (h.bel.block k hk')⟩⟩,hg⟩
end
end

section
theorem wpAnyIn_inv {F:Fence} {n:Nat} {P:Program} {md:Region.Mode} {ops:Array Oper} {Q:Exit→Act→World→Prop} (I:Array Bool→Act→World→Prop)
  (hs:∀l a w,I l a w → ∀i,i∈Region.ready md ops l→wpOpIn F n P ops Q i (I (l.setIfInBounds i true)) a w)
  (he:∀l a w,I l a w→Region.ready md ops l=[]→Q .normal a w):∀ (fuel:Nat) (l:Array Bool) (a:Act) (w:World),lefts l≤fuel→I l a w→wpAnyIn F n P md ops Q fuel l a w:=by
 intro fuel
 induction fuel with
 | zero =>
  intro l a w hl hi
  have hr:Region.ready md ops l=[]:=by
   rw[List.eq_nil_iff_forall_not_mem]
   intro i hm
   have h1:=(ready_after hm).1
   rw[lefts_none (by omega) i] at h1
   cases h1
  exact⟨hr,he l a w hi hr⟩
 | succ n ih =>
  intro l a w hl hi
  refine⟨fun hr=>he l a w hi hr,fun i hm=>wpOpIn_mono (fun a' w' h'=>ih _ a' w' ?_ h') (hs l a w hi i hm)⟩
  have:=lefts_set (ready_after hm).1
  omega
theorem wpAnyIn_invC {F:Fence} {m:Nat} {P:Program} {md:Region.Mode} {ops:Array Oper} {Q:Exit→Act→World→Prop} (I:Array Bool→Act→World→Prop)
  (hs:∀l a w,Closed md ops l→I l a w → ∀i,i∈Region.ready md ops l→wpOpIn F m P ops Q i (I (l.setIfInBounds i true)) a w)
  (he:∀l a w,I l a w→Region.ready md ops l=[]→Q .normal a w) (n:Nat) (a:Act) (w:World) (h:I (Array.replicate n false) a w):wpAnyIn F m P md ops Q n (Array.replicate n false) a w:=by
 refine wpAnyIn_inv (fun l a w=>Closed md ops l∧I l a w) (fun l a w hI i hi=>?_) (fun l a w hI hr=>he l a w hI.2 hr) n _ a w ?_ ⟨?_,h⟩
 ·exact wpOpIn_mono (fun a' w' h'=>⟨hI.1.next hi,h'⟩) (hs l a w hI.1 hI.2 i hi)
 ·unfold lefts
  refine Nat.le_trans List.countP_le_length ?_
  simp
 ·intro i o _ hi
  exfalso
  rw[Array.getD_eq_getD_getElem?,Array.getElem?_replicate] at hi
  split at hi<;>cases hi
end

section
def upd (L:Nat→Bool) (i:Nat):Nat→Bool:=fun j=>if j=i then true else L j
def Afters (md:Region.Mode) (L:Nat→Bool) (o:Oper):Prop:=∀e∈o.after,Region.binds md e=true→L e.on=true
theorem upd_of {l:Array Bool} {i:Nat} (h:i<l.size):(fun j=>(l.setIfInBounds i true).getD j false)=upd (fun j=>l.getD j false) i:=by
 funext j
 unfold upd
 by_cases hj:j=i
 ·subst hj;simp[Array.getD,h]
 ·rw[if_neg hj];exact getD_set_ne _ (fun e=>hj e.symm)
theorem wpAnyIn_det {F:Fence} {m:Nat} {P:Program} {ops:Array Oper} {Q:Exit→Act→World→Prop} (A:(Nat→Bool)→Act) (Wd:(Nat→Bool)→World) (n:Nat) (hn:ops.size=n)
  (hw:(List.range ops.size).all (fun i=>((ops[i]?).map fun o=>o.after.all fun e=>!Region.binds .any e || decide (e.on<i)).getD true)=true)
  (hs:∀L i o,ops[i]? = some o→i<n→L i=false→Afters .any L o→(∀j oj,ops[j]? = some oj→L j=true→Afters .any L oj) → ∀K:Act→World→Prop,K (A (upd L i)) (Wd (upd L i))→wpOpIn F m P ops Q i K (A L) (Wd L))
  (he:∀L,(∀i,i<n→L i=true)→Q .normal (A L) (Wd L)):wpAnyIn F m P .any ops Q ops.size (Array.replicate ops.size false) (A fun _=>false) (Wd fun _=>false):=by
 subst hn
 refine wpAnyIn_invC (fun l a w=>l.size=ops.size∧a=A (fun j=>l.getD j false)∧w=Wd (fun j=>l.getD j false)) ?_ ?_ _ _ _ ⟨by simp,?_,?_⟩
 ·rintro l a w hcl ⟨hsz,rfl,rfl⟩ i hi
  obtain⟨hno,haft⟩:=ready_after hi
  obtain⟨_,o,ho,_⟩:=mem_ready.1 hi
  have hlt:=(Array.getElem?_eq_some_iff.1 ho).1
  refine hs _ i o ho hlt (by simpa[Array.getD,hsz,hlt] using hno) (fun e h1 h2=>haft o ho e h1 h2) (fun j oj hj hL e h1 h2=>hcl j oj hj hL e h1 h2) _ ?_
  exact⟨by simp[hsz],by rw[upd_of (by omega)],by rw[upd_of (by omega)]⟩
 ·rintro l a w ⟨hsz,rfl,rfl⟩ hr
  exact he _ (ready_none hsz hw hr)
 all_goals (
  congr 1
  funext j
  simp[Array.getD])
end
end Go.Proofs.YtdpomdelmdofmaaGreatDoor
