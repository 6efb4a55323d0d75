/-
  A loop over a function whose turns come in one order, within a round of another.
-/
import Derived.Test.YtdpomdelmdofmaaGreatDoorPart24
import Derived.RangeFuncNested
import Derived.Test.YtdpomdelmdofmaaGreatDoorPart27
import Derived.Test.YtdpomdelmdofmaaGreatDoorPart16
import Derived.Test.YtdpomdelmdofmaaGreatDoorPart34
import Derived.Test.YtdpomdelmdofmaaGreatDoorPart14
import Derived.Test.YtdpomdelmdofmaaGreatDoorPart25
import Derived.Test.YtdpomdelmdofmaaGreatDoorPart40
namespace Go.Proofs.YtdpomdelmdofmaaGreatDoor
section
open Go.RowKit
theorem range_turns_in {P:Program} {g:Operand} {ps:Array Tmp} {assign body:Code} {Q:Exit→Act→World→Prop} {a:Act} {w:World} {gf:Nat} {lb:Array Value} {l₀:Nat} {r₀:Loop} (hl₀:w.heap[l₀]? = some (.loop r₀))
  (hg:a.eval g = .func (.func gf) #[] lb) (eg:∀args w,(callFunc gf args).run P w = .ok (.enter gf args) w) (N:Nat) (arg:Nat→Array Value) (hps:∀k,(arg k).size=ps.size) (I:Nat→World→Prop) (A:Nat→Act→World→Prop)
  (hI:∀k,Apart2 w.heap.size (I k)) (hA:∀k a',Apart2 w.heap.size (A k a')) (h0:I 0 w)
  (hiter:∀ (l:Nat) (J:Nat→World→Prop) (W:World),(∀k W,J k W→I k W)→(∀k W,k<N→J k W→YieldAt Fence.wide 0 P l (arg k) W fun e W'=>e = .returned (.bool true)∧J (k+1) W')→J 0 W →
   CallsIn Fence.wide 0 P gf (#[.func (.yield l) #[] #[]]++lb) W fun e W'=>(∃v,e = .returned v)∧J N W')
  (hassign:∀l k W,k<N→I k W→w.heap.size<W.heap.size→assign.wpIn (Fence.wide.inRound l) 0 P (fun e a' W'=>e = .normal∧W'.heap[w.heap.size]? = W.heap[w.heap.size]? ∧ A k a' W') { tmps:=(ps.zip (arg k)).foldl (fun t (p,v)=>t.setIfInBounds p v) a.tmps,defers:=[] } W)
  (hbody:∀l k a' W,k<N→A k a' W→w.heap.size<W.heap.size→body.wpIn (Fence.wide.inRound l) 0 P (fun e _ W'=>e = .normal∧W'.heap[w.heap.size]? = W.heap[w.heap.size]? ∧ I (k+1) W') a' W)
  (hdone:∀W,I N W→Q .normal a W) :
  (Code.rangeFunc g ps assign body).wpIn (Fence.wide.inRound l₀) 0 P Q a w:=by
 refine wpIn_rangeFunc fun fn hfn=>?_
 obtain⟨B,hB⟩:∃B,B=w.heap.size:=⟨_,rfl⟩
 obtain⟨rc,hrc⟩:∃rc:LoopState→Loop,rc=fun st=>{ state:=st,pending:=none,fn,tmps:=a.tmps,params:=ps,assign,body,defers:=r₀.defers }:=⟨_,rfl⟩
 obtain⟨W1,hW1⟩:∃W1,W1=w.alloc (.loop (rc .ready)):=⟨_,rfl⟩
 have t1:W1.heap[B]? = some (.loop (rc .ready)):=by rw[hW1,hB];exact World.alloc_heap_new w _
 have i1:I 0 W1:=hI 0 w W1 h0 (by rw[hW1];rfl) (by rw[hW1];rfl) (by rw[hW1];rfl) (by rw[hW1];simp) fun j hj _ _=>by rw[hW1];exact Below.heap_alloc w _ j hj
 rw[← hB] at hI hA hassign hbody
 refine⟨B,[],W1,{ target:=.fn (.func gf) lb,args:=#[.func (.yield B) #[] #[]] },W1,gf,#[.func (.yield B) #[] #[]]++lb,W1,?_,?_,?_,?_,?_,?_⟩
 ·rw[hW1,hrc,hB];exact run_enterLoop_inner hl₀ _ _ _ _ _
 ·simp only[resolve,hg]
  simp[go_sem]
 ·intro f' _;exact trivial
 ·simp[invoke,go_sem,eg]
 ·intro h;cases h
 ·refine CallsIn.mono (CallsIn.inRound l₀ (hiter B (fun k W=>I k W∧W.heap[B]? = some (.loop (rc .ready))) W1 (fun k W h=>h.1) ?_ ⟨i1,t1⟩)) ?_
  ·rintro k W hk ⟨hi,hl⟩
   have hy:=run_yield (P:=P) (args:=arg k) hl (by rw[hrc];exact hps k)
   rw[hrc] at hy
   refine⟨fn,_,assign,body,hy,roundIn_of_wpIn hfn (wpIn_mono (hassign B k W hk hi (Array.getElem?_eq_some_iff.1 hl).1) ?_)⟩
   rintro e a' Wa ⟨rfl,hta,ha⟩
   have hla:=hta.trans hl
   have hlt:=(Array.getElem?_eq_some_iff.1 hla).1
   refine⟨_,run_beginRound hla (by rw[hrc]),wpIn_mono (hbody B k a' _ hk ((hA k a').put ha (Or.inl rfl) _) (by simp[World.putObj];omega)) ?_⟩
   rintro e a3 W3 ⟨rfl,ht3,hi3⟩
   have l3:W3.heap[B]? = some (.loop { rc .ready with state:=.busy }):=ht3.trans (World.putObj_heap_same hlt)
   have hr:=run_endRound (P:=P) none l3
   refine⟨_,_,hr,rfl,(hI (k+1)).put hi3 (Or.inl rfl) _,?_⟩
   refine (World.putObj_heap_same (Array.getElem?_eq_some_iff.1 l3).1).trans ?_
   rw[hrc];rfl
  ·rintro e W2 ⟨⟨v,rfl⟩,hi,hl⟩
   have hend:=run_endLoop (P:=P) hl (by rw[hrc];simp)
   exact⟨none,_,by rw[hend,hrc],hdone _ ((hI N).put hi (Or.inl rfl) _)⟩
end

section
set_option maxRecDepth 100000
set_option maxHeartbeats 4000000
open Go.RowKit Go.Maps
attribute [local go_sem] Oper.semAt_some
def pv (i j:Nat):Value:=.agg #[.int .i64 i,.int .i64 j]
def plit (i j:Nat):Lit:=.string (keyBytes [.int .i64 i,.int .i64 j])
theorem prow:(273:TypeId)<Tryz.prog.types.size:=of_decide_eq_true (by kernel_rfl)
theorem pka:Tryz.prog.keyTypeAt 2 273=true:=by kernel_rfl
theorem plaw:Keyed Tryz.prog 273:=Keyed.of_law (deep_law_laid nlaid (m:=2) (by omega) prow pka (by rw[Tryz.underlying273]))
theorem pkl (i j:Nat):WideAt.IsKeyLit (plit i j):=by unfold plit;exact trivial
theorem pkt:Tryz.prog.keyType 273=true:=by kernel_rfl
theorem pcells:Tryz.prog.cellsOf 273=2:=by kernel_rfl
theorem pci:Tryz.prog.cellsOf 3=1:=by kernel_rfl
theorem iwf {k:Nat} (hk:k≤1000000):(Lit.int .i64 (k:Int)).wf=true:=by
 have h1:IntKind.i64.min = -9223372036854775808:=by decide
 have h2:IntKind.i64.max=9223372036854775807:=by decide
 simp only[Lit.wf,h1,h2,Bool.and_eq_true,decide_eq_true_eq]
 omega
theorem pkey (i j:Nat) (hi:i≤1000000) (hj:j≤1000000):keyOf Tryz.prog 273 (pv i j)=some (plit i j):=by
 obtain⟨m,hm⟩:=nsz
 have h1:=iwf hi
 have h2:=iwf hj
 unfold keyOf pv plit
 rw[Tryz.underlying273]
 simp only[pkt,Value.formed,Tryz.underlying273,pcells,hm]
 simp[Program.keyLits,Tryz.underlying273,Tryz.underlying3,pcells,pci,Value.cells,h1,h2]
theorem plit_inj {i j a b:Nat} (h1:i≤1000000) (h2:j≤1000000) (h3:a≤1000000) (h4:b≤1000000) (h:plit i j=plit a b):i=a∧j=b:=by
 have:=plaw.inj (pkey i j h1 h2) (h▸pkey a b h3 h4)
 unfold pv at this
 simp at this
 omega
noncomputable abbrev IE (v:Value):Option (DataW Value×List MemPlace):=plainElem Tryz.prog 3 v
theorem ielem {k:Nat} (hk:k≤1000000):IE (.int .i64 k)=some (.lit (.int .i64 k),[]):=plainElem_int Tryz.underlying3 (iwf hk)
theorem izero (w:World):(zeroValue 3).run Tryz.prog w = .ok (.int .i64 0) w:=by kernel_rfl
structure Tb (D:DataW Value) (V:Nat→Nat→Nat):Prop where
 map:IsMap D
 vals:∀i j,i≤1000000→j≤1000000→D.atKey (plit i j) (.lit (.int .i64 0)) = .lit (.int .i64 (V i j))
theorem Tb.put {D:DataW Value} {V:Nat→Nat→Nat} (h:Tb D V) {a b v:Nat} (ha:a≤1000000) (hb:b≤1000000):Tb (D.put (plit a b) (.lit (.int .i64 v))) (fun i j=>if i=a∧j=b then v else V i j):=by
 refine⟨h.map.put _ _,fun i j hi hj=>?_⟩
 by_cases e:i=a∧j=b
 ·obtain⟨rfl,rfl⟩:=e
  rw[if_pos ⟨rfl,rfl⟩]
  exact atKey_put_same h.map (pkl _ _) _ _
 ·rw[if_neg e,atKey_put_other (fun h2=>e (plit_inj hi hj ha hb h2))]
  exact h.vals i j hi hj
theorem Tb.as {D:DataW Value} {V V':Nat→Nat→Nat} (h:Tb D V) (he:∀i j,V i j=V' i j):Tb D V':=by
 have:V=V':=by funext i j;exact he i j
 subst this;exact h
theorem tmap_kept {w w':World} {m n:Nat} {D:DataW Value} (h:w.ownsMap Tryz.prog 273 IE m n D) (hk:w'.heap[m]? = w.heap[m]?):w'.ownsMap Tryz.prog 273 IE m n D:=by
 obtain⟨es,clock,hb,r⟩:=h;exact⟨es,clock,hk.trans hb,r⟩
theorem tb_look {w:World} {m n:Nat} {D:DataW Value} {V:Nat→Nat→Nat} (ho:w.ownsMap Tryz.prog 273 IE m n D) (h:Tb D V) {i j:Nat} (hi:i≤1000000) (hj:j≤1000000) {w':World} (hb:w'.heap[m]? = w.heap[m]?) :
  (Instr.lookup 270 (.map (some m)) (.agg #[.int .i64 i,.int .i64 j]) false).run Tryz.prog w' = .ok (.int .i64 (V i j)) w':=by
 obtain⟨v1,ps1,r1,q1⟩:=(tmap_kept ho hb).lookup plaw Tryz.underlying270 (izero w') (zd:=.lit (.int .i64 0)) (zp:=[]) (ielem (k:=0) (by omega)) (pkey i j hi hj)
 rw[h.vals i j hi hj] at q1
 obtain⟨c,e1,e2,_⟩:=plainElem_int_inv Tryz.underlying3 q1
 have e3:(DataW.lit (.int .i64 (V i j:Int)):DataW Value) = .lit (.int .i64 c):=congrArg Prod.fst e2
 have e4:v1 = .int .i64 (V i j:Int):=by
  rw[e1]
  rw[(Lit.int.inj (DataW.lit.inj e3)).2]
 rw[e4] at r1
 exact r1
theorem tb_put {w:World} {m n:Nat} {D:DataW Value} {V:Nat→Nat→Nat} (ho:w.ownsMap Tryz.prog 273 IE m n D) (h:Tb D V) (hn:n≤1000000000) {a b v:Nat} (ha:a≤1000000) (hb:b≤1000000) (hv:v≤1000000) :
  ∃w3 D3,(Instr.mapUpdate 270 (.map (some m)) (.agg #[.int .i64 a,.int .i64 b]) (.int .i64 v)).run Tryz.prog w = .ok () w3∧w3.ownsMap Tryz.prog 273 IE m (n+1) D3∧Tb D3 (fun i j=>if i=a∧j=b then v else V i j)∧w.grownBy w3 (some m):=by
 obtain⟨w3,hrun,ho3,hg⟩:=ho.update plaw Tryz.underlying270 (by unfold maxLen;omega) (pkey a b ha hb) (val:=.int .i64 v) (d:=.lit (.int .i64 v)) (ps:=[]) (ielem hv)
 exact⟨w3,_,hrun,ho3,h.put ha hb,hg⟩
theorem back1V_in {l Bs g N cap:Nat} {ao:Option Addr} {c:Nat→Option Addr} {J:Nat→World→Prop} {W:World} (hN:N≤maxLen) (hao:0<N→ao=some ⟨g,0,none⟩)
  (hJ:∀k W,J k W→W.cell? ⟨Bs,0,none⟩=some (.slice ao N cap) ∧ ∀j,j<N→W.cell? ⟨g,j,none⟩=some (.pointer (c j)))
  (hY:∀k W,k<N→J k W→YieldAt Fence.wide 0 Tryz.prog l #[.int .i64 ((N-1-k:Nat):Int),.pointer (c (N-1-k))] W fun e W'=>e = .returned (.bool true)∧J (k+1) W') (h0:J 0 W) :
  CallsIn Fence.wide 0 Tryz.prog 292 (#[.func (.yield l) #[] #[]] ++ #[.pointer (some ⟨Bs,0,none⟩)]) W fun e W'=>(∃v,e = .returned v)∧J N W':=by
 have HJ:=hide hJ
 have HY:=hide hY
 have HAO:=hide hao
 have hb0:=(hJ 0 W h0).1
 have H0:=hide h0
 unfold maxLen at hN
 have w1:IntKind.i64.wrap ((N:Int)-1)=(N:Int)-1:=by rw[IntKind.wrap_i64];omega
 clear hJ hY h0 hao
 refine callsIn_of_wp Tryz.func292 rfl trivial ?_ rfl
 simp only[Tryz.ntmps292,List.size_toArray,List.length_cons,List.length_nil,Nat.reduceAdd,Nat.reduceSub,Array.replicate_succ,Array.replicate_zero,List.push_toArray,List.append_toArray,List.nil_append,List.cons_append]
 gi_wp2
 gi_loopw [3] (fun i wr=>∃r:Nat,r≤N∧i = .int .i64 ((r:Int)-1)∧J (N-r) wr) (fun i _=>((intOf i)+1).toNat)
 case atStart=>exact⟨N,Nat.le_refl _,rfl,by rw[Nat.sub_self];exact unhide H0⟩
 case round =>
  obtain⟨r,hr,rfl,hj⟩:=hrel
  cases r with
  | zero =>
   have HJ2:=hide hj
   clear hj
   gi_wp2
   go_end0
   exact⟨⟨_,rfl⟩,unhide HJ2⟩
  | succ i =>
   obtain⟨hb,hc⟩:=unhide HJ _ _ hj
   obtain rfl:=unhide HAO (by omega)
   have e1:(((i+1:Nat):Int)-1)=(i:Int):=by omega
   have hk:N-(i+1)<N:=by omega
   have e2:N-1-(N-(i+1))=i:=by omega
   have e3:N-(i+1)+1=N-i:=by omega
   have c0:=hc i (by omega)
   obtain⟨fn,tmps,assign,body,hy,hR⟩:=unhide HY _ _ hk hj
   rw[e2] at hy
   rw[e3] at hR
   have HR:=hide hR
   have hlt:(i:Int)<(N:Int):=by omega
   have hge:(0:Int)≤(i:Int):=by omega
   have w2:IntKind.i64.wrap ((i:Int)-1)=(i:Int)-1:=by rw[IntKind.wrap_i64];omega
   rw[e1]
   clear hj hc hR e1 e2 e3
   gi_wp2
   refine⟨rfl,(unhide HR).mono ?_⟩
   rintro e W3 ⟨rfl,hJ3⟩
   have HJ3:=hide hJ3
   clear hJ3
   gi_wp2
   go_roundw
   case rel=>exact⟨i,by omega,rfl,unhide HJ3⟩
   case measure=>simp[intOf]
theorem backV_any {a:Option Addr} {n cap:Nat} {w:World}:Calls Tryz.prog 254 #[.slice a n cap] w fun e w'=>e = .returned (.func (.func 292) #[] #[.pointer (some ⟨w.heap.size,0,none⟩)])∧w'=w.alloc (.cells #[.slice a n cap] 106):=by
 go_enter Tryz.func254,Tryz.ntmps254
 go_wp2_with (fail)
 go_ret
 exact⟨rfl,rfl⟩
end

section
open Go.RowKit Go.Maps
namespace Sp
theorem lcs_nil:∀a:List V,lcs a []=0
 | []=>by rw[lcs]
 | x::a=>by rw[lcs]
theorem lcs_le:∀a b:List V,lcs a b≤a.length
 | [],b=>by rw[lcs];exact Nat.zero_le _
 | x::a,[]=>by rw[lcs];exact Nat.zero_le _
 | x::a,y::b=>by
  have h1:=lcs_le a b
  have h2:=lcs_le a (y::b)
  have h3:=lcs_le (x::a) b
  rw[lcs]
  simp only[List.length_cons] at *
  split<;>omega
termination_by a b=>a.length+b.length
noncomputable def lv (xs ys:List V) (k q i j:Nat):Nat:=if xs.length≤i+k∨(xs.length=i+k+1∧ys.length≤j+q) then lcs (xs.drop i) (ys.drop j) else 0
variable {xs ys:List V}
theorem lv_le (k q i j:Nat):lv xs ys k q i j≤xs.length:=by
 unfold lv
 split
 ·exact Nat.le_trans (lcs_le _ _) (by rw[List.length_drop];omega)
 ·exact Nat.zero_le _
theorem lv_0 (i j:Nat):lv xs ys 0 0 i j=0:=by
 unfold lv
 split
 ·rename_i h
  rcases h with h|⟨_,h⟩
  ·rw[List.drop_eq_nil_of_le (by omega),lcs]
  ·rw[show ys.drop j=[] from List.drop_eq_nil_of_le (by omega),lcs_nil]
 ·rfl
theorem lv_row (k i j:Nat):lv xs ys k ys.length i j=lv xs ys (k+1) 0 i j:=by
 unfold lv
 by_cases h1:xs.length≤i+k
 ·rw[if_pos (Or.inl h1),if_pos (Or.inl (by omega))]
 ·by_cases h2:xs.length=i+k+1
  ·rw[if_pos (Or.inr ⟨h2,by omega⟩),if_pos (Or.inl (by omega))]
  ·rw[if_neg (by omega)]
   by_cases h3:xs.length=i+(k+1)+1∧ys.length≤j+0
   ·rw[if_pos (Or.inr h3),show ys.drop j=[] from List.drop_eq_nil_of_le (by omega),lcs_nil]
   ·rw[if_neg (by omega)]
theorem lv_end (i j:Nat):lv xs ys xs.length 0 i j=lcs (xs.drop i) (ys.drop j):=by
 unfold lv
 rw[if_pos (Or.inl (by omega))]
theorem lv_step {k q:Nat} (hk:k<xs.length) (hq:q<ys.length) (i j:Nat) :
  (if i=xs.length-1-k∧j=ys.length-1-q then (if veq (xs[xs.length-1-k]'(by omega)) (ys[ys.length-1-q]'(by omega))=true then 1+lv xs ys k q (xs.length-1-k+1) (ys.length-1-q+1) else max (lv xs ys k q (xs.length-1-k+1) (ys.length-1-q)) (lv xs ys k q (xs.length-1-k) (ys.length-1-q+1))) else lv xs ys k q i j)=lv xs ys k (q+1) i j:=by
 have e1:xs.drop (xs.length-1-k)=xs[xs.length-1-k]'(by omega)::xs.drop (xs.length-1-k+1):=List.drop_eq_getElem_cons (by omega)
 have e2:ys.drop (ys.length-1-q)=ys[ys.length-1-q]'(by omega)::ys.drop (ys.length-1-q+1):=List.drop_eq_getElem_cons (by omega)
 by_cases h:i=xs.length-1-k∧j=ys.length-1-q
 ·obtain⟨rfl,rfl⟩:=h
  rw[if_pos ⟨rfl,rfl⟩]
  have g:lv xs ys k (q+1) (xs.length-1-k) (ys.length-1-q)=lcs (xs.drop (xs.length-1-k)) (ys.drop (ys.length-1-q)):=by unfold lv;rw[if_pos (by omega)]
  have g1:lv xs ys k q (xs.length-1-k+1) (ys.length-1-q+1)=lcs (xs.drop (xs.length-1-k+1)) (ys.drop (ys.length-1-q+1)):=by unfold lv;rw[if_pos (by omega)]
  have g2:lv xs ys k q (xs.length-1-k+1) (ys.length-1-q)=lcs (xs.drop (xs.length-1-k+1)) (ys.drop (ys.length-1-q)):=by unfold lv;rw[if_pos (by omega)]
  have g3:lv xs ys k q (xs.length-1-k) (ys.length-1-q+1)=lcs (xs.drop (xs.length-1-k)) (ys.drop (ys.length-1-q+1)):=by unfold lv;rw[if_pos (by omega)]
  rw[g,g1,g2,g3,e1,e2,lcs]
 ·rw[if_neg h]
  unfold lv
  by_cases h1:xs.length≤i+k∨(xs.length=i+k+1∧ys.length≤j+q)
  ·rw[if_pos h1,if_pos (by omega)]
  ·rw[if_neg h1,if_neg (by omega)]
end Sp
structure LnI (w:World) (s1 s2:Value) (C:Nat) (V:Nat→Nat→Nat) (W:World):Prop where
 box:W.heap[w.heap.size]? = some (.cells #[s2] 106 (0,0))
 left:W.heap[w.heap.size+2]? = some (.cells #[.map (some (w.heap.size+1))] 270 (0,0))
 bac:W.heap[w.heap.size+3]? = some (.cells #[s1] 106 (0,0))
 map:∃cnt D,cnt≤C∧W.ownsMap Tryz.prog 273 IE (w.heap.size+1) cnt D∧Tb D V
 bel:Below w.heap.size w W
section
variable {w W W':World} {s1 s2:Value} {C:Nat} {V:Nat→Nat→Nat}
theorem LnI.sz (h:LnI w s1 s2 C V W):w.heap.size+3<W.heap.size:=(Array.getElem?_eq_some_iff.1 h.bac).1
theorem LnI.kept (h:LnI w s1 s2 C V W) (e1:W'.os=W.os) (e2:W'.tape=W.tape) (e3:W'.output=W.output) (e4:W.heap.size≤W'.heap.size) (e5:∀j,j<w.heap.size+4→W'.heap[j]? = W.heap[j]?):LnI w s1 s2 C V W':=by
 obtain⟨cnt,D,h1,h2,h3⟩:=h.map
 exact⟨(e5 _ (by omega)).trans h.box,(e5 _ (by omega)).trans h.left,(e5 _ (by omega)).trans h.bac,⟨cnt,D,h1,tmap_kept h2 (e5 _ (by omega)),h3⟩,⟨e1.trans h.bel.os,e2.trans h.bel.tape,e3.trans h.bel.output,Nat.le_trans h.bel.size e4,fun k hk=>(e5 k (by omega)).trans (h.bel.block k hk)⟩⟩
theorem LnI.low (h:LnI w s1 s2 C V W) (hb:Below W.heap.size W W'):LnI w s1 s2 C V W':=h.kept hb.os hb.tape hb.output hb.size fun j hj=>hb.block j (by have:=h.sz;omega)
theorem LnI.as {C':Nat} {V':Nat→Nat→Nat} (h:LnI w s1 s2 C V W) (hC:C≤C') (he:∀i j,V i j=V' i j):LnI w s1 s2 C' V' W:=by
 obtain⟨cnt,D,h1,h2,h3⟩:=h.map
 exact⟨h.box,h.left,h.bac,⟨cnt,D,by omega,h2,h3.as he⟩,h.bel⟩
theorem LnI.look (h:LnI w s1 s2 C V W) {i j:Nat} (hi:i≤1000000) (hj:j≤1000000) (hb:W'.heap[w.heap.size+1]? = W.heap[w.heap.size+1]?) :
  (Instr.lookup 270 (.map (some (w.heap.size+1))) (.agg #[.int .i64 i,.int .i64 j]) false).run Tryz.prog W' = .ok (.int .i64 (V i j)) W':=by
 obtain⟨cnt,D,h1,h2,h3⟩:=h.map
 exact tb_look h2 h3 hi hj hb
theorem LnI.put (h:LnI w s1 s2 C V W) (hC:C<1000000000) {a b v:Nat} (ha:a≤1000000) (hb:b≤1000000) (hv:v≤1000000) :
  ∃W3,(Instr.mapUpdate 270 (.map (some (w.heap.size+1))) (.agg #[.int .i64 a,.int .i64 b]) (.int .i64 v)).run Tryz.prog W.drew = .ok () W3∧LnI w s1 s2 (C+1) (fun i j=>if i=a∧j=b then v else V i j) W3∧W.grownBy W3 (some (w.heap.size+1)):=by
 obtain⟨cnt,D,h1,h2,h3⟩:=h.map
 have h2':W.drew.ownsMap Tryz.prog 273 IE (w.heap.size+1) cnt D:=tmap_kept h2 rfl
 obtain⟨W3,D3,r1,r2,r3,r4⟩:=tb_put h2' h3 (by omega) ha hb hv
 have hs:=h.sz
 have hg:W.grownBy W3 (some (w.heap.size+1)):=⟨r4.os,r4.tape,r4.output,r4.size,r4.block⟩
 have hk:∀j,j<w.heap.size+4→j≠w.heap.size+1→W3.heap[j]? = W.heap[j]?:=fun j hj hne=>hg.block j (by omega) (fun e=>hne (Option.some.inj e))
 exact⟨W3,r1,⟨(hk _ (by omega) (by omega)).trans h.box,(hk _ (by omega) (by omega)).trans h.left,(hk _ (by omega) (by omega)).trans h.bac,⟨cnt+1,D3,by omega,r2,r3⟩,⟨hg.os.trans h.bel.os,hg.tape.trans h.bel.tape,hg.output.trans h.bel.output,Nat.le_trans h.bel.size hg.size,fun k hk'=>(hk k (by omega) (by omega)).trans (h.bel.block k hk')⟩⟩,hg⟩
end
end

section
set_option maxRecDepth 100000
set_option maxHeartbeats 8000000
open Go.RowKit Go.Maps
attribute [local go_sem] Oper.semAt_some
theorem row_ptr {f:Nat} {F:Nat→Prop} {w:World} {sl:Value} {ps:List Value} {xs:List Sp.V} (h:w.ownsRow 0 80 1 sl ps.length ps) (a:Al (Rep f F w) ps xs):ps.length=xs.length∧xs.length≤maxLen ∧ ∃ (ao:Option Addr) (cap g:Nat) (c:Nat→Option Addr),sl = .slice ao xs.length cap∧(0<xs.length→ao=some ⟨g,0,none⟩∧g<w.heap.size)∧(∀k,k<xs.length→w.cell? ⟨g,k,none⟩=some (.pointer (c k))) ∧ ∀k (hk:k<xs.length),Rep f F w (.pointer (c k)) xs[k]:=by
 have hl:=a.length
 obtain⟨c,hc⟩:∃c:Nat→Option Addr,∀k (hk:k<xs.length),ps[k]'(by omega) = .pointer (c k):=by
  refine⟨fun k=>if hk:k<xs.length then (match ps[k]'(by omega) with | .pointer p=>p|_=>none) else none,fun k hk=>?_⟩
  obtain⟨b,e,_⟩:=Rep.ptr (a.get k (by omega) hk)
  simp only[hk,dif_pos,e]
 have hr:∀k (hk:k<xs.length),Rep f F w (.pointer (c k)) xs[k]:=fun k hk=>by
  rw[← hc k hk]
  exact a.get k (by omega) hk
 rcases Nat.eq_zero_or_pos xs.length with h0|hp
 ·obtain⟨ao,n,cap,e,hn,_⟩:∃ao n cap,sl = .slice ao n cap∧n=xs.length∧True:=by
   rcases h.2 with⟨e,h1⟩|⟨g,cap,cur,e,_⟩
   ·exact⟨_,_,_,e,by omega,trivial⟩
   ·exact⟨_,_,_,e,by omega,trivial⟩
  subst hn
  exact⟨hl,by unfold maxLen;omega,ao,cap,0,c,e,(fun hh=>by omega),(fun k hk=>by omega),hr⟩
 ·obtain⟨g,cap,e,h1,h2,h3,h4⟩:=owns_cell1 h (by omega)
  rw[hl] at e h1
  exact⟨hl,by omega,some ⟨g,0,none⟩,cap,g,c,e,fun _=>⟨rfl,h3⟩,fun k hk=>by rw[h4 k (by omega),hc k hk],hr⟩
theorem max_two (a b c:Nat) (h:c=max a b) (tys:Array TypeId) (ty:TypeId) (w:World):(Builtin.max_ tys ty #[.int .i64 a,.int .i64 b]).run Tryz.prog w = .ok (.int .i64 c) w:=by
 subst h
 by_cases h2:a≤b
 ·have e:max a b=b:=by omega
  rw[e]
  by_cases h3:(a:Int)<b
  ·simp[Builtin.max_,Builtin.max2,h3]
  ·have e2:a=b:=by omega
   subst e2
   simp[Builtin.max_,Builtin.max2]
 ·have e:max a b=a:=by omega
  rw[e]
  have h3:¬ (a:Int)<b:=by omega
  simp[Builtin.max_,Builtin.max2,h3]
structure OuA (w:World) (s1 s2:Value) (C:Nat) (V:Nat→Nat→Nat) (B X i:Nat) (x:Option Addr) (W:World):Prop where
 inv:LnI w s1 s2 C V W
 ne:B+1<X
 bi:W.heap[X]? = some (.cells #[.int .i64 i] 3 (0,0))
 bx:W.heap[X+1]? = some (.cells #[.pointer x] 80 (0,0))
theorem OuA.kept {w W W':World} {s1 s2:Value} {C:Nat} {V:Nat→Nat→Nat} {B X i:Nat} {x:Option Addr} (h:OuA w s1 s2 C V B X i x W) (hB:w.heap.size+4≤B) (e1:W'.os=W.os) (e2:W'.tape=W.tape) (e3:W'.output=W.output) (e4:W.heap.size≤W'.heap.size) (e5:∀j,j<W.heap.size→j≠B→j≠B+1→W'.heap[j]? = W.heap[j]?):OuA w s1 s2 C V B X i x W':=by
 have hn:=h.ne
 exact⟨h.inv.kept e1 e2 e3 e4 fun j hj=>e5 j (by have:=h.inv.sz;omega) (by omega) (by omega),hn,(e5 X (Array.getElem?_eq_some_iff.1 h.bi).1 (by omega) (by omega)).trans h.bi,(e5 (X+1) (Array.getElem?_eq_some_iff.1 h.bx).1 (by omega) (by omega)).trans h.bx⟩
structure InI (w:World) (s1 s2:Value) (C:Nat) (V:Nat→Nat→Nat) (B X i:Nat) (x:Option Addr) (W W2:World):Prop where
 inv:OuA w s1 s2 C V B X i x W2
 two:Two B W W2
 bac:W2.heap[W.heap.size]? = some (.cells #[s2] 106 (0,0))
theorem InI.kept {w W W2 W':World} {s1 s2:Value} {C:Nat} {V:Nat→Nat→Nat} {B X i:Nat} {x:Option Addr} (h:InI w s1 s2 C V B X i x W W2) (hB:w.heap.size+4≤B) (hW:X+1<W.heap.size) (e1:W'.os=W2.os) (e2:W'.tape=W2.tape) (e3:W'.output=W2.output) (e4:W2.heap.size≤W'.heap.size) (e5:∀j,j<W2.heap.size→j≠W.heap.size+1→j≠W.heap.size+1+1→W'.heap[j]? = W2.heap[j]?):InI w s1 s2 C V B X i x W W':=by
 have hn:=h.inv.ne
 have hb:=(Array.getElem?_eq_some_iff.1 h.bac).1
 refine⟨⟨h.inv.inv.kept e1 e2 e3 e4 fun j hj=>e5 j (by have:=h.inv.inv.sz;omega) (by omega) (by omega),hn,(e5 X (by omega) (by omega) (by omega)).trans h.inv.bi,(e5 (X+1) (by omega) (by omega) (by omega)).trans h.inv.bx⟩,⟨(e5 B (by omega) (by omega) (by omega)).trans h.two.1,(e5 (B+1) (by omega) (by omega) (by omega)).trans h.two.2⟩,(e5 _ hb (by omega) (by omega)).trans h.bac⟩
theorem InI.next {w W W2 W4:World} {s1 s2:Value} {C C':Nat} {V V':Nat→Nat→Nat} {B X i:Nat} {x:Option Addr} (h:InI w s1 s2 C V B X i x W W2) (hB:w.heap.size+4≤B) (hW:X+1<W.heap.size) (h4:LnI w s1 s2 C' V' W4) (hg:W2.grownBy W4 (some (w.heap.size+1))):InI w s1 s2 C' V' B X i x W W4:=by
 have hn:=h.inv.ne
 have hb:=(Array.getElem?_eq_some_iff.1 h.bac).1
 have hk:∀j,j<W2.heap.size→j≠w.heap.size+1→W4.heap[j]? = W2.heap[j]?:=fun j hj hne=>hg.block j hj (fun e=>hne (Option.some.inj e))
 exact⟨⟨h4,hn,(hk X (by omega) (by omega)).trans h.inv.bi,(hk (X+1) (by omega) (by omega)).trans h.inv.bx⟩,⟨(hk B (by omega) (by omega)).trans h.two.1,(hk (B+1) (by omega) (by omega)).trans h.two.2⟩,(hk _ hb (by omega)).trans h.bac⟩
theorem lengthsOf_any {f:Nat} {F F':Nat→Prop} {w:World} {sl1 sl2:Value} {ps1 ps2:List Value} {xs ys:List Sp.V} (o1:w.ownsRow 0 80 1 sl1 ps1.length ps1) (a1:Al (Rep f F w) ps1 xs) (o2:w.ownsRow 0 80 1 sl2 ps2.length ps2) (a2:Al (Rep f F' w) ps2 ys) (hn:(xs.length+1)*(ys.length+1)≤1000000) :
  Calls Tryz.prog 209 #[sl1,sl2] w fun e w'=>∃m cnt D,e = .returned (.map (some m))∧w.heap.size≤m∧w'.ownsMap Tryz.prog 273 IE m cnt D∧Tb D (fun i j=>Sp.lcs (xs.drop i) (ys.drop j))∧Below w.heap.size w w':=by
 obtain⟨_,hN,ao1,cap1,g1,c1,rfl,hg1,hc1,hr1⟩:=row_ptr o1 a1
 obtain⟨_,hM,ao2,cap2,g2,c2,rfl,hg2,hc2,hr2⟩:=row_ptr o2 a2
 obtain⟨N,hNe⟩:∃N,N=xs.length:=⟨_,rfl⟩
 obtain⟨M,hMe⟩:∃M,M=ys.length:=⟨_,rfl⟩
 have hN6:N≤1000000:=by
  have:(xs.length+1)*1≤(xs.length+1)*(ys.length+1):=Nat.mul_le_mul_left _ (by omega)
  omega
 have hM6:M≤1000000:=by
  have:1*(ys.length+1)≤(xs.length+1)*(ys.length+1):=Nat.mul_le_mul_right _ (by omega)
  omega
 have hNM:N*M≤1000000:=by
  have:xs.length*ys.length≤(xs.length+1)*(ys.length+1):=Nat.mul_le_mul (by omega) (by omega)
  rw[hNe,hMe];omega
 rw[← hNe] at hN hg1 hc1
 rw[← hMe] at hM hg2 hc2
 rw[← hNe,← hMe]
 obtain⟨wB,hwB⟩:∃wB,wB=((((w.alloc (.cells #[.slice ao2 M cap2] 106)).alloc (.map #[] 0)).alloc (.cells #[.map (some (w.heap.size+1))] 270)).alloc (.cells #[.slice ao1 N cap1] 106)):=⟨_,rfl⟩
 obtain⟨wB0,hwB0⟩:∃wB0,wB0=(w.alloc (.cells #[.slice ao2 M cap2] 106)).alloc (.map #[] 0):=⟨_,rfl⟩
 have hs0:wB0.heap.size=w.heap.size+2:=by rw[hwB0];simp
 have hbs:wB.heap.size=w.heap.size+4:=by rw[hwB,← hwB0];simp[hs0]
 have hb0:Below w.heap.size w wB:=by
  rw[hwB]
  exact ((((Below.refl _ w).alloc (Nat.le_refl _) _).alloc (by simp) _).alloc (by simp;omega) _).alloc (by simp;omega) _
 have hI0:LnI w (.slice ao1 N cap1) (.slice ao2 M cap2) 0 (Sp.lv xs ys 0 0) wB:=by
  have e1:∀j,j<w.heap.size+2→wB.heap[j]? = wB0.heap[j]?:=fun j hj=>by
   rw[hwB,← hwB0]
   exact (Below.heap_alloc _ _ j (by simp;omega)).trans (Below.heap_alloc _ _ j (by omega))
  refine⟨?_,?_,?_,⟨0,.map [],Nat.le_refl _,?_,⟨⟨_,rfl⟩,fun i j _ _=>by rw[Sp.lv_0];rfl⟩⟩,hb0⟩
  ·rw[e1 _ (by omega),hwB0]
   exact (Below.heap_alloc _ _ _ (by simp)).trans (heap_alloc_new w _)
  ·rw[hwB,← hwB0]
   have:=heap_alloc_new wB0 (.cells #[.map (some (w.heap.size+1))] 270)
   rw[hs0] at this
   exact (Below.heap_alloc _ _ _ (by simp;omega)).trans this
  ·rw[hwB,← hwB0]
   have:=heap_alloc_new (wB0.alloc (.cells #[.map (some (w.heap.size+1))] 270)) (.cells #[.slice ao1 N cap1] 106)
   rw[World.size_alloc,hs0] at this
   exact this
  ·refine tmap_kept (w:=wB0) ?_ (e1 _ (by omega))
   rw[hwB0]
   have:=World.ownsMap_made (w.alloc (.cells #[.slice ao2 M cap2] 106)) Tryz.prog 273 IE
   rw[World.size_alloc] at this
   exact this
 have hmm:=@run_makeMap Tryz.prog
 have HNe:=hide hNe
 have HMe:=hide hMe
 have HWB:=hide hwB
 have HI0:=hide hI0
 have HBS:=hide hbs
 have HG1:=hide hg1
 have HG2:=hide hg2
 have HC1:=hide hc1
 have HC2:=hide hc2
 have HR1:=hide hr1
 have HR2:=hide hr2
 clear o1 o2 a1 a2 hn hNe hMe hwB hwB0 hs0 hI0 hbs hg1 hg2 hc1 hc2 hr1 hr2 hb0
 refine (callsIn_wide (n:=0)).1 (callsIn_of_wp_marks Tryz.func209 rfl trivial ?_ rfl)
 simp only[Tryz.ntmps209,List.size_toArray,List.length_cons,List.length_nil,Nat.reduceAdd,Nat.reduceSub,Array.replicate_succ,Array.replicate_zero,List.push_toArray,List.append_toArray,List.nil_append,List.cons_append]
 gi_wp2_with (refine⟨trivial,rfl,?_⟩;gi_at_call 254;refine (callsIn_wide.2 backV_any).mono ?_;rintro e w' ⟨rfl,rfl⟩)
 simp only[Nat.add_assoc,Nat.reduceAdd]
 rw[← unhide HWB]
 refine range_turns (gf:=292) (lb:=#[.pointer (some ⟨w.heap.size+3,0,none⟩)]) rfl (ent_of Tryz.func292 (by kernel_rfl) rfl) N (fun k=>#[.int .i64 ((N-1-k:Nat):Int),.pointer (c1 (N-1-k))]) (fun _=>rfl) (fun k=>LnI w (.slice ao1 N cap1) (.slice ao2 M cap2) (k*M) (Sp.lv xs ys k 0))
  (fun k a' W=>∃X,OuA w (.slice ao1 N cap1) (.slice ao2 M cap2) (k*M) (Sp.lv xs ys k 0) wB.heap.size X (N-1-k) (c1 (N-1-k)) W∧a'={ tmps:=#[.slice ao1 N cap1,.slice ao2 M cap2,undef,.pointer (some ⟨w.heap.size,0,none⟩),.map none,.pointer (some ⟨w.heap.size+2,0,none⟩),.pointer (some ⟨X,0,none⟩),.pointer (some ⟨X+1,0,none⟩),undef,undef,.map (some (w.heap.size+1)),.slice ao1 N cap1,.func (.func 292) #[] #[.pointer (some ⟨w.heap.size+3,0,none⟩)],.int .i64 ((N-1-k:Nat):Int),.pointer (c1 (N-1-k)),undef,undef,undef,undef,undef,undef,undef,undef,undef,undef,undef,undef,undef,undef,undef,undef,undef,undef,undef,undef,undef,undef,undef,undef,undef,undef,undef,undef,undef,undef,undef,undef,undef,undef,undef,undef,undef],defers:=[] })
  ?hI ?hA (by rw[Nat.zero_mul];exact unhide HI0) ?hiter ?hassign ?hbody ?hdone
 case hI =>
  rw[unhide HBS]
  intro k W W' h e1 e2 e3 e4 e5
  exact h.kept e1 e2 e3 e4 fun j hj=>e5 j (by have:=h.sz;omega) (by omega) (by omega)
 case hA =>
  rintro k a' W W' ⟨X,hX,e⟩ e1 e2 e3 e4 e5
  exact⟨X,hX.kept (by rw[unhide HBS];omega) e1 e2 e3 e4 e5,e⟩
 case hiter =>
  intro l J W hJI hY hJ0
  refine back1V_in (cap:=cap1) (c:=c1) (g:=g1) hN (fun hp=>(unhide HG1 hp).1) (fun k W hj=>?_) hY hJ0
  have hi:=hJI k W hj
  refine⟨by have:=hi.bac;simp[World.cell?,this],fun j hj2=>?_⟩
  have hp:=unhide HG1 (by omega)
  exact (hi.bel.cell (p:=⟨g1,j,none⟩) hp.2).trans (unhide HC1 j hj2)
 case hassign =>
  intro l k W hk hi hsz
  have HII:=hide hi
  clear hi
  gi_wp2
  have hb:=((Below.refl W.heap.size W).alloc (Nat.le_refl _) (.cells #[.int .i64 ((N-1-k:Nat):Int)] 3)).alloc (by simp) (.cells #[.pointer (c1 (N-1-k))] 80)
  have h2:=heap_alloc_new (W.alloc (.cells #[.int .i64 ((N-1-k:Nat):Int)] 3)) (.cells #[.pointer (c1 (N-1-k))] 80)
  rw[World.size_alloc] at h2
  exact⟨⟨hb.block _ (by omega),hb.block _ hsz⟩,(unhide HII).low hb,hsz,(Below.heap_alloc _ _ _ (by simp)).trans (heap_alloc_new W _),h2⟩
 case hbody =>
  rintro l k a' W hk ⟨X,hX,rfl⟩ hsz ⟨hl,r0,hl0⟩
  have bx:=hX.inv.box
  have hws:=hX.inv.sz
  have bc:W.cell? ⟨w.heap.size,0,none⟩=some (.slice ao2 M cap2):=by simp[World.cell?,bx]
  have hXl:X+1<W.heap.size:=(Array.getElem?_eq_some_iff.1 hX.bx).1
  have HX:=hide hX
  have HL0:=hide hl0
  have HL:=hide hl
  obtain⟨W1,hW1⟩:∃W1,W1=W.alloc (.cells #[.slice ao2 M cap2] 106):=⟨_,rfl⟩
  have hs1:W1.heap.size=W.heap.size+1:=by rw[hW1];simp
  have hb1:Below W.heap.size W W1:=by rw[hW1];exact (Below.refl _ _).alloc (Nat.le_refl _) _
  have hI1:InI w (.slice ao1 N cap1) (.slice ao2 M cap2) (k*M) (Sp.lv xs ys k 0) wB.heap.size X (N-1-k) (c1 (N-1-k)) W W1:=by
   refine⟨hX.kept (by rw[unhide HBS];omega) hb1.os hb1.tape hb1.output hb1.size fun j hj _ _=>hb1.block j hj,⟨hb1.block _ (by omega),hb1.block _ hsz⟩,by rw[hW1];exact heap_alloc_new W _⟩
  have HW1:=hide hW1
  have HI1:=hide hI1
  have HB1:=hide hb1
  clear hX bx hl0 hl hW1 hI1 hb1
  gi_wp2_with (refine⟨trivial,rfl,?_⟩;gi_at_call 254;refine (callsIn_wide.2 backV_any).mono ?_;rintro e w' ⟨rfl,rfl⟩)
  rw[← unhide HW1]
  refine range_turns_in (r₀:=r0) (gf:=292) (lb:=#[.pointer (some ⟨W.heap.size,0,none⟩)]) ((unhide HB1).block l (by have:=unhide HL;omega) |>.trans (unhide HL0)) rfl (ent_of Tryz.func292 (by kernel_rfl) rfl) M (fun q=>#[.int .i64 ((M-1-q:Nat):Int),.pointer (c2 (M-1-q))]) (fun _=>rfl) (fun q=>InI w (.slice ao1 N cap1) (.slice ao2 M cap2) (k*M+q) (Sp.lv xs ys k q) wB.heap.size X (N-1-k) (c1 (N-1-k)) W)
   (fun q a' W2=>InI w (.slice ao1 N cap1) (.slice ao2 M cap2) (k*M+q) (Sp.lv xs ys k q) wB.heap.size X (N-1-k) (c1 (N-1-k)) W W2∧a'={ tmps:=#[.slice ao1 N cap1,.slice ao2 M cap2,undef,.pointer (some ⟨w.heap.size,0,none⟩),.map none,.pointer (some ⟨w.heap.size+2,0,none⟩),.pointer (some ⟨X,0,none⟩),.pointer (some ⟨X+1,0,none⟩),.int .i64 ((M-1-q:Nat):Int),.pointer (c2 (M-1-q)),.map (some (w.heap.size+1)),.slice ao1 N cap1,.func (.func 292) #[] #[.pointer (some ⟨w.heap.size+3,0,none⟩)],.int .i64 ((N-1-k:Nat):Int),.pointer (c1 (N-1-k)),.slice ao2 M cap2,.func (.func 292) #[] #[.pointer (some ⟨W.heap.size,0,none⟩)],.int .i64 ((M-1-q:Nat):Int),.pointer (c2 (M-1-q)),undef,undef,undef,undef,undef,undef,undef,undef,undef,undef,undef,undef,undef,undef,undef,undef,undef,undef,undef,undef,undef,undef,undef,undef,undef,undef,undef,undef,undef,undef,undef,undef,undef],defers:=[] })
   ?hI2 ?hA2 (unhide HI1) ?hiter2 ?hassign2 ?hbody2 ?hdone2
  case hI2 =>
   rw[hs1]
   intro q W2 W3 h e1 e2 e3 e4 e5
   exact h.kept (by rw[unhide HBS];omega) hXl e1 e2 e3 e4 fun j hj h1 h2=>e5 j hj h1 h2
  case hA2 =>
   rw[hs1]
   rintro q a' W2 W3 ⟨h,e⟩ e1 e2 e3 e4 e5
   exact⟨h.kept (by rw[unhide HBS];omega) hXl e1 e2 e3 e4 fun j hj h1 h2=>e5 j hj h1 h2,e⟩
  case hiter2 =>
   intro l2 J W2 hJI hY hJ0
   refine back1V_in (cap:=cap2) (c:=c2) (g:=g2) hM (fun hp=>(unhide HG2 hp).1) (fun q W2 hj=>?_) hY hJ0
   have hi:=hJI q W2 hj
   refine⟨by have:=hi.bac;simp[World.cell?,this],fun j hj2=>?_⟩
   have hp:=unhide HG2 (by omega)
   exact (hi.inv.inv.bel.cell (p:=⟨g2,j,none⟩) hp.2).trans (unhide HC2 j hj2)
  case hassign2 =>
   intro l2 q W2 hq hi hsz2
   have HII:=hide hi
   clear hi
   gi_wp2
   exact unhide HII
  case hdone2 =>
   intro W2 hI2
   have h3:=hI2.inv.inv.as (C':=(k+1)*M) (V':=Sp.lv xs ys (k+1) 0) (by rw[Nat.succ_mul];omega) (fun i j=>by rw[unhide HMe];exact Sp.lv_row k i j)
   have HII:=hide (And.intro hI2.two h3)
   clear hI2 h3
   gi_wp2
   exact unhide HII
  case hbody2 =>
   rintro l2 q a' W2 hq ⟨hI2,rfl⟩ hsz2
   have xbx:=hI2.inv.bx
   have xc:W2.cell? ⟨X+1,0,none⟩=some (.pointer (c1 (N-1-k))):=by simp[World.cell?,xbx]
   have hbw:=hI2.inv.inv.bel
   have HSAME:=hide (Same_any f F F' W2 _ _ _ _ ((unhide HR1 (N-1-k) (by have:=unhide HNe;omega)).bel hbw) ((unhide HR2 (M-1-q) (by have:=unhide HMe;omega)).bel hbw))
   have HII:=hide hI2
   clear xbx hbw hI2
   obtain⟨i0,hi0⟩:∃i0,i0=N-1-k:=⟨_,rfl⟩
   obtain⟨j0,hj0⟩:∃j0,j0=M-1-q:=⟨_,rfl⟩
   have hi6:i0≤1000000:=by omega
   have hj6:j0≤1000000:=by omega
   have HSTEP:=hide (fun i j=>Sp.lv_step (xs:=xs) (ys:=ys) (k:=k) (q:=q) (by have:=unhide HNe;omega) (by have:=unhide HMe;omega) i j)
   have HCNT:=hide (show k*M+q<1000000000 by
    have:(k+1)*M≤N*M:=Nat.mul_le_mul_right _ (by omega)
    rw[Nat.succ_mul] at this
    omega)
   obtain⟨vq,hvq⟩:∃vq,vq=veq (xs[N-1-k]'(by have:=unhide HNe;omega)) (ys[M-1-q]'(by have:=unhide HMe;omega)):=⟨_,rfl⟩
   rw[← hvq] at HSAME
   simp only[← unhide HNe,← unhide HMe,← hvq] at HSTEP
   rw[← hi0,← hj0] at HSAME HSTEP
   rw[← hi0] at xc HII
   simp only[← hi0,← hj0]
   obtain⟨i1,hi1⟩:∃i1,i1=i0+1:=⟨_,rfl⟩
   obtain⟨j1,hj1⟩:∃j1,j1=j0+1:=⟨_,rfl⟩
   simp only[← hi1,← hj1] at HSTEP
   have w1:IntKind.i64.wrap ((i0:Int)+1)=(i1:Int):=by rw[IntKind.wrap_i64];omega
   have w2:IntKind.i64.wrap ((j0:Int)+1)=(j1:Int):=by rw[IntKind.wrap_i64];omega
   have hi7:i1≤1000000:=by have:=unhide HNe;omega
   have hj7:j1≤1000000:=by have:=unhide HMe;omega
   have HLE:=hide (fun i j=>show Sp.lv xs ys k q i j≤1000000 from Nat.le_trans (Sp.lv_le k q i j) (by have:=unhide HNe;omega))
   clear hvq hi0 hj0 hi1 hj1
   gi_wp2_with (refine⟨trivial,rfl,?_⟩;gi_at_call 82;refine (callsIn_wide.2 (unhide HSAME)).mono ?_;rintro e W3 ⟨rfl,hb3⟩;have HB3:=hide hb3;clear hb3;cases vq)
   case true =>
    have hb3:=unhide HB3
    have hI3:=(unhide HII).kept (by rw[unhide HBS];omega) hXl hb3.os hb3.tape hb3.output hb3.size fun j hj _ _=>hb3.block j hj
    obtain⟨u,hu⟩:∃u,u=Sp.lv xs ys k q i1 j1:=⟨_,rfl⟩
    have lk:=hI3.inv.inv.look (i:=i1) (j:=j1) hi7 hj7 (W':=W3.drew) rfl
    rw[← hu] at lk
    have hu6:u≤1000000:=by rw[hu];exact unhide HLE i1 j1
    obtain⟨u1,hu1⟩:∃u1,u1=1+u:=⟨_,rfl⟩
    have w3:IntKind.i64.wrap (1+(u:Int))=(u1:Int):=by rw[IntKind.wrap_i64];omega
    have hu7:u1≤1000000:=by
     have h8:=unhide HSTEP i0 j0
     rw[if_pos ⟨rfl,rfl⟩] at h8
     simp only[if_true] at h8
     have h9:=Sp.lv_le (xs:=xs) (ys:=ys) k (q+1) i0 j0
     have:=unhide HNe
     omega
    obtain⟨W4,hup,hI4,hg4⟩:=hI3.inv.inv.put (a:=i0) (b:=j0) (v:=u1) (unhide HCNT) hi6 hj6 (by omega)
    have r5:W3.drew.cell? ⟨w.heap.size+2,0,none⟩=some (.map (some (w.heap.size+1))):=(show W3.cell? _=_ from by have:=hI3.inv.inv.left;simp[World.cell?,this])
    have r6:W3.drew.cell? ⟨X,0,none⟩=some (.int .i64 i0):=(show W3.cell? _=_ from by have:=hI3.inv.bi;simp[World.cell?,this])
    have HEND:=hide (show W4.heap[W.heap.size+1]? = W2.heap[W.heap.size+1]? ∧ InI w (.slice ao1 N cap1) (.slice ao2 M cap2) (k*M+(q+1)) (Sp.lv xs ys k (q+1)) wB.heap.size X i0 (c1 i0) W W4 from by
     have h5:=hI4.as (V':=Sp.lv xs ys k (q+1)) (Nat.le_refl _) (fun i j=>by have h8:=unhide HSTEP i j;simp only[if_true] at h8;rw[hu1,hu];exact h8)
     refine⟨(hg4.block _ (by have:=hb3.size;omega) (fun e=>?_)).trans (hb3.block _ (by omega)),hI3.next (by rw[unhide HBS];omega) hXl h5 hg4⟩
     have:=Option.some.inj e
     omega)
    clear hI3 hI4 hg4 hb3 xc hu hu1
    gi_wp2
    refine wpIn_region_any (by kernel_rfl) ?_
    refine wpAnyIn_det (A:=fun L=>{ tmps:=#[.slice ao1 N cap1,.slice ao2 M cap2,undef,.pointer (some ⟨w.heap.size,0,none⟩),.map none,.pointer (some ⟨w.heap.size+2,0,none⟩),.pointer (some ⟨X,0,none⟩),.pointer (some ⟨X+1,0,none⟩),.int .i64 j0,.pointer (c2 j0),.map (some (w.heap.size+1)),.slice ao1 N cap1,.func (.func 292) #[] #[.pointer (some ⟨w.heap.size+3,0,none⟩)],.int .i64 i0,.pointer (c1 i0),.slice ao2 M cap2,.func (.func 292) #[] #[.pointer (some ⟨W.heap.size,0,none⟩)],.int .i64 j0,.pointer (c2 j0),.pointer (c1 i0),.pointer (c2 j0),.bool true,cond (L 0) (.map (some (w.heap.size+1))) undef,cond (L 1) (.int .i64 i0) undef,cond (L 2) (.int .i64 j0) undef,cond (L 3) (.agg #[.int .i64 i0,.int .i64 j0]) undef,cond (L 4) (.map (some (w.heap.size+1))) undef,cond (L 5) (.int .i64 i0) undef,cond (L 6) (.int .i64 i1) undef,cond (L 7) (.int .i64 j0) undef,cond (L 8) (.int .i64 j1) undef,cond (L 9) (.agg #[.int .i64 i1,.int .i64 j1]) undef,cond (L 10) (.int .i64 u) undef,cond (L 11) (.int .i64 u1) undef,undef,undef,undef,undef,undef,undef,undef,undef,undef,undef,undef,undef,undef,undef,undef,undef,undef,undef],defers:=[] }) (Wd:=fun L=>cond (L 12) W4 W3.drew) 13 rfl (by kernel_rfl) ?hs ?he
    case hs =>
     intro L i o ho hi hno haft hcl K hK
     have hcase:i=0∨i=1∨i=2∨i=3∨i=4∨i=5∨i=6∨i=7∨i=8∨i=9∨i=10∨i=11∨i=12:=by omega
     rcases hcase with rfl|rfl|rfl|rfl|rfl|rfl|rfl|rfl|rfl|rfl|rfl|rfl|rfl
     ·obtain rfl:=Option.some.inj ho
      have nl:L 12=false:=by
       cases h:L 12
       ·rfl
       ·exact absurd (hcl 12 _ rfl h ⟨0,.phase⟩ (by simp) rfl) (by rw[hno];decide)
      refine wpOpIn_step rfl fun K' hK'=>?_
      simp (decide:=true) only[upd,nl,hno,cond_true,cond_false,if_true,if_false] at hK ⊢
      go_simp
      exact hK' _ _ hK
     ·obtain rfl:=Option.some.inj ho
      have nl:L 12=false:=by
       cases h:L 12
       ·rfl
       ·exact absurd (hcl 12 _ rfl h ⟨1,.phase⟩ (by simp) rfl) (by rw[hno];decide)
      refine wpOpIn_step rfl fun K' hK'=>?_
      simp (decide:=true) only[upd,nl,hno,cond_true,cond_false,if_true,if_false] at hK ⊢
      go_simp
      exact hK' _ _ hK
     ·obtain rfl:=Option.some.inj ho
      have nl:L 12=false:=by
       cases h:L 12
       ·rfl
       ·exact absurd (hcl 12 _ rfl h ⟨2,.phase⟩ (by simp) rfl) (by rw[hno];decide)
      refine wpOpIn_step rfl fun K' hK'=>?_
      simp (decide:=true) only[upd,nl,hno,cond_true,cond_false,if_true,if_false] at hK ⊢
      go_simp
      exact hK' _ _ hK
     ·obtain rfl:=Option.some.inj ho
      have a1:=haft ⟨1,.data⟩ (by simp) rfl
      have a2:=haft ⟨2,.data⟩ (by simp) rfl
      have nl:L 12=false:=by
       cases h:L 12
       ·rfl
       ·exact absurd (hcl 12 _ rfl h ⟨3,.phase⟩ (by simp) rfl) (by rw[hno];decide)
      refine wpOpIn_step rfl fun K' hK'=>?_
      simp (decide:=true) only[upd,a1,a2,nl,hno,cond_true,cond_false,if_true,if_false] at hK ⊢
      go_simp
      exact hK' _ _ hK
     ·obtain rfl:=Option.some.inj ho
      have nl:L 12=false:=by
       cases h:L 12
       ·rfl
       ·exact absurd (hcl 12 _ rfl h ⟨4,.phase⟩ (by simp) rfl) (by rw[hno];decide)
      refine wpOpIn_step rfl fun K' hK'=>?_
      simp (decide:=true) only[upd,nl,hno,cond_true,cond_false,if_true,if_false] at hK ⊢
      go_simp
      exact hK' _ _ hK
     ·obtain rfl:=Option.some.inj ho
      have nl:L 12=false:=by
       cases h:L 12
       ·rfl
       ·exact absurd (hcl 12 _ rfl h ⟨5,.phase⟩ (by simp) rfl) (by rw[hno];decide)
      refine wpOpIn_step rfl fun K' hK'=>?_
      simp (decide:=true) only[upd,nl,hno,cond_true,cond_false,if_true,if_false] at hK ⊢
      go_simp
      exact hK' _ _ hK
     ·obtain rfl:=Option.some.inj ho
      have a5:=haft ⟨5,.data⟩ (by simp) rfl
      have nl:L 12=false:=by
       cases h:L 12
       ·rfl
       ·exact absurd (hcl 12 _ rfl h ⟨6,.phase⟩ (by simp) rfl) (by rw[hno];decide)
      refine wpOpIn_step rfl fun K' hK'=>?_
      simp (decide:=true) only[upd,a5,nl,hno,cond_true,cond_false,if_true,if_false] at hK ⊢
      go_simp
      exact hK' _ _ hK
     ·obtain rfl:=Option.some.inj ho
      have nl:L 12=false:=by
       cases h:L 12
       ·rfl
       ·exact absurd (hcl 12 _ rfl h ⟨7,.phase⟩ (by simp) rfl) (by rw[hno];decide)
      refine wpOpIn_step rfl fun K' hK'=>?_
      simp (decide:=true) only[upd,nl,hno,cond_true,cond_false,if_true,if_false] at hK ⊢
      go_simp
      exact hK' _ _ hK
     ·obtain rfl:=Option.some.inj ho
      have a7:=haft ⟨7,.data⟩ (by simp) rfl
      have nl:L 12=false:=by
       cases h:L 12
       ·rfl
       ·exact absurd (hcl 12 _ rfl h ⟨8,.phase⟩ (by simp) rfl) (by rw[hno];decide)
      refine wpOpIn_step rfl fun K' hK'=>?_
      simp (decide:=true) only[upd,a7,nl,hno,cond_true,cond_false,if_true,if_false] at hK ⊢
      go_simp
      exact hK' _ _ hK
     ·obtain rfl:=Option.some.inj ho
      have a6:=haft ⟨6,.data⟩ (by simp) rfl
      have a8:=haft ⟨8,.data⟩ (by simp) rfl
      have nl:L 12=false:=by
       cases h:L 12
       ·rfl
       ·exact absurd (hcl 12 _ rfl h ⟨9,.phase⟩ (by simp) rfl) (by rw[hno];decide)
      refine wpOpIn_step rfl fun K' hK'=>?_
      simp (decide:=true) only[upd,a6,a8,nl,hno,cond_true,cond_false,if_true,if_false] at hK ⊢
      go_simp
      exact hK' _ _ hK
     ·obtain rfl:=Option.some.inj ho
      have a4:=haft ⟨4,.data⟩ (by simp) rfl
      have a9:=haft ⟨9,.data⟩ (by simp) rfl
      have nl:L 12=false:=by
       cases h:L 12
       ·rfl
       ·exact absurd (hcl 12 _ rfl h ⟨10,.phase⟩ (by simp) rfl) (by rw[hno];decide)
      refine wpOpIn_step rfl fun K' hK'=>?_
      simp (decide:=true) only[upd,a4,a9,nl,hno,cond_true,cond_false,if_true,if_false] at hK ⊢
      go_simp
      exact hK' _ _ hK
     ·obtain rfl:=Option.some.inj ho
      have a10:=haft ⟨10,.data⟩ (by simp) rfl
      have nl:L 12=false:=by
       cases h:L 12
       ·rfl
       ·exact absurd (hcl 12 _ rfl h ⟨11,.phase⟩ (by simp) rfl) (by rw[hno];decide)
      refine wpOpIn_step rfl fun K' hK'=>?_
      simp (decide:=true) only[upd,a10,nl,hno,cond_true,cond_false,if_true,if_false] at hK ⊢
      go_simp
      exact hK' _ _ hK
     ·obtain rfl:=Option.some.inj ho
      have a0:=haft ⟨0,.data⟩ (by simp) rfl
      have a1:=haft ⟨1,.phase⟩ (by simp) rfl
      have a2:=haft ⟨2,.phase⟩ (by simp) rfl
      have a3:=haft ⟨3,.data⟩ (by simp) rfl
      have a4:=haft ⟨4,.phase⟩ (by simp) rfl
      have a5:=haft ⟨5,.phase⟩ (by simp) rfl
      have a6:=haft ⟨6,.phase⟩ (by simp) rfl
      have a7:=haft ⟨7,.phase⟩ (by simp) rfl
      have a8:=haft ⟨8,.phase⟩ (by simp) rfl
      have a9:=haft ⟨9,.phase⟩ (by simp) rfl
      have a10:=haft ⟨10,.phase⟩ (by simp) rfl
      have a11:=haft ⟨11,.data⟩ (by simp) rfl
      refine wpOpIn_step rfl fun K' hK'=>?_
      simp (decide:=true) only[upd,a0,a1,a2,a3,a4,a5,a6,a7,a8,a9,a10,a11,hno,cond_true,cond_false,if_true,if_false] at hK ⊢
      go_simp
      exact hK' _ _ hK
    case he =>
     intro L hL
     have h0:=hL 0 (by decide)
     have h1:=hL 1 (by decide)
     have h2:=hL 2 (by decide)
     have h3:=hL 3 (by decide)
     have h4:=hL 4 (by decide)
     have h5:=hL 5 (by decide)
     have h6:=hL 6 (by decide)
     have h7:=hL 7 (by decide)
     have h8:=hL 8 (by decide)
     have h9:=hL 9 (by decide)
     have h10:=hL 10 (by decide)
     have h11:=hL 11 (by decide)
     have h12:=hL 12 (by decide)
     simp only[h0,h1,h2,h3,h4,h5,h6,h7,h8,h9,h10,h11,h12,cond_true]
     clear hL h0 h1 h2 h3 h4 h5 h6 h7 h8 h9 h10 h11 h12
     gi_wp2
     exact unhide HEND
   case false =>
    have hb3:=unhide HB3
    have hI3:=(unhide HII).kept (by rw[unhide HBS];omega) hXl hb3.os hb3.tape hb3.output hb3.size fun j hj _ _=>hb3.block j hj
    obtain⟨a1,ha1⟩:∃a1,a1=Sp.lv xs ys k q i1 j0:=⟨_,rfl⟩
    obtain⟨a2,ha2⟩:∃a2,a2=Sp.lv xs ys k q i0 j1:=⟨_,rfl⟩
    have lk1:=hI3.inv.inv.look (i:=i1) (j:=j0) hi7 hj6 (W':=W3.drew) rfl
    have lk2:=hI3.inv.inv.look (i:=i0) (j:=j1) hi6 hj7 (W':=W3.drew) rfl
    rw[← ha1] at lk1
    rw[← ha2] at lk2
    have h61:a1≤1000000:=by rw[ha1];exact unhide HLE i1 j0
    have h62:a2≤1000000:=by rw[ha2];exact unhide HLE i0 j1
    obtain⟨a3,ha3⟩:∃a3,a3=max a1 a2:=⟨_,rfl⟩
    have hmx:∀tys ty wq,(Builtin.max_ tys ty #[.int .i64 a1,.int .i64 a2]).run Tryz.prog wq = .ok (.int .i64 a3) wq:=fun tys ty wq=>max_two a1 a2 a3 ha3 tys ty wq
    have h63:a3≤1000000:=by omega
    obtain⟨W4,hup,hI4,hg4⟩:=hI3.inv.inv.put (a:=i0) (b:=j0) (v:=a3) (unhide HCNT) hi6 hj6 (by omega)
    have r5:W3.drew.cell? ⟨w.heap.size+2,0,none⟩=some (.map (some (w.heap.size+1))):=(show W3.cell? _=_ from by have:=hI3.inv.inv.left;simp[World.cell?,this])
    have r6:W3.drew.cell? ⟨X,0,none⟩=some (.int .i64 i0):=(show W3.cell? _=_ from by have:=hI3.inv.bi;simp[World.cell?,this])
    have HEND:=hide (show W4.heap[W.heap.size+1]? = W2.heap[W.heap.size+1]? ∧ InI w (.slice ao1 N cap1) (.slice ao2 M cap2) (k*M+(q+1)) (Sp.lv xs ys k (q+1)) wB.heap.size X i0 (c1 i0) W W4 from by
     have h5:=hI4.as (V':=Sp.lv xs ys k (q+1)) (Nat.le_refl _) (fun i j=>by have h8:=unhide HSTEP i j;simp only[Bool.false_eq_true,if_false] at h8;rw[ha3,ha1,ha2];exact h8)
     refine⟨(hg4.block _ (by have:=hb3.size;omega) (fun e=>?_)).trans (hb3.block _ (by omega)),hI3.next (by rw[unhide HBS];omega) hXl h5 hg4⟩
     have:=Option.some.inj e
     omega)
    clear hI3 hI4 hg4 hb3 xc ha1 ha2 ha3
    gi_wp2
    refine wpIn_region_any (by kernel_rfl) ?_
    refine wpAnyIn_det (A:=fun L=>{ tmps:=#[.slice ao1 N cap1,.slice ao2 M cap2,undef,.pointer (some ⟨w.heap.size,0,none⟩),.map none,.pointer (some ⟨w.heap.size+2,0,none⟩),.pointer (some ⟨X,0,none⟩),.pointer (some ⟨X+1,0,none⟩),.int .i64 j0,.pointer (c2 j0),.map (some (w.heap.size+1)),.slice ao1 N cap1,.func (.func 292) #[] #[.pointer (some ⟨w.heap.size+3,0,none⟩)],.int .i64 i0,.pointer (c1 i0),.slice ao2 M cap2,.func (.func 292) #[] #[.pointer (some ⟨W.heap.size,0,none⟩)],.int .i64 j0,.pointer (c2 j0),.pointer (c1 i0),.pointer (c2 j0),.bool false,undef,undef,undef,undef,undef,undef,undef,undef,undef,undef,undef,undef,cond (L 0) (.map (some (w.heap.size+1))) undef,cond (L 1) (.int .i64 i0) undef,cond (L 2) (.int .i64 j0) undef,cond (L 3) (.agg #[.int .i64 i0,.int .i64 j0]) undef,cond (L 4) (.map (some (w.heap.size+1))) undef,cond (L 5) (.int .i64 i0) undef,cond (L 6) (.int .i64 i1) undef,cond (L 7) (.int .i64 j0) undef,cond (L 8) (.agg #[.int .i64 i1,.int .i64 j0]) undef,cond (L 9) (.int .i64 a1) undef,cond (L 10) (.map (some (w.heap.size+1))) undef,cond (L 11) (.int .i64 i0) undef,cond (L 12) (.int .i64 j0) undef,cond (L 13) (.int .i64 j1) undef,cond (L 14) (.agg #[.int .i64 i0,.int .i64 j1]) undef,cond (L 15) (.int .i64 a2) undef,cond (L 16) (.int .i64 a3) undef,undef],defers:=[] }) (Wd:=fun L=>cond (L 17) W4 W3.drew) 18 rfl (by kernel_rfl) ?hs ?he
    case hs =>
     intro L i o ho hi hno haft hcl K hK
     have hcase:i=0∨i=1∨i=2∨i=3∨i=4∨i=5∨i=6∨i=7∨i=8∨i=9∨i=10∨i=11∨i=12∨i=13∨i=14∨i=15∨i=16∨i=17:=by omega
     rcases hcase with rfl|rfl|rfl|rfl|rfl|rfl|rfl|rfl|rfl|rfl|rfl|rfl|rfl|rfl|rfl|rfl|rfl|rfl
     ·obtain rfl:=Option.some.inj ho
      have nl:L 17=false:=by
       cases h:L 17
       ·rfl
       ·exact absurd (hcl 17 _ rfl h ⟨0,.phase⟩ (by simp) rfl) (by rw[hno];decide)
      refine wpOpIn_step rfl fun K' hK'=>?_
      simp (decide:=true) only[upd,nl,hno,cond_true,cond_false,if_true,if_false] at hK ⊢
      go_simp
      exact hK' _ _ hK
     ·obtain rfl:=Option.some.inj ho
      have nl:L 17=false:=by
       cases h:L 17
       ·rfl
       ·exact absurd (hcl 17 _ rfl h ⟨1,.phase⟩ (by simp) rfl) (by rw[hno];decide)
      refine wpOpIn_step rfl fun K' hK'=>?_
      simp (decide:=true) only[upd,nl,hno,cond_true,cond_false,if_true,if_false] at hK ⊢
      go_simp
      exact hK' _ _ hK
     ·obtain rfl:=Option.some.inj ho
      have nl:L 17=false:=by
       cases h:L 17
       ·rfl
       ·exact absurd (hcl 17 _ rfl h ⟨2,.phase⟩ (by simp) rfl) (by rw[hno];decide)
      refine wpOpIn_step rfl fun K' hK'=>?_
      simp (decide:=true) only[upd,nl,hno,cond_true,cond_false,if_true,if_false] at hK ⊢
      go_simp
      exact hK' _ _ hK
     ·obtain rfl:=Option.some.inj ho
      have a1:=haft ⟨1,.data⟩ (by simp) rfl
      have a2:=haft ⟨2,.data⟩ (by simp) rfl
      have nl:L 17=false:=by
       cases h:L 17
       ·rfl
       ·exact absurd (hcl 17 _ rfl h ⟨3,.phase⟩ (by simp) rfl) (by rw[hno];decide)
      refine wpOpIn_step rfl fun K' hK'=>?_
      simp (decide:=true) only[upd,a1,a2,nl,hno,cond_true,cond_false,if_true,if_false] at hK ⊢
      go_simp
      exact hK' _ _ hK
     ·obtain rfl:=Option.some.inj ho
      have nl:L 17=false:=by
       cases h:L 17
       ·rfl
       ·exact absurd (hcl 17 _ rfl h ⟨4,.phase⟩ (by simp) rfl) (by rw[hno];decide)
      refine wpOpIn_step rfl fun K' hK'=>?_
      simp (decide:=true) only[upd,nl,hno,cond_true,cond_false,if_true,if_false] at hK ⊢
      go_simp
      exact hK' _ _ hK
     ·obtain rfl:=Option.some.inj ho
      have nl:L 17=false:=by
       cases h:L 17
       ·rfl
       ·exact absurd (hcl 17 _ rfl h ⟨5,.phase⟩ (by simp) rfl) (by rw[hno];decide)
      refine wpOpIn_step rfl fun K' hK'=>?_
      simp (decide:=true) only[upd,nl,hno,cond_true,cond_false,if_true,if_false] at hK ⊢
      go_simp
      exact hK' _ _ hK
     ·obtain rfl:=Option.some.inj ho
      have a5:=haft ⟨5,.data⟩ (by simp) rfl
      have nl:L 17=false:=by
       cases h:L 17
       ·rfl
       ·exact absurd (hcl 17 _ rfl h ⟨6,.phase⟩ (by simp) rfl) (by rw[hno];decide)
      refine wpOpIn_step rfl fun K' hK'=>?_
      simp (decide:=true) only[upd,a5,nl,hno,cond_true,cond_false,if_true,if_false] at hK ⊢
      go_simp
      exact hK' _ _ hK
     ·obtain rfl:=Option.some.inj ho
      have nl:L 17=false:=by
       cases h:L 17
       ·rfl
       ·exact absurd (hcl 17 _ rfl h ⟨7,.phase⟩ (by simp) rfl) (by rw[hno];decide)
      refine wpOpIn_step rfl fun K' hK'=>?_
      simp (decide:=true) only[upd,nl,hno,cond_true,cond_false,if_true,if_false] at hK ⊢
      go_simp
      exact hK' _ _ hK
     ·obtain rfl:=Option.some.inj ho
      have a6:=haft ⟨6,.data⟩ (by simp) rfl
      have a7:=haft ⟨7,.data⟩ (by simp) rfl
      have nl:L 17=false:=by
       cases h:L 17
       ·rfl
       ·exact absurd (hcl 17 _ rfl h ⟨8,.phase⟩ (by simp) rfl) (by rw[hno];decide)
      refine wpOpIn_step rfl fun K' hK'=>?_
      simp (decide:=true) only[upd,a6,a7,nl,hno,cond_true,cond_false,if_true,if_false] at hK ⊢
      go_simp
      exact hK' _ _ hK
     ·obtain rfl:=Option.some.inj ho
      have a4:=haft ⟨4,.data⟩ (by simp) rfl
      have a8:=haft ⟨8,.data⟩ (by simp) rfl
      have nl:L 17=false:=by
       cases h:L 17
       ·rfl
       ·exact absurd (hcl 17 _ rfl h ⟨9,.phase⟩ (by simp) rfl) (by rw[hno];decide)
      refine wpOpIn_step rfl fun K' hK'=>?_
      simp (decide:=true) only[upd,a4,a8,nl,hno,cond_true,cond_false,if_true,if_false] at hK ⊢
      go_simp
      exact hK' _ _ hK
     ·obtain rfl:=Option.some.inj ho
      have nl:L 17=false:=by
       cases h:L 17
       ·rfl
       ·exact absurd (hcl 17 _ rfl h ⟨10,.phase⟩ (by simp) rfl) (by rw[hno];decide)
      refine wpOpIn_step rfl fun K' hK'=>?_
      simp (decide:=true) only[upd,nl,hno,cond_true,cond_false,if_true,if_false] at hK ⊢
      go_simp
      exact hK' _ _ hK
     ·obtain rfl:=Option.some.inj ho
      have nl:L 17=false:=by
       cases h:L 17
       ·rfl
       ·exact absurd (hcl 17 _ rfl h ⟨11,.phase⟩ (by simp) rfl) (by rw[hno];decide)
      refine wpOpIn_step rfl fun K' hK'=>?_
      simp (decide:=true) only[upd,nl,hno,cond_true,cond_false,if_true,if_false] at hK ⊢
      go_simp
      exact hK' _ _ hK
     ·obtain rfl:=Option.some.inj ho
      have nl:L 17=false:=by
       cases h:L 17
       ·rfl
       ·exact absurd (hcl 17 _ rfl h ⟨12,.phase⟩ (by simp) rfl) (by rw[hno];decide)
      refine wpOpIn_step rfl fun K' hK'=>?_
      simp (decide:=true) only[upd,nl,hno,cond_true,cond_false,if_true,if_false] at hK ⊢
      go_simp
      exact hK' _ _ hK
     ·obtain rfl:=Option.some.inj ho
      have a12:=haft ⟨12,.data⟩ (by simp) rfl
      have nl:L 17=false:=by
       cases h:L 17
       ·rfl
       ·exact absurd (hcl 17 _ rfl h ⟨13,.phase⟩ (by simp) rfl) (by rw[hno];decide)
      refine wpOpIn_step rfl fun K' hK'=>?_
      simp (decide:=true) only[upd,a12,nl,hno,cond_true,cond_false,if_true,if_false] at hK ⊢
      go_simp
      exact hK' _ _ hK
     ·obtain rfl:=Option.some.inj ho
      have a11:=haft ⟨11,.data⟩ (by simp) rfl
      have a13:=haft ⟨13,.data⟩ (by simp) rfl
      have nl:L 17=false:=by
       cases h:L 17
       ·rfl
       ·exact absurd (hcl 17 _ rfl h ⟨14,.phase⟩ (by simp) rfl) (by rw[hno];decide)
      refine wpOpIn_step rfl fun K' hK'=>?_
      simp (decide:=true) only[upd,a11,a13,nl,hno,cond_true,cond_false,if_true,if_false] at hK ⊢
      go_simp
      exact hK' _ _ hK
     ·obtain rfl:=Option.some.inj ho
      have a10:=haft ⟨10,.data⟩ (by simp) rfl
      have a14:=haft ⟨14,.data⟩ (by simp) rfl
      have nl:L 17=false:=by
       cases h:L 17
       ·rfl
       ·exact absurd (hcl 17 _ rfl h ⟨15,.phase⟩ (by simp) rfl) (by rw[hno];decide)
      refine wpOpIn_step rfl fun K' hK'=>?_
      simp (decide:=true) only[upd,a10,a14,nl,hno,cond_true,cond_false,if_true,if_false] at hK ⊢
      go_simp
      exact hK' _ _ hK
     ·obtain rfl:=Option.some.inj ho
      have a9:=haft ⟨9,.data⟩ (by simp) rfl
      have a15:=haft ⟨15,.data⟩ (by simp) rfl
      have nl:L 17=false:=by
       cases h:L 17
       ·rfl
       ·exact absurd (hcl 17 _ rfl h ⟨16,.phase⟩ (by simp) rfl) (by rw[hno];decide)
      refine wpOpIn_step rfl fun K' hK'=>?_
      simp (decide:=true) only[upd,a9,a15,nl,hno,cond_true,cond_false,if_true,if_false] at hK ⊢
      go_simp
      exact hK' _ _ hK
     ·obtain rfl:=Option.some.inj ho
      have a0:=haft ⟨0,.data⟩ (by simp) rfl
      have a1:=haft ⟨1,.phase⟩ (by simp) rfl
      have a2:=haft ⟨2,.phase⟩ (by simp) rfl
      have a3:=haft ⟨3,.data⟩ (by simp) rfl
      have a4:=haft ⟨4,.phase⟩ (by simp) rfl
      have a5:=haft ⟨5,.phase⟩ (by simp) rfl
      have a6:=haft ⟨6,.phase⟩ (by simp) rfl
      have a7:=haft ⟨7,.phase⟩ (by simp) rfl
      have a8:=haft ⟨8,.phase⟩ (by simp) rfl
      have a9:=haft ⟨9,.phase⟩ (by simp) rfl
      have a10:=haft ⟨10,.phase⟩ (by simp) rfl
      have a11:=haft ⟨11,.phase⟩ (by simp) rfl
      have a12:=haft ⟨12,.phase⟩ (by simp) rfl
      have a13:=haft ⟨13,.phase⟩ (by simp) rfl
      have a14:=haft ⟨14,.phase⟩ (by simp) rfl
      have a15:=haft ⟨15,.phase⟩ (by simp) rfl
      have a16:=haft ⟨16,.data⟩ (by simp) rfl
      refine wpOpIn_step rfl fun K' hK'=>?_
      simp (decide:=true) only[upd,a0,a1,a2,a3,a4,a5,a6,a7,a8,a9,a10,a11,a12,a13,a14,a15,a16,hno,cond_true,cond_false,if_true,if_false] at hK ⊢
      go_simp
      exact hK' _ _ hK
    case he =>
     intro L hL
     have h0:=hL 0 (by decide)
     have h1:=hL 1 (by decide)
     have h2:=hL 2 (by decide)
     have h3:=hL 3 (by decide)
     have h4:=hL 4 (by decide)
     have h5:=hL 5 (by decide)
     have h6:=hL 6 (by decide)
     have h7:=hL 7 (by decide)
     have h8:=hL 8 (by decide)
     have h9:=hL 9 (by decide)
     have h10:=hL 10 (by decide)
     have h11:=hL 11 (by decide)
     have h12:=hL 12 (by decide)
     have h13:=hL 13 (by decide)
     have h14:=hL 14 (by decide)
     have h15:=hL 15 (by decide)
     have h16:=hL 16 (by decide)
     have h17:=hL 17 (by decide)
     simp only[h0,h1,h2,h3,h4,h5,h6,h7,h8,h9,h10,h11,h12,h13,h14,h15,h16,h17,cond_true]
     clear hL h0 h1 h2 h3 h4 h5 h6 h7 h8 h9 h10 h11 h12 h13 h14 h15 h16 h17
     gi_wp2
     exact unhide HEND
 case hdone =>
  intro W hI hK
  have hlc:W.cell? ⟨w.heap.size+2,0,none⟩=some (.map (some (w.heap.size+1))):=by have:=hI.left;simp[World.cell?,this]
  have HII:=hide hI
  clear hI
  gi_wp2
  have h1:=unhide HII
  obtain⟨cnt,D,_,m1,m2⟩:=h1.map
  have hBs:=unhide HBS
  refine⟨by simp,.inl ⟨_,_,rfl,run_takeDeferred hK,?_⟩⟩
  refine⟨_,results_tmp rfl _ _ _,w.heap.size+1,cnt,D,rfl,by omega,tmap_kept m1 (World.putObj_heap_other (by omega)),m2.as fun i j=>by rw[unhide HNe];exact Sp.lv_end i j,?_⟩
  exact⟨h1.bel.os,h1.bel.tape,h1.bel.output,by simpa[World.putObj] using h1.bel.size,fun j hj=>(World.putObj_heap_other (by omega)).trans (h1.bel.block j hj)⟩
end

section
open Go.RowKit Go.Maps
namespace Sp
theorem apart_fuel:∀ (f g:Nat) (a b:List V) (k j:Nat),a.length+b.length≤f→a.length+b.length≤g→apart f a b k j=apart g a b k j
 | 0,0,_,_,_,_,_,_=>rfl
 | 0,g+1,[],[],_,_,_,_=>rfl
 | f+1,0,[],[],_,_,_,_=>rfl
 | 0,g+1,x::a,b,_,_,h,_=>by simp at h
 | 0,g+1,[],y::b,_,_,h,_=>by simp at h
 | f+1,0,x::a,b,_,_,_,h=>by simp at h
 | f+1,0,[],y::b,_,_,_,h=>by simp at h
 | f+1,g+1,[],[],_,_,_,_=>rfl
 | f+1,g+1,x::a,[],k,j,h1,h2=>by
  simp only[List.length_cons,List.length_nil] at h1 h2
  rw[apart,apart,apart_fuel f g a [] k j (by simp;omega) (by simp;omega)]
 | f+1,g+1,[],y::b,k,j,h1,h2=>by
  simp only[List.length_cons,List.length_nil] at h1 h2
  rw[apart,apart,apart_fuel f g [] b k (j+1) (by simp;omega) (by simp;omega)]
 | f+1,g+1,x::a,y::b,k,j,h1,h2=>by
  simp only[List.length_cons] at h1 h2
  rw[apart,apart,apart_fuel f g a (y::b) k j (by simp;omega) (by simp;omega),apart_fuel f g (x::a) b k (j+1) (by simp;omega) (by simp;omega),apart_fuel f g a b (k+1) (j+1) (by omega) (by omega)]
noncomputable def prt (a b:List V) (k j:Nat):List Nat×List Nat:=apart (a.length+b.length) a b k j
theorem prt_nil (k j:Nat):prt [] [] k j=([],[]):=rfl
theorem prt_rem {x:V} {a b:List V} {k j:Nat} (h:lcs a b=lcs (x::a) b):prt (x::a) b k j=(k::(prt a b k j).1,(prt a b k j).2):=by
 unfold prt
 rw[show (x::a).length+b.length=(a.length+b.length)+1 by simp;omega]
 cases b with
 | nil=>rw[apart]
 | cons y b=>rw[apart,if_pos h]
theorem prt_mis {y:V} {a b:List V} {k j:Nat} (h1:a=[]∨lcs a.tail (y::b)≠lcs a (y::b)) (h2:lcs a b=lcs a (y::b)):prt a (y::b) k j=((prt a b k (j+1)).1,j::(prt a b k (j+1)).2):=by
 unfold prt
 rw[show a.length+(y::b).length=(a.length+b.length)+1 by simp;omega]
 cases a with
 | nil=>rw[apart]
 | cons x a =>
  rcases h1 with h1|h1
  ·cases h1
  ·rw[List.tail_cons] at h1
   rw[apart,if_neg h1,if_pos h2]
theorem prt_keep {x y:V} {a b:List V} {k j:Nat} (h1:lcs a (y::b)≠lcs (x::a) (y::b)) (h2:lcs (x::a) b≠lcs (x::a) (y::b)):prt (x::a) (y::b) k j=prt a b (k+1) (j+1):=by
 unfold prt
 rw[show (x::a).length+(y::b).length=(a.length+b.length+1)+1 by simp;omega,apart,if_neg h1,if_neg h2]
 exact apart_fuel _ _ _ _ _ _ (by omega) (by omega)
def Got (xs ys:List V) (i j kept:Nat) (rs ms:List Nat):Prop:=i≤xs.length∧j≤ys.length∧kept≤i∧prt xs ys 0 0=(rs++(prt (xs.drop i) (ys.drop j) kept j).1,ms++(prt (xs.drop i) (ys.drop j) kept j).2)
variable {xs ys:List V} {i j kept:Nat} {rs ms:List Nat}
theorem Got.start:Got xs ys 0 0 0 [] []:=⟨Nat.zero_le _,Nat.zero_le _,Nat.le_refl _,rfl⟩
theorem Got.rem (h:Got xs ys i j kept rs ms) (hi:i<xs.length) (he:lcs (xs.drop (i+1)) (ys.drop j)=lcs (xs.drop i) (ys.drop j)):Got xs ys (i+1) j kept (rs++[kept]) ms:=by
 obtain⟨h1,h2,h3,h4⟩:=h
 have e:=List.drop_eq_getElem_cons hi
 rw[e] at h4 he
 refine⟨hi,h2,by omega,?_⟩
 rw[h4,prt_rem he]
 simp
theorem Got.mis (h:Got xs ys i j kept rs ms) (hj:j<ys.length) (h1:¬ (i<xs.length∧lcs (xs.drop (i+1)) (ys.drop j)=lcs (xs.drop i) (ys.drop j))) (he:lcs (xs.drop i) (ys.drop (j+1))=lcs (xs.drop i) (ys.drop j)):Got xs ys i (j+1) kept rs (ms++[j]):=by
 obtain⟨g1,g2,g3,g4⟩:=h
 have e:=List.drop_eq_getElem_cons hj
 refine⟨g1,hj,g3,?_⟩
 rw[e] at g4 he
 rw[g4,prt_mis (b:=ys.drop (j+1)) ?_ he]
 ·simp
 ·by_cases hi:i<xs.length
  ·right
   rw[List.tail_drop]
   intro hh
   rw[← e] at hh
   exact h1 ⟨hi,hh⟩
  ·exact Or.inl (List.drop_eq_nil_of_le (by omega))
theorem Got.keep (h:Got xs ys i j kept rs ms) (hi:i<xs.length) (hj:j<ys.length) (h1:lcs (xs.drop (i+1)) (ys.drop j)≠lcs (xs.drop i) (ys.drop j)) (h2:lcs (xs.drop i) (ys.drop (j+1))≠lcs (xs.drop i) (ys.drop j)):Got xs ys (i+1) (j+1) (kept+1) rs ms:=by
 obtain⟨g1,g2,g3,g4⟩:=h
 refine⟨hi,hj,by omega,?_⟩
 have e1:=List.drop_eq_getElem_cons hi
 have e2:=List.drop_eq_getElem_cons hj
 rw[g4]
 rw[e1,e2] at h1 h2
 rw[e1,e2,prt_keep]
 ·exact h1
 ·exact h2
theorem Got.end_ (h:Got xs ys i j kept rs ms) (hi:¬ i<xs.length) (hj:¬ j<ys.length):prt xs ys 0 0=(rs,ms):=by
 obtain⟨g1,g2,g3,g4⟩:=h
 rw[g4,List.drop_eq_nil_of_le (by omega),show ys.drop j=[] from List.drop_eq_nil_of_le (by omega),prt_nil]
 simp
theorem Got.len (h:Got xs ys i j kept rs ms):rs.length≤xs.length∧ms.length≤ys.length ∧ ∀k∈ms,k<ys.length:=by
 have h1:=apart_len (xs.length+ys.length) xs ys 0 0
 have h2:=(apart_bd (xs.length+ys.length) xs ys 0 0).2
 have h4:=h.2.2.2
 unfold prt at h4
 rw[h4] at h1 h2
 simp only[List.length_append] at h1
 exact⟨by omega,by omega,fun k hk=>by have:=h2 k (List.mem_append_left _ hk);omega⟩
theorem lcs_end_i (h:¬ i<xs.length) (j j':Nat):lcs (xs.drop i) (ys.drop j)=lcs (xs.drop i) (ys.drop j'):=by
 rw[List.drop_eq_nil_of_le (by omega),lcs,lcs]
theorem lcs_end_j (h:¬ j<ys.length) (i i':Nat):lcs (xs.drop i) (ys.drop j)=lcs (xs.drop i') (ys.drop j):=by
 rw[show ys.drop j=[] from List.drop_eq_nil_of_le (by omega),lcs_nil,lcs_nil]
def remO (s:List By) (i:Nat):Opn:=(1,numb s i,.nil)
def addO (s:List By) (ys:List V) (i:Nat):Opn:=(0,numb s i,(ys[i]?).getD .nil)
theorem diffA_eq (s:List By):diffA s xs ys=(prt xs ys 0 0).1.map (remO s)++(prt xs ys 0 0).2.map (addO s ys):=rfl
end Sp
end
end Go.Proofs.YtdpomdelmdofmaaGreatDoor
