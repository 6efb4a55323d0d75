/-
  Patches: pointerOf.
-/
import Derived.Test.YtdpomdelmdofmaaGreatDoorPart38
import Derived.Test.YtdpomdelmdofmaaGreatDoorPart41
import Derived.Test.YtdpomdelmdofmaaGreatDoorPart35
import Derived.Test.YtdpomdelmdofmaaGreatDoorPart33
import Derived.OrdersIn
import Derived.Deep.AppendLies
import Derived.Test.YtdpomdelmdofmaaGreatDoorPart34
namespace Go.Proofs.YtdpomdelmdofmaaGreatDoor
open Go.RowKit Go.Maps
section
variable {f:Nat} {F:Nat → Prop} {w:World} {v:Value} {o:Option Sp.V}
set_option maxRecDepth 100000 in
set_option maxHeartbeats 2000000 in
theorem ptr_any (h:MemR f F w v o) (hs:∀ s,Sp.pStrOf o = some s → s.length ≤ 1048576) (hT:Laid w) :
  Calls Tryz.prog 148 #[v] w fun e w'=>ptrNew w.heap.size (Sp.pPtrOf o) e w' ∧ Below w.heap.size w w':=by
 have HC:=hide (str_any h)
 obtain ⟨p,rfl⟩:=h.ptr
 unfold Sp.pPtrOf
 clear h
 cases hp:Sp.pStrOf o with
 | none =>
  rw [hp] at HC
  clear hp hs hT
  go_enter Tryz.func148,Tryz.ntmps148
  go_wp2_with (fail)
  refine (unhide HC).mono ?_
  rintro e w' ⟨rfl,rfl⟩
  unfold strV
  simp only [Option.getD_none,Option.isSome_none]
  go_wp2_with (fail)
  go_ret2
  exact ⟨rfl,Below.refl _ _⟩
 | some s =>
  rw [hp] at HC
  have HR:=hide (pRead_new (hs s hp) hT hT.pesc hT.mx)
  clear hp hs hT
  go_enter Tryz.func148,Tryz.ntmps148
  go_wp2_with (fail)
  refine (unhide HC).mono ?_
  rintro e w' ⟨rfl,rfl⟩
  unfold strV
  simp only [Option.getD_some,Option.isSome_some]
  go_wp2_with (fail)
  refine (unhide HR).mono ?_
  rintro e w2 ⟨hn,hb⟩
  cases ht:Sp.toks s with
  | none =>
   rw [ht] at hn
   obtain rfl:e = .returned (.tuple #[.slice none 0 0,.bool false]):=hn
   go_wp2_with (fail)
   go_ret2
   refine ⟨?_,hb⟩
   show ptrNew _ (Sp.toks s) _ _
   rw [ht]; rfl
  | some ks =>
   rw [ht] at hn
   obtain ⟨u,rfl,h1,h2⟩:=hn
   have H:=hide (show ptrNew _ (some ks) (.returned (.tuple #[u,.bool true])) w2 ∧ _ from ⟨⟨u,rfl,h1,h2⟩,hb⟩)
   have HT9:=hide ht
   clear h1 h2 hb ht
   go_wp2_with (fail)
   go_ret2
   refine ⟨?_,(unhide H).2⟩
   show ptrNew _ (Sp.toks s) _ _
   rw [unhide HT9]; exact (unhide H).1
end
end Go.Proofs.YtdpomdelmdofmaaGreatDoor

namespace Go.Proofs.YtdpomdelmdofmaaGreatDoor
open Go.RowKit Go.Maps
theorem wpList_look {P:Program} {w:World} {ops:Array Oper} {rest:List Oper} {o:Oper} {a:Act} {Q:Exit → Act → World → Prop} (hg:o.guard = none) (m x:Operand) (t:TypeId) (c:Bool) (hop:o.op = Op.lookup t m x c)
  (mv key r:Value) (hm:a.eval m = mv) (hx:a.eval x = key) (hrun:(Instr.lookup t mv key c).run P w = .ok r w) (hK:wpList P ops Q rest (a.put o.dst r) w):wpList P ops Q (o :: rest) a w:=by
 refine wpList_plain hg fun K' hK'=>?_
 unfold Oper.wp
 simp [execOp,hop,hm,hx,hrun,Result.andThen]
 exact hK' _ _ hK
theorem tokG_of {w:World} {G:Nat → Prop} {v:Value} {l:List Sp.By} (h:Toks w v l) (hg:∀ g,v.ownBlock = some g → G g):TokG w G v l:=by
 rcases h with h | ⟨g,o,cap,rfl,h2,h3,h4⟩
 ·exact Or.inl h
 ·exact Or.inr ⟨g,o,cap,rfl,h2,h3,hg g rfl,h4⟩
theorem tokG_slice {w:World} {G:Nat → Prop} {v:Value} {l:List Sp.By} (h:TokG w G v l):∃ a n c,v = .slice a n c:=by
 rcases h with ⟨_,a,c,rfl,_⟩ | ⟨g,o,cap,rfl,_⟩
 ·exact ⟨_,_,_,rfl⟩
 ·exact ⟨_,_,_,rfl⟩
theorem OpB.fz {w:World} {q k:Nat} {pa fa y:Option Addr} {pl pc fl fc:Nat} (h:OpB w q k pa pl pc fa fl fc y) (i:Nat):w.frozen? ⟨q,i,none⟩ = false:=Lib.frozen_of_heap h i
def itemEnd (F:Nat → Prop) (d:Sp.V) (w:World) (e:Ending) (w':World):Prop:=match Sp.pItem d with
 | none=>e = .returned (.tuple #[opV 0 none 0 0 none 0 0 none,.bool false])
 | some o=>∃ pa pl pc fa fl fc y,e = .returned (.tuple #[opV o.1 pa pl pc fa fl fc y,.bool true]) ∧ Op2R w' (fun k=>(F k ∧ k < w.heap.size) ∨ w.heap.size < k) o pa pl pc fa fl fc y
theorem setOp_block {W:World} {q:Nat} (a b c d:Value) (k:Nat) (hk:k ≠ q):((((W.setCell ⟨q,0,none⟩ a).setCell ⟨q,1,none⟩ b).setCell ⟨q,2,none⟩ c).setCell ⟨q,3,none⟩ d).heap[k]? = W.heap[k]? :=
 (Below.heap_setCell _ _ _ _ hk).trans ((Below.heap_setCell _ _ _ _ hk).trans ((Below.heap_setCell _ _ _ _ hk).trans (Below.heap_setCell _ _ _ _ hk)))
theorem setOp_below {B q:Nat} {w W:World} (h:Below B w W) (hq:B ≤ q) (a b c d:Value):Below B w ((((W.setCell ⟨q,0,none⟩ a).setCell ⟨q,1,none⟩ b).setCell ⟨q,2,none⟩ c).setCell ⟨q,3,none⟩ d) :=
 (((h.setCell (p:=⟨q,0,none⟩) hq _).setCell (p:=⟨q,1,none⟩) hq _).setCell (p:=⟨q,2,none⟩) hq _).setCell (p:=⟨q,3,none⟩) hq _
section
variable {f:Nat} {F:Nat → Prop} {w:World} {v:Value} {d:Sp.V} {m:Nat}
set_option maxRecDepth 100000 in
set_option maxHeartbeats 4000000 in
theorem item_any (h:Rep (f + 1) F w v d) (hf:f ≤ top) (hs:∀ k s,Sp.pStrOf (Sp.pMem d k) = some s → s.length ≤ 1048576) (hm:w.ownsMap Tryz.prog 219 KE m 6 (nD 6)) (hT:Laid w) :
  Calls Tryz.prog 115 #[.map (some m),v] w fun e w'=>itemEnd F d w e w' ∧ Below w.heap.size w w':=by
 obtain ⟨b,n,x,s,sl,mv,rfl,hv,hk⟩:=rep_mems h
 obtain ⟨y1,r1,l1⟩:=hk Sp.path_ (by decide)
 obtain ⟨y2,r2,l2⟩:=hk Sp.from_ (by decide)
 obtain ⟨y3,r3,l3⟩:=hk Sp.value_ (by decide)
 obtain ⟨y4,r4,l4⟩:=hk Sp.op_ (by decide)
 have hbl:=hv.lt
 have hml:m < w.heap.size:=by obtain ⟨es,clock,hb,_⟩:=hm; exact (Array.getElem?_eq_some_iff.1 hb).1
 obtain ⟨W0,hW0⟩:∃ W0,W0 = w.alloc (.cells #[.int .i64 0,.slice none 0 0,.slice none 0 0,.pointer none] 178):=⟨_,rfl⟩
 have hb0:Below w.heap.size w W0:=by rw [hW0]; exact (Below.refl _ _).alloc (Nat.le_refl _) _
 have hs0:W0.heap.size = w.heap.size + 1:=by rw [hW0]; simp
 have hq0:OpB W0 w.heap.size 0 none 0 0 none 0 0 none:=by rw [hW0]; exact heap_alloc_new w _
 obtain ⟨q,hq⟩:∃ q,q = w.heap.size:=⟨_,rfl⟩
 rw [← hq] at hb0 hs0 hq0
 have HV:=hide hv
 have HB0:=hide hb0
 have HS0:=hide hs0
 have HQ0:=hide hq0
 have HT0:=hide (hT.below (hb0.mono (by rw [hq]; exact hT.ng)))
 have H1:=hide (r1.bel (hq ▸ hb0))
 have HP1:=hide (ptr_any (r1.bel (hq ▸ hb0)) (fun s' hs'=>hs _ s' hs') (unhide HT0))
 have R2:=hide r2
 have R3:=hide r3
 have R4:=hide r4
 have L1:=hide (fun w' (hb:Below q w w')=>(l1 w' (hq ▸ hb)).2)
 have L2:=hide (fun w' (hb:Below q w w')=>(l2 w' (hq ▸ hb)).2)
 have L3:=hide (fun w' (hb:Below q w w')=>(l3 w' (hq ▸ hb)).1)
 have L4:=hide (fun w' (hb:Below q w w')=>(l4 w' (hq ▸ hb)).2)
 have HM:=hide hm
 have HML:=hide hml
 have HQ:=hide hq
 have HW0:=hide hW0
 have HSS:=hide hs
 have HBL:=hide hbl
 have c60:=(hv.kept (hb0.block b (by rw [hq]; exact hbl))).c6
 obtain ⟨p1,rfl⟩:=r1.ptr
 obtain ⟨p2,rfl⟩:=r2.ptr
 obtain ⟨p3,rfl⟩:=r3.ptr
 obtain ⟨p4,rfl⟩:=r4.ptr
 obtain ⟨E,hE⟩:∃ E,E = itemEnd F d w:=⟨_,rfl⟩
 rw [← hE]
 have HE:=hide hE
 clear hE
 rw [← unhide HQ]
 rw [hW0] at c60
 have c6:=c60
 clear h hk hs hm hT r1 r2 r3 r4 l1 l2 l3 l4 hv hbl hml hb0 hs0 hq0 hq hW0 c60
 go_enter Tryz.func115,Tryz.ntmps115
 go_wp2_with (first | (at_lookup; refine wpList_look rfl _ _ 109 false rfl _ _ _ rfl rfl (unhide L1 _ (unhide HW0 ▸ unhide HB0)) ?_))
 rw [← unhide HW0,← unhide HQ]
 have HQW:=hide (show q ≤ W0.heap.size by have:=unhide HS0; omega)
 refine (unhide HP1).mono ?_
 rintro e W1 ⟨hn1,hb1⟩
 have HB1:=hide ((unhide HB0).trans (hb1.mono (unhide HQW)))
 have hq1:OpB W1 q 0 none 0 0 none 0 0 none:=(hb1.block q (by have:=unhide HS0; omega)).trans (unhide HQ0)
 have HS1:=hide hb1.size
 cases hpp:Sp.pPtrOf (Sp.pMem d Sp.path_) with
 | none =>
  rw [hpp] at hn1
  obtain rfl:e = .returned (.tuple #[.slice none 0 0,.bool false]):=hn1
  have g0:=hq1.c0
  have g1:=hq1.c1
  have g2:=hq1.c2
  have g3:=hq1.c3
  have z:=hq1.fz
  have HIT:=hide (show Sp.pItem d = none by unfold Sp.pItem; rw [hpp])
  clear hb1 hq1 hpp c6
  go_wp2_with (fail)
  refine bodyPost_ret (v:=.tuple #[opV 0 none 0 0 none 0 0 none,.bool false]) (by simp [results,Tryz.results115,go_sem,g0,g1,g2,g3]) rfl ?_
  refine ⟨?_,setOp_below (unhide HB1) (Nat.le_refl _) _ _ _ _⟩
  rw [unhide HE,itemEnd,unhide HIT]
 | some p =>
  rw [hpp] at hn1
  obtain ⟨u,rfl,ht1,hg1⟩:=hn1
  have HTK1:=hide (tokG_of ht1 (G:=fun k=>W0.heap.size ≤ k) hg1)
  obtain ⟨pa,pl,pc,rfl⟩:=tokG_slice (unhide HTK1)
  have c61:=((unhide HV).kept ((unhide HB1).block b (by have:=unhide HBL; have:=unhide HQ; omega))).c6
  have hT1:Laid W1:=(unhide HT0).below (hb1.mono (unhide HT0).ng)
  have HT1:=hide hT1
  have HQ1:=hide hq1
  have HP2:=hide (ptr_any ((unhide R2).bel (unhide HQ ▸ unhide HB1)) (fun s' hs'=>unhide HSS _ s' hs') hT1)
  have HPP:=hide hpp
  clear ht1 hg1 hpp c6 hb1 hq1 hT1
  go_wp2_with (first | (at_lookup; refine wpList_look rfl _ _ 109 false rfl _ _ _ rfl rfl (unhide L2 _ (unhide HB1)) ?_))
  refine (unhide HP2).mono ?_
  rintro e W2 ⟨hn2,hb2⟩
  obtain ⟨fa,fl,fc,rfl,hfr⟩:∃ fa fl fc,e = .returned (.tuple #[.slice fa fl fc,.bool (Sp.pPtrOf (Sp.pMem d Sp.from_)).isSome]) ∧ ∀ t,Sp.pPtrOf (Sp.pMem d Sp.from_) = some t → TokG W2 (fun k=>W1.heap.size ≤ k) (.slice fa fl fc) t:=by
   cases hf2:Sp.pPtrOf (Sp.pMem d Sp.from_) with
   | none =>
    rw [hf2] at hn2
    exact ⟨none,0,0,hn2,fun t h=>by cases h⟩
   | some t2 =>
    rw [hf2] at hn2
    obtain ⟨u,rfl,ht2,hg2⟩:=hn2
    have htk2:=tokG_of ht2 (G:=fun k=>W1.heap.size ≤ k) hg2
    obtain ⟨fa,fl,fc,rfl⟩:=tokG_slice htk2
    exact ⟨fa,fl,fc,rfl,fun t h=>by injection h with h; subst h; exact htk2⟩
  have HFR:=hide hfr
  have hb12:q ≤ W1.heap.size:=Nat.le_trans (unhide HQW) (unhide HS1)
  have HB2:=hide ((unhide HB1).trans (hb2.mono hb12))
  have HB12:=hide hb2
  have c62:=((unhide HV).kept ((unhide HB2).block b (by have:=unhide HBL; have:=unhide HQ; omega))).c6
  have HM2:=kmap_kept (unhide HM) ((unhide HB2).block m (by have:=unhide HML; have:=unhide HQ; omega))
  have HC4:=hide (str_any ((unhide R4).bel (unhide HQ ▸ unhide HB2)))
  have HQ2:=hide (show OpB W2 q 0 none 0 0 none 0 0 none from (hb2.block q (by have:=unhide HS1; have:=unhide HS0; omega)).trans (unhide HQ1))
  obtain ⟨bf,hbf⟩:∃ bf,bf = (Sp.pPtrOf (Sp.pMem d Sp.from_)).isSome:=⟨_,rfl⟩
  obtain ⟨bv,hbv⟩:∃ bv,bv = (Sp.pMem d Sp.value_).isSome:=⟨_,rfl⟩
  obtain ⟨nm,hnm⟩:∃ nm,nm = (Sp.pStrOf (Sp.pMem d Sp.op_)).getD []:=⟨_,rfl⟩
  have hnl:nm.length ≤ 1048576:=by
   rw [hnm]
   cases h:Sp.pStrOf (Sp.pMem d Sp.op_) with
   | none=>simp
   | some s'=>exact unhide HSS _ s' h
  have HF:=hide (find_any HM2 (x:=(nm,bv,bf)) hnl)
  rw [Sp.findOf_kind] at HF
  unfold nv at HF
  simp only at HF
  unfold strV at HC4
  rw [← hnm] at HC4
  obtain ⟨b4,hb4⟩:∃ b4,b4 = (Sp.pStrOf (Sp.pMem d Sp.op_)).isSome:=⟨_,rfl⟩
  rw [← hb4] at HC4
  rw [← hbf]
  have L3':=hide (unhide L3 _ (unhide HB2))
  rw [← hbv] at L3'
  have HBF:=hide hbf
  have HBV:=hide hbv
  have HNM:=hide hnm
  clear hn2 hfr hb2 hb12 HM2 hbf hbv hnm hnl hb4 c61
  go_wp2_with (first | (at_lookup; refine wpList_look rfl _ _ 109 true rfl _ _ _ rfl rfl (unhide L3') ?_) | (at_lookup; refine wpList_look rfl _ _ 109 false rfl _ _ _ rfl rfl (unhide L4 _ (unhide HB2)) ?_))
  refine (unhide HC4).mono ?_
  rintro e W2' ⟨rfl,rfl⟩
  go_wp2_with (fail)
  refine (unhide HF).mono ?_
  rintro e W3 ⟨rfl,hb3⟩
  have hq3:OpB W3 q 0 none 0 0 none 0 0 none:=(hb3.block q (unhide HQ2).lt).trans (unhide HQ2)
  have HB3:=hide ((unhide HB2).trans (hb3.mono (Nat.le_trans (Nat.le_trans (unhide HQW) (unhide HS1)) (unhide HB12).size)))
  have HB23:=hide hb3
  have g0:=hq3.c0
  have g1:=hq3.c1
  have g2:=hq3.c2
  have g3:=hq3.c3
  have z:=hq3.fz
  clear hq3 hb3 HF HC4
  unfold findV
  cases hkk:Sp.kindOf nm bv bf with
  | none =>
   simp only [Option.getD_none,Option.isSome_none]
   have HIT:=hide (show Sp.pItem d = none by unfold Sp.pItem; rw [unhide HPP]; simp only; rw [← unhide HBF,← unhide HBV,← unhide HNM,hkk])
   clear hkk
   go_wp2_with (fail)
   refine bodyPost_ret (v:=.tuple #[opV 0 none 0 0 none 0 0 none,.bool false]) (by simp [results,Tryz.results115,go_sem,g0,g1,g2,g3]) rfl ?_
   refine ⟨?_,setOp_below (unhide HB3) (Nat.le_refl _) _ _ _ _⟩
   rw [unhide HE,itemEnd,unhide HIT]
  | some k =>
   simp only [Option.getD_some,Option.isSome_some]
   have HIT:=hide (show Sp.pItem d = some (k,p,(Sp.pPtrOf (Sp.pMem d Sp.from_)).getD [],(Sp.pMem d Sp.value_).getD .nil) by unfold Sp.pItem; rw [unhide HPP]; simp only; rw [← unhide HBF,← unhide HBV,← unhide HNM,hkk])
   have HKK:=hide hkk
   clear hkk
   go_wp2_with (fail)
   refine bodyPost_ret (v:=.tuple #[opV k pa pl pc fa fl fc p3,.bool true]) (by simp [results,Tryz.results115,go_sem,g0,g1,g2,g3]) rfl ?_
   refine ⟨?_,setOp_below (unhide HB3) (Nat.le_refl _) _ _ _ _⟩
   rw [unhide HE,itemEnd,unhide HIT]
   obtain ⟨k1,k2,k3⟩:=kindOf_facts (unhide HKK)
   have hs0:=unhide HS0
   have hs1:=unhide HS1
   have hs2:=(unhide HB12).size
   have hQ:=unhide HQ
   have hfin:∀ j,j < W3.heap.size → j ≠ q → ∀ a b c d',(((((W3.setCell ⟨q,0,none⟩ a).setCell ⟨q,1,none⟩ b).setCell ⟨q,2,none⟩ c).setCell ⟨q,3,none⟩ d').heap[j]? = W3.heap[j]?):=fun j _ hj a b c d'=>setOp_block a b c d' j hj
   refine ⟨pa,pl,pc,fa,fl,fc,p3,rfl,k1,?_,fun h3=>?_,fun h3=>?_⟩
   ·refine ((unhide HTK1).move (w':=W3) (G':=fun j=>W0.heap.size ≤ j) fun j hj hjl=>⟨?_,hj⟩).move fun j hj hjl=>⟨hfin j hjl (by omega) _ _ _ _,Or.inr (by omega)⟩
    exact ((unhide HB23).block j (by omega)).trans ((unhide HB12).block j hjl)
   ·have h4:=k3 h3
    cases hq:Sp.pPtrOf (Sp.pMem d Sp.from_) with
    | none=>have h5:=unhide HBF; rw [hq,h4] at h5; cases h5
    | some t2 =>
     refine ((unhide HFR t2 hq).move (w':=W3) (G':=fun j=>W1.heap.size ≤ j) fun j hj hjl=>⟨(unhide HB23).block j hjl,hj⟩).move fun j hj hjl=>⟨hfin j hjl (by omega) _ _ _ _,Or.inr (by omega)⟩
   ·have h4:=k2 h3
    cases hq:Sp.pMem d Sp.value_ with
    | none=>have h5:=unhide HBV; rw [hq,h4] at h5; cases h5
    | some y =>
     have h6:=unhide R3
     rw [hq] at h6
     have h7:Rep top F w (.pointer p3) y:=Rep.up h6 hf
     exact h7.move fun j hj hjl=>⟨(hfin j (by have:=(unhide HB3).size; omega) (by omega) _ _ _ _).trans ((unhide HB3).block j (by omega)),Or.inl ⟨hj,by omega⟩⟩
end
end Go.Proofs.YtdpomdelmdofmaaGreatDoor

namespace Go.Proofs.YtdpomdelmdofmaaGreatDoor
open Go.RowKit
def lst (x y z:Nat):Array Bool:=#[decide (1 ≤ x),decide (1 ≤ y),decide (2 ≤ y),decide (3 ≤ y),decide (4 ≤ y),decide (1 ≤ z),decide (2 ≤ z),decide (3 ≤ z),false,false,false,false]
def rdy (x y z:Nat):List Nat:=(if x < 1 then [0] else []) ++ ((if y < 4 then [1 + y] else []) ++ (if z < 3 then [5 + z] else []))
def isDiamond (ops:Array Oper):Bool:=(List.range 2).all fun x=>(List.range 5).all fun y=>(List.range 4).all fun z=>(y == 4 && z == 3) || (Region.ready .any ops (lst x y z) == rdy x y z)
theorem lst_x (y z:Nat):(lst 0 y z).setIfInBounds 0 true = lst 1 y z:=rfl
theorem lst_y {x y z:Nat} (h:y < 4):(lst x y z).setIfInBounds (1 + y) true = lst x (y + 1) z:=by
 match y,h with
 | 0,_=>rfl
 | 1,_=>rfl
 | 2,_=>rfl
 | 3,_=>rfl
theorem lst_z {x y z:Nat} (h:z < 3):(lst x y z).setIfInBounds (5 + z) true = lst x y (z + 1):=by
 match z,h with
 | 0,_=>rfl
 | 1,_=>rfl
 | 2,_=>rfl
theorem diamond {F:Fence} {n:Nat} {P:Program} {ops:Array Oper} {Q:Exit → Act → World → Prop} (A:Nat → Nat → Nat → Act) (W:Nat → World) (hd:isDiamond ops = true)
  (h0:∀ y z (K:Act → World → Prop),y ≤ 4 → z ≤ 3 → K (A 1 y z) (W z) → wpOpIn F n P ops Q 0 K (A 0 y z) (W z))
  (h1:∀ x y z (K:Act → World → Prop),x ≤ 1 → y < 4 → z ≤ 3 → K (A x (y + 1) z) (W z) → wpOpIn F n P ops Q (1 + y) K (A x y z) (W z))
  (h5:∀ x y z (K:Act → World → Prop),x ≤ 1 → y ≤ 4 → z < 3 → K (A x y (z + 1)) (W (z + 1)) → wpOpIn F n P ops Q (5 + z) K (A x y z) (W z))
  (hl:wpAnyIn F n P .any ops Q 4 (lst 1 4 3) (A 1 4 3) (W 3)) (hl0:wpAnyIn F n P .any ops Q 4 (lst 1 4 3) (A 1 4 3) (W 3) → wpAnyIn F n P .any ops Q 5 (lst 0 4 3) (A 0 4 3) (W 3)):wpAnyIn F n P .any ops Q 12 (lst 0 0 0) (A 0 0 0) (W 0):=by
 suffices H:∀ m x y z,x ≤ 1 → y ≤ 4 → z ≤ 3 → x + y + z + m = 8 → wpAnyIn F n P .any ops Q (m + 4) (lst x y z) (A x y z) (W z) from H 8 0 0 0 (by omega) (by omega) (by omega) rfl
 intro m
 induction m with
 | zero =>
  intro x y z hx hy hz e
  obtain rfl:x = 1:=by omega
  obtain rfl:y = 4:=by omega
  obtain rfl:z = 3:=by omega
  exact hl
 | succ m ih =>
  intro x y z hx hy hz e
  by_cases hyz:y = 4 ∧ z = 3
  ·obtain ⟨rfl,rfl⟩:=hyz
   obtain rfl:x = 0:=by omega
   obtain rfl:m = 0:=by omega
   exact hl0 hl
  have hr:Region.ready .any ops (lst x y z) = rdy x y z:=by
   unfold isDiamond at hd
   have h2:=List.all_eq_true.1 hd x (by simp; omega)
   have h3:=List.all_eq_true.1 h2 y (by simp; omega)
   have h4:=List.all_eq_true.1 h3 z (by simp; omega)
   simp only [Bool.or_eq_true,Bool.and_eq_true,beq_iff_eq] at h4
   rcases h4 with h4 | h4
   ·omega
   ·exact h4
  have hne:rdy x y z ≠ []:=by
   unfold rdy
   intro h
   rw [List.append_eq_nil_iff,List.append_eq_nil_iff] at h
   obtain ⟨q1,q2,q3⟩:=h
   split at q1
   ·cases q1
   ·split at q2
    ·cases q2
    ·split at q3
     ·cases q3
     ·omega
  have e4:m + 1 + 4 = (m + 4) + 1:=by omega
  rw [e4]
  refine wpAnyIn_ready hr hne ?_
  intro i hi
  unfold rdy at hi
  rcases List.mem_append.1 hi with hi | hi
  ·split at hi
   ·obtain rfl:i = 0:=by simpa using hi
    obtain rfl:x = 0:=by omega
    refine h0 y z _ hy hz ?_
    rw [lst_x]
    exact ih 1 y z (by omega) hy hz (by omega)
   ·cases hi
  ·rcases List.mem_append.1 hi with hi | hi
   ·split at hi
    ·rename_i hy4
     obtain rfl:i = 1 + y:=by simpa using hi
     refine h1 x y z _ hx hy4 hz ?_
     rw [lst_y hy4]
     exact ih x (y + 1) z hx (by omega) hz (by omega)
    ·cases hi
   ·split at hi
    ·rename_i hz3
     obtain rfl:i = 5 + z:=by simpa using hi
     refine h5 x y z _ hx hy hz3 ?_
     rw [lst_z hz3]
     exact ih x y (z + 1) hx hy (by omega) (by omega)
    ·cases hi
end Go.Proofs.YtdpomdelmdofmaaGreatDoor

namespace Go.Proofs.YtdpomdelmdofmaaGreatDoor
open Go.RowKit Go.Maps
attribute [local go_sem] Oper.semAt_some run_store_func
theorem wpIn_append_lies {l:Nat} {w:World} {o:Oper} {a:Act} {K:Act → World → Prop} {Q:Exit → Act → World → Prop} (s x:Operand) (t:TypeId)
  (ho:o.op = .call { callee:=.builtin .append,args:=#[s,x],argTypes:=#[t,t] })
  (base:Nat) (e:TypeId) (i:TypeInfo) (z:Value) (size bytes:Nat) (ht:Tryz.prog.underlying t = some (.slice e)) (hi:Tryz.prog.info? e = some i) (hz:i.zero = some z)
  (hsize:i.size = size) (hby:i.bytes = bytes) (hzs:z.cells.size = size) (hsz:0 < size)
  (v:Value) (n:Nat) (xs:List Value) (hs:a.eval s = v) (hown:w.ownsRow base e size v n xs)
  (ad:Addr) (m c:Nat) (news:List Value) (hx:a.eval x = .slice (some ad) m c) (hl:news.length = m * size) (hnews:∀ j u,news[j]? = some u → w.cell? (ad.add j) = some u) (h1:∀ u ∈ news,u.oneCell' = true)
  (hm:0 < m) (h63:n + m ≤ maxLen) (hbytes:(n + m) * bytes ≤ 140737488355328) (hbase:base ≤ w.heap.size) (H:Nat) (hH:w.heap.size = H)
  (h:∀ g cap w',w'.ownsRow base e size (.slice (some ⟨g,0,none⟩) (n + m) cap) (n + m) (xs ++ news) → w.grownBy w' v.ownBlock → (v.ownBlock = some g ∨ g = H) → g < w'.heap.size → K (a.put o.dst (.slice (some ⟨g,0,none⟩) (n + m) cap)) w') :
  Oper.wpIn (Fence.wide.inRound l) 0 Tryz.prog o a w K Q:=by
 obtain ⟨g,cap,w',hr,h2,h3,h4,h5⟩:=run_append_lies (P:=Tryz.prog) (w:=w) t o.type base e i z size bytes ht hi hz hsize hby hzs hsz v n xs hown ad m c news hl hnews h1 hm h63 hbytes hbase H hH
 refine ⟨fun f _=>trivial,?_⟩
 rw [show (Fence.wide.inRound l).round = some l from rfl,Oper.semAt_some _ _ _ (by intro c hc; rw [ho] at hc; cases hc)]
 unfold execOp
 simp only [ho,resolve,invoke,builtin,Sem.run_bind,Sem.run_pure,Result.andThen_ok,List.map_toArray,List.map_cons,List.map_nil,hs,hx,hr]
 exact h g cap w' h2 h3 h4 h5
theorem op_info:(Tryz.prog.info? 178).map (fun i=>(i.zero.map (fun z=>z.cells.size),i.size,i.bytes)) = some (some 4,4,64):=by kernel_rfl
theorem op_parts:∃ i z,Tryz.prog.info? 178 = some i ∧ i.zero = some z ∧ z.cells.size = 4 ∧ i.size = 4 ∧ i.bytes = 64:=by
 obtain ⟨i,hi,h⟩:=Option.map_eq_some_iff.1 op_info
 simp only [Prod.mk.injEq] at h
 obtain ⟨z,hz,h1⟩:=Option.map_eq_some_iff.1 h.1
 exact ⟨i,z,hi,hz,h1,h.2.1,h.2.2⟩
def pk (n k:Nat) (v:Value):Value:=if k ≤ n then v else undef
def wz (z:Nat) (w1 w2:World):World:=if 3 ≤ z then w2 else w1
def ysOf (c:Nat → Value) (N:Nat):Nat → List Value
 | 0=>[]
 | k + 1=>ysOf c N k ++ [c ((N - 1 - k) * 5 + 1),c ((N - 1 - k) * 5 + 2),c ((N - 1 - k) * 5 + 3),c ((N - 1 - k) * 5 + 4)]
theorem Opns.snoc {w:World} {G:Nat → Prop} {kv pv fv vv:Value} {o:Sp.Opn} (ho:OpnR w G kv pv fv vv o):∀ {xs:List Value} {js:List Sp.Opn},Opns w G xs js → Opns w G (xs ++ [kv,pv,fv,vv]) (js ++ [o])
 | [],[],_=>⟨ho,trivial⟩
 | _ :: _ :: _ :: _ :: _,_ :: _,⟨a,b⟩=>⟨a,Opns.snoc ho b⟩
structure KeepI (w wB:World) (D g N B:Nat) (rv jn:Value) (ch:Bool) (c:Nat → Value) (k:Nat) (W:World):Prop where
 bx:W.heap[w.heap.size]? = wB.heap[w.heap.size]?
 box:W.heap[w.heap.size + 1]? = wB.heap[w.heap.size + 1]?
 row:0 < N → W.heap[g]? = w.heap[g]?
 os:W.os = w.os
 tape:W.tape = w.tape
 output:W.output = w.output
 size:B ≤ W.heap.size
 old:∀ j,j < w.heap.size → j ≠ D → W.heap[j]? = w.heap[j]?
 doc:∃ iv,DB W D rv jn ch iv ∧ W.ownsRow 0 178 4 iv k (ysOf c N k) ∧ ∀ q,iv.ownBlock = some q → w.heap.size + 2 ≤ q ∧ q ≠ B ∧ q ≠ B + 1
structure KeepA (w wB:World) (D g N B:Nat) (rv jn:Value) (ch:Bool) (c:Nat → Value) (E:Array Value) (k X:Nat) (W:World):Prop where
 inv:KeepI w wB D g N B rv jn ch c k W
 ne:w.heap.size + 2 ≤ X ∧ X ≠ B ∧ X ≠ B + 1
 blk:W.heap[X]? = some (.cells E 230 (0,0))
 far:∀ q iv,DB W D rv jn ch iv → iv.ownBlock = some q → q ≠ X
section
variable {w wB:World} {D g N B:Nat} {rv jn:Value} {ch:Bool} {c:Nat → Value}
theorem KeepI.apart (hB:B = w.heap.size + 2) (hD:D < w.heap.size) (hg:0 < N → g < w.heap.size) (k:Nat):Apart2 B (KeepI w wB D g N B rv jn ch c k):=by
 intro W W' h e1 e2 e3 e4 e5
 have hs:=h.size
 obtain ⟨iv,h1,h2,h3⟩:=h.doc
 refine ⟨(e5 _ (by omega) (by omega) (by omega)).trans h.bx,(e5 _ (by omega) (by omega) (by omega)).trans h.box,fun hN=>(e5 g (by have:=hg hN; omega) (by have:=hg hN; omega) (by have:=hg hN; omega)).trans (h.row hN),e1.trans h.os,e2.trans h.tape,e3.trans h.output,Nat.le_trans hs e4,fun j hj hne=>(e5 j (by omega) (by omega) (by omega)).trans (h.old j hj hne),iv,h1.kept (e5 D (by omega) (by omega) (by omega)),ownsN_kept h2 fun q hq=>e5 q (ownsN_lt h2 q hq).1 (h3 q hq).2.1 (h3 q hq).2.2,h3⟩
theorem KeepA.apart {E:Array Value} (hB:B = w.heap.size + 2) (hD:D < w.heap.size) (hg:0 < N → g < w.heap.size) (k X:Nat):Apart2 B (KeepA w wB D g N B rv jn ch c E k X):=by
 intro W W' h e1 e2 e3 e4 e5
 have hs:=h.inv.size
 refine ⟨KeepI.apart hB hD hg k W W' h.inv e1 e2 e3 e4 e5,h.ne,(e5 X (Array.getElem?_eq_some_iff.1 h.blk).1 h.ne.2.1 h.ne.2.2).trans h.blk,fun q iv h1 h2=>h.far q iv (h1.kept (e5 D (by omega) (by omega) (by omega)).symm) h2⟩
theorem DB.iv {W:World} {iv iv':Value} (h:DB W D rv jn ch iv) (h':DB W D rv jn ch iv'):iv = iv':=by
 have e:=(show W.heap[D]? = _ from h).symm.trans (show W.heap[D]? = _ from h')
 injection e with e
 injection e with e
 simp at e
 exact e
end
end Go.Proofs.YtdpomdelmdofmaaGreatDoor
