/-
  Walk of mergeMember.
-/
import Derived.Test.YtdpomdelmdofmaaGreatDoorMrg26
import Derived.DeepKeys4
import Derived.Test.YtdpomdelmdofmaaGreatDoorMrg17
import Derived.Test.YtdpomdelmdofmaaGreatDoorMrg15
import Derived.Test.YtdpomdelmdofmaaGreatDoorMrg24
import Derived.Test.YtdpomdelmdofmaaGreatDoorMrg25
import Derived.Orders
namespace Go.Proofs.YtdpomdelmdofmaaGreatDoor
section
set_option maxRecDepth 100000
set_option maxHeartbeats 2000000
open Go.RowKit Go.Maps
section
variable {w:World} {D b i pb:Nat} {key:Sp.By} {pa:Option Addr} {pl pc:Nat} {pk:Int} {pn:Sp.Nm} {ps:Sp.By} {psl pmv:Value} {Q:World→Prop}
theorem plW_below:Below w.heap.size w (plW w pa pl pc b key i):=(Below.refl _ _).alloc (Nat.le_refl _) _
theorem member_merge (hpv:VB w pb pk pn ps psl pmv) (hk:(pk != 0)=true) (hC:∀w2,Below w.heap.size w w2→Calls Tryz.prog 120 #[.pointer (some ⟨D,0,none⟩),plV (.slice pa pl pc) b key i,.pointer (some ⟨pb,0,none⟩)] w2 fun e w'=>e = .returned (.tuple #[])∧Q w') :
  Calls Tryz.prog 162 #[.pointer (some ⟨D,0,none⟩),plV (.slice pa pl pc) b key i,.pointer (some ⟨pb,0,none⟩)] w fun e w'=>e = .returned (.tuple #[])∧Q w':=by
 have hpl:Below w.heap.size w (plW w pa pl pc b key i):=plW_below
 have qk:=(hpv.kept (hpl.block pb hpv.lt)).c0
 have hp2:PBox (plW w pa pl pc b key i) w.heap.size (.slice pa pl pc) b key i:=heap_alloc_new w _
 have e0:=hp2.c0
 have e1:=hp2.c1
 have e2:=hp2.c2
 have e3:=hp2.c3
 have HC:=hide (hC _ hpl)
 clear hC hp2 hpl hpv
 go_enter Tryz.func162,Tryz.ntmps162
 go_wp2_with (fail)
 refine (unhide HC).mono ?_
 rintro e w' ⟨rfl,hQ⟩
 go_wp2_with (fail)
 exact bodyPost_end (results_none rfl _ _ _) rfl ⟨rfl,hQ⟩
theorem member_none (hpv:VB w pb pk pn ps psl pmv) (hk:(pk != 0)=false) (hG:Calls Tryz.prog 159 #[plV (.slice pa pl pc) b key i] (plW w pa pl pc b key i) fun e w'=>e = .returned (.pointer none)∧Below (w.heap.size+1) (plW w pa pl pc b key i) w') :
  Calls Tryz.prog 162 #[.pointer (some ⟨D,0,none⟩),plV (.slice pa pl pc) b key i,.pointer (some ⟨pb,0,none⟩)] w fun e w'=>e = .returned (.tuple #[])∧Below w.heap.size w w':=by
 have hpl:Below w.heap.size w (plW w pa pl pc b key i):=plW_below
 have qk:=(hpv.kept (hpl.block pb hpv.lt)).c0
 have hp2:PBox (plW w pa pl pc b key i) w.heap.size (.slice pa pl pc) b key i:=heap_alloc_new w _
 have e0:=hp2.c0
 have e1:=hp2.c1
 have e2:=hp2.c2
 have e3:=hp2.c3
 have HG:=hide hG
 clear hG hp2 hpl hpv
 go_enter Tryz.func162,Tryz.ntmps162
 go_wp2_with (fail)
 refine (unhide HG).mono ?_
 rintro e w' ⟨rfl,hb⟩
 have HB:=hide (below_pl hb)
 clear hb
 go_wp2_with (fail)
 exact bodyPost_end (results_none rfl _ _ _) rfl ⟨rfl,unhide HB⟩
theorem member_remove {y:Addr} (hpv:VB w pb pk pn ps psl pmv) (hk:(pk != 0)=false) (hG:Calls Tryz.prog 159 #[plV (.slice pa pl pc) b key i] (plW w pa pl pc b key i) fun e w'=>e = .returned (.pointer (some y))∧Below (w.heap.size+1) (plW w pa pl pc b key i) w')
  (hR:∀w2,Below w.heap.size w w2→Calls Tryz.prog 199 #[.pointer (some ⟨D,0,none⟩),plV (.slice pa pl pc) b key i] w2 fun e w'=>e = .returned (.tuple #[])∧Q w') :
  Calls Tryz.prog 162 #[.pointer (some ⟨D,0,none⟩),plV (.slice pa pl pc) b key i,.pointer (some ⟨pb,0,none⟩)] w fun e w'=>e = .returned (.tuple #[])∧Q w':=by
 have hpl:Below w.heap.size w (plW w pa pl pc b key i):=plW_below
 have qk:=(hpv.kept (hpl.block pb hpv.lt)).c0
 have hp2:PBox (plW w pa pl pc b key i) w.heap.size (.slice pa pl pc) b key i:=heap_alloc_new w _
 have HP2:=hide hp2
 have hps:(plW w pa pl pc b key i).heap.size=w.heap.size+1:=by simp
 have e0:=hp2.c0
 have e1:=hp2.c1
 have e2:=hp2.c2
 have e3:=hp2.c3
 have HG:=hide hG
 have HR:=hide hR
 clear hG hp2 hpl hpv hR
 go_enter Tryz.func162,Tryz.ntmps162
 go_wp2_with (fail)
 refine (unhide HG).mono ?_
 rintro e w' ⟨rfl,hb⟩
 have hp3:PBox w' w.heap.size (.slice pa pl pc) b key i:=(hb.block _ (by omega)).trans (unhide HP2)
 have f0:=hp3.c0
 have f1:=hp3.c1
 have f2:=hp3.c2
 have f3:=hp3.c3
 have HB:=hide (below_pl hb)
 have HRR:=hide (unhide HR _ (unhide HB))
 clear hb hp3 HR
 go_wp2_with (fail)
 refine (unhide HRR).mono ?_
 rintro e w4 ⟨rfl,hQ⟩
 go_wp2_with (fail)
 exact bodyPost_end (results_none rfl _ _ _) rfl ⟨rfl,hQ⟩
end
end

section
open Go.RowKit Go.Maps
def nv (x:Sp.By×Bool×Bool):Value:=.agg #[.string ⟨x.1.toArray⟩,.bool x.2.1,.bool x.2.2]
def nlit (x:Sp.By×Bool×Bool):Lit:=.string (keyBytes [.string x.1,.bool x.2.1,.bool x.2.2])
theorem nlaid:laidOutB Tryz.prog=true:=by kernel_rfl
theorem nrow:(219:TypeId)<Tryz.prog.types.size:=of_decide_eq_true (by kernel_rfl)
theorem nsz:∃m,Tryz.prog.types.size=m+1:=⟨Tryz.prog.types.size-1,by have:=nrow;unfold TypeId at this;omega⟩
def opsTab:List (Sp.By×Bool×Bool):=[(Sp.add_,true,false),(Sp.remove_,false,false),(Sp.replace_,true,false),(Sp.move_,false,true),(Sp.copy_,false,true),(Sp.test_,true,false)]
def opN (k:Nat):Sp.By×Bool×Bool:=opsTab.getD k ([],false,false)
def nD:Nat→DataW Value
 | 0=>.map []
 | k+1=>(nD k).put (nlit (opN k)) (.lit (.int .i64 k))
end

section
open Go.RowKit Go.Maps
def en (x:Sp.By×Bool×Bool) (j:Nat):Sp.By×Bool×Bool:=if j=0 then (x.1,false,false) else if j=1 then (x.1,x.2.1,false) else (x.1,false,x.2.2)
end

section
open Go.RowKit Go.Maps
def MemR (f:Nat) (F:Nat→Prop) (w:World) (v:Value) (o:Option Sp.V):Prop:=match o with
 | none=>v = .pointer none
 | some d=>Rep f F w v d
theorem pMem_leaf {d:Sp.V} (h:∀es,d ≠ .map es) (k:Sp.By):Sp.pMem d k=none:=by
 unfold Sp.pMem
 split
 ·rename_i es;exact absurd rfl (h es)
 ·rfl
theorem rep_mems {f:Nat} {F:Nat→Prop} {w:World} {v:Value} {d:Sp.V} (h:Rep (f+1) F w v d):∃b n x s sl mv,v = .pointer (some ⟨b,0,none⟩)∧VB w b x n s sl mv ∧
  ∀key:Sp.By,key.length≤1048576 → ∃y,MemR f F w y (Sp.pMem d key) ∧ ∀w',Below w.heap.size w w' →
   (Instr.lookup 109 mv (.string ⟨key.toArray⟩) true).run Tryz.prog w' = .ok (.tuple #[y,.bool (Sp.pMem d key).isSome]) w' ∧
   (Instr.lookup 109 mv (.string ⟨key.toArray⟩) false).run Tryz.prog w' = .ok y w':=by
 have hnil:∀key:Sp.By,key.length≤1048576→(∀es,d ≠ .map es) → ∃y,MemR f F w y (Sp.pMem d key) ∧ ∀w',Below w.heap.size w w' →
   (Instr.lookup 109 (.map none) (.string ⟨key.toArray⟩) true).run Tryz.prog w' = .ok (.tuple #[y,.bool (Sp.pMem d key).isSome]) w' ∧
   (Instr.lookup 109 (.map none) (.string ⟨key.toArray⟩) false).run Tryz.prog w' = .ok y w':=by
  intro key hk hd
  rw[pMem_leaf hd]
  exact⟨_,rfl,fun w' _=>⟨Maps.look_nil true mlaw Tryz.underlying109 (mzero w') (tkey key hk),Maps.look_nil false mlaw Tryz.underlying109 (mzero w') (tkey key hk)⟩⟩
 obtain⟨b,rfl,hb,h⟩:=h
 rcases h with⟨k,_,rfl,h⟩|⟨n,rfl,h,_⟩|⟨s,rfl,h⟩|⟨es,sl,ps,rfl,h,_⟩|⟨es,m,n,D,rfl,h,hFm,ho,hp⟩
 ·exact⟨b,_,_,_,_,_,rfl,h,fun key hk=>hnil key hk (by simp[Sp.vWord])⟩
 ·exact⟨b,_,_,_,_,_,rfl,h,fun key hk=>hnil key hk (by simp[Sp.vNum])⟩
 ·exact⟨b,_,_,_,_,_,rfl,h,fun key hk=>hnil key hk (by simp[Sp.vStr])⟩
 ·exact⟨b,_,_,_,_,_,rfl,h,fun key hk=>hnil key hk (by simp[Sp.vArr])⟩
 ·refine⟨b,_,_,_,_,_,rfl,h,fun key hk=>?_⟩
  have hml:=map_lt ho
  have hkey:=tkey key hk
  have hh:=hp.has (.string key)
  cases hc:has (.map D:DataW Value) (.string key) with
  | false =>
   have e1:Sp.pMem (Sp.vObj es) key=none:=by
    unfold Sp.pMem Sp.vObj
    simp only
    rw[if_neg (by rw[← hh,hc];simp)]
   rw[e1]
   refine⟨.pointer none,rfl,fun w' hbw=>?_⟩
   have ho':=map_kept ho (hbw.block m hml)
   obtain⟨v1,ps1,r1,q1⟩:=ho'.look_ok mlaw Tryz.underlying109 (mzero w') (zd:=.held (.pointer none)) (zp:=[]) rfl hkey
   obtain⟨v2,ps2,r2,q2⟩:=ho'.lookup mlaw Tryz.underlying109 (mzero w') (zd:=.held (.pointer none)) (zp:=[]) rfl hkey
   obtain⟨rfl,_⟩:=rv_held q1 (atKey_of_not_has hc _)
   obtain⟨rfl,_⟩:=rv_held q2 (atKey_of_not_has hc _)
   rw[hc] at r1
   exact⟨r1,r2⟩
  | true =>
   obtain⟨x,e4,hx⟩:=hp.at (.string key) hc
   have e1:Sp.pMem (Sp.vObj es) key=some ((DataW.map es).atKey (.string key) .nil):=by
    unfold Sp.pMem Sp.vObj
    simp only
    rw[if_pos (by rw[← hh,hc])]
   rw[e1]
   refine⟨x,hx,fun w' hbw=>?_⟩
   have ho':=map_kept ho (hbw.block m hml)
   obtain⟨v1,ps1,r1,q1⟩:=ho'.look_ok mlaw Tryz.underlying109 (mzero w') (zd:=.held (.pointer none)) (zp:=[]) rfl hkey
   obtain⟨v2,ps2,r2,q2⟩:=ho'.lookup mlaw Tryz.underlying109 (mzero w') (zd:=.held (.pointer none)) (zp:=[]) rfl hkey
   obtain⟨rfl,_⟩:=rv_held q1 (e4 _)
   obtain⟨rfl,_⟩:=rv_held q2 (e4 _)
   rw[hc] at r1
   exact⟨r1,r2⟩
section
variable {f:Nat} {F:Nat→Prop} {w:World} {v:Value} {o:Option Sp.V}
end
end

section
def lefts (l:Array Bool):Nat:=l.toList.countP (! ·)
theorem lefts_set {l:Array Bool} {i:Nat} (h:l.getD i true=false):lefts (l.setIfInBounds i true)+1=lefts l:=by
 have hi:i<l.size:=by
  by_cases hi:i<l.size
  ·exact hi
  ·simp[Array.getD,hi] at h
 have hv:l.toList[i]'(by simpa using hi)=false:=by simpa[Array.getD,hi] using h
 unfold lefts
 rw[Array.toList_setIfInBounds,List.countP_set (by simpa using hi),hv]
 have:0<l.toList.countP (! ·):=List.countP_pos_iff.2 ⟨false,by rw[← hv];exact List.getElem_mem _,rfl⟩
 simp only[Bool.not_false,Bool.not_true,if_true,if_false,Bool.false_eq_true]
 omega
theorem lefts_none {l:Array Bool} (h:lefts l=0) (i:Nat):l.getD i true=true:=by
 by_cases hi:i<l.size
 ·have h1:=List.countP_eq_zero.1 h l[i] (by simp)
  simpa[Array.getD,hi] using h1
 ·simp[Array.getD,hi]
theorem ready_after {md:Region.Mode} {ops:Array Oper} {l:Array Bool} {i:Nat} (h:i∈Region.ready md ops l):l.getD i true=false ∧ ∀o,ops[i]? = some o → ∀e∈o.after,Region.binds md e=true→l.getD e.on false=true:=by
 obtain⟨h1,o,h2,h3⟩:=mem_ready.1 h
 exact⟨h1,fun o' ho'=>by rw[h2] at ho';injection ho' with ho';subst ho';exact h3⟩
theorem wpAny_inv {P:Program} {md:Region.Mode} {ops:Array Oper} {Q:Exit→Act→World→Prop} (I:Array Bool→Act→World→Prop)
  (hs:∀l a w,I l a w → ∀i,i∈Region.ready md ops l→wpOp P ops Q i (I (l.setIfInBounds i true)) a w)
  (he:∀l a w,I l a w→Region.ready md ops l=[]→Q .normal a w):∀ (fuel:Nat) (l:Array Bool) (a:Act) (w:World),lefts l≤fuel→I l a w→wpAny P md ops Q fuel l a w:=by
 intro fuel
 induction fuel with
 | zero =>
  intro l a w hl hi
  have hr:Region.ready md ops l=[]:=by
   rw[List.eq_nil_iff_forall_not_mem]
   intro i hm
   have h1:=(ready_after hm).1
   rw[lefts_none (by omega) i] at h1
   cases h1
  exact⟨hr,he l a w hi hr⟩
 | succ n ih =>
  intro l a w hl hi
  refine⟨fun hr=>he l a w hi hr,fun i hm=>wpOp_mono (fun a' w' h'=>ih _ a' w' ?_ h') (hs l a w hi i hm)⟩
  have:=lefts_set (ready_after hm).1
  omega
def Closed (md:Region.Mode) (ops:Array Oper) (l:Array Bool):Prop:=∀i o,ops[i]? = some o→l.getD i false=true → ∀e∈o.after,Region.binds md e=true→l.getD e.on false=true
theorem Closed.next {md:Region.Mode} {ops:Array Oper} {l:Array Bool} {i:Nat} (h:Closed md ops l) (hi:i∈Region.ready md ops l):Closed md ops (l.setIfInBounds i true):=by
 intro j o ho hj e he hb
 by_cases hij:i=j
 ·subst hij
  exact getD_set_true ((ready_after hi).2 o ho e he hb)
 ·exact getD_set_true (h j o ho ((getD_set_ne _ hij).symm.trans hj) e he hb)
theorem wpAny_invC {P:Program} {md:Region.Mode} {ops:Array Oper} {Q:Exit→Act→World→Prop} (I:Array Bool→Act→World→Prop)
  (hs:∀l a w,Closed md ops l→I l a w → ∀i,i∈Region.ready md ops l→wpOp P ops Q i (I (l.setIfInBounds i true)) a w)
  (he:∀l a w,I l a w→Region.ready md ops l=[]→Q .normal a w) (n:Nat) (a:Act) (w:World) (h:I (Array.replicate n false) a w):wpAny P md ops Q n (Array.replicate n false) a w:=by
 refine wpAny_inv (fun l a w=>Closed md ops l∧I l a w) (fun l a w hI i hi=>?_) (fun l a w hI hr=>he l a w hI.2 hr) n _ a w ?_ ⟨?_,h⟩
 ·exact wpOp_mono (fun a' w' h'=>⟨hI.1.next hi,h'⟩) (hs l a w hI.1 hI.2 i hi)
 ·unfold lefts
  refine Nat.le_trans List.countP_le_length ?_
  simp
 ·intro i o _ hi
  exfalso
  rw[Array.getD_eq_getD_getElem?,Array.getElem?_replicate] at hi
  split at hi<;>cases hi
theorem ready_none {md:Region.Mode} {ops:Array Oper} {l:Array Bool} (hsz:l.size=ops.size) (hw:(List.range ops.size).all (fun i=>((ops[i]?).map fun o=>o.after.all fun e=>!Region.binds md e || decide (e.on<i)).getD true)=true) (h:Region.ready md ops l=[]):∀i,i<ops.size→l.getD i false=true:=by
 intro i
 induction i using Nat.strongRecOn with
 | ind i ih =>
  intro hi
  by_cases hv:l.getD i false=true
  ·exact hv
  ·exfalso
   have hi2:i<l.size:=by omega
   have:i∈Region.ready md ops l:=by
    refine mem_ready.2 ⟨by simpa[Array.getD,hi2] using hv,ops[i],Array.getElem?_eq_getElem hi,fun e he hb=>?_⟩
    have h1:=List.all_eq_true.1 hw i (by simpa using hi)
    rw[Array.getElem?_eq_getElem hi] at h1
    simp only[Option.map_some,Option.getD_some] at h1
    have h2:=Array.all_eq_true_iff_forall_mem.1 h1 e he
    rw[hb] at h2
    have h3:e.on<i:=of_decide_eq_true (by simpa using h2)
    exact ih e.on h3 (by omega)
   rw[h] at this
   cases this
theorem setN {l:Array Bool} {i j:Nat} (h:i≠j) {p:Prop} (e:l.getD j false=true→p):(l.setIfInBounds i true).getD j false=true→p:=fun h'=>e ((getD_set_ne _ h).symm.trans h')
theorem getT {l:Array Bool} {n:Nat} (h:l.size=n) (i:Nat) (hi:i<n):(l.setIfInBounds i true).getD i false=true:=by
 simp[Array.getD,h,hi]
end
end Go.Proofs.YtdpomdelmdofmaaGreatDoor
