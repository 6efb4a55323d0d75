/-
  Patches: the table is laid as a map; find.
-/
import Derived.Test.YtdpomdelmdofmaaGreatDoorPart37
import Derived.Test.YtdpomdelmdofmaaGreatDoorPart21
import Derived.Test.YtdpomdelmdofmaaGreatDoorPart34
import Derived.Test.YtdpomdelmdofmaaGreatDoorPart05
namespace Go.Proofs.YtdpomdelmdofmaaGreatDoor
open Go.RowKit Go.Maps
noncomputable abbrev KE (v:Value):Option (DataW Value × List MemPlace):=plainElem Tryz.prog 176 v
theorem knlaw {k:Nat} (hk:k < 6):KE (.int .i64 k) = some (.lit (.int .i64 k),[]):=plainElem_int Tryz.underlying176 (by
 match k,hk with
 | 0,_=>decide
 | 1,_=>decide
 | 2,_=>decide
 | 3,_=>decide
 | 4,_=>decide
 | 5,_=>decide)
theorem kzero (w:World):(zeroValue 176).run Tryz.prog w = .ok (.int .i64 0) w:=by kernel_rfl
set_option maxRecDepth 100000 in
set_option maxHeartbeats 2000000 in
theorem kinds_any {w:World} (hT:OTab w) :
  Calls Tryz.prog 114 #[] w fun e w'=>∃ m,e = .returned (.map (some m)) ∧ w.heap.size ≤ m ∧ w'.ownsMap Tryz.prog 219 KE m 6 (nD 6) ∧ Below w.heap.size w w':=by
 have hmm:=@run_makeMap Tryz.prog
 have hlt:3 < w.heap.size:=by obtain ⟨t,fr,e⟩:=hT; exact (Array.getElem?_eq_some_iff.1 e).1
 obtain ⟨tt,fz,hg1⟩:=hT
 have hba:Below w.heap.size w (w.alloc (.map #[] 0)):=(Below.refl _ _).alloc (Nat.le_refl _) _
 have hg2:=(hba.block _ hlt).trans hg1
 have H0:=hide (show Below w.heap.size w (w.alloc (.map #[] 0)) ∧ (w.alloc (.map #[] 0)).ownsMap Tryz.prog 219 KE w.heap.size 0 (nD 0) from ⟨hba,World.ownsMap_made w Tryz.prog 219 KE⟩)
 have HLAW:=hide nlaw
 clear hg1 hba hlt
 go_enter Tryz.func114,Tryz.ntmps114
 go_wp2_with (refine wpList_load_row rfl 220 _ rfl 3 rfl tt _ fz _ hg2 Tryz.underlying220 rfl (by kernel_rfl) ?_)
 clear hg2
 go_loopw [6] (fun i wr=>∃ k:Nat,k ≤ 6 ∧ i = .int .i64 k ∧ Hid (Below w.heap.size w wr ∧ wr.ownsMap Tryz.prog 219 KE w.heap.size k (nD k))) (fun i _=>6 - (intOf i).toNat)
 case atStart=>exact ⟨0,by omega,rfl,H0⟩
 case round =>
  obtain ⟨k,hk,rfl,HI⟩:=hrel
  by_cases h6:k = 6
  ·subst h6
   go_wp2_with (fail)
   go_ret
   exact ⟨_,rfl,Nat.le_refl _,(unhide HI).2,(unhide HI).1⟩
  ·have hk6:k < 6:=by omega
   have hlt2:(k:Int) < 6:=by omega
   have hidx:=fun w1=>op_idx k hk6 w1
   have HKL:=hide (nkey (opN k) (opN_len k hk6))
   have HO:=hide ((unhide HI).2.alloc (.cells #[.string ⟨(opN k).1.toArray⟩,.bool (opN k).2.1,.bool (opN k).2.2] 219))
   have HN:=hide (show k < maxLen by unfold maxLen; omega)
   have HV:=hide (knlaw hk6)
   have HB:=hide ((unhide HI).1.alloc (unhide HI).1.size (.cells #[.string ⟨(opN k).1.toArray⟩,.bool (opN k).2.1,.bool (opN k).2.2] 219))
   unfold nv at hidx
   clear HI H0
   go_wp2_with (first | (at_mapUpdate; refine wpList_mapUpdate_own _ rfl _ _ _ 174 rfl 219 176 (unhide HLAW) Tryz.underlying174 KE w.heap.size k (nD k) rfl (unhide HO) (unhide HN) _ _ _ rfl rfl (unhide HKL) (.lit (.int .i64 k)) [] (unhide HV) ?_))
   intro w6 ho6 hg6
   have HO6:=hide ho6
   have HB6:=hide ((unhide HB).grown hg6 (unhide HB).size (fun j hj=>by cases hj; exact Nat.le_refl _))
   clear ho6 hg6
   go_wp2_with (fail)
   exact ⟨⟨k + 1,by omega,by go_num,unhide HB6,unhide HO6⟩,by simp [intOf]; omega⟩
def en (x:Sp.By × Bool × Bool) (j:Nat):Sp.By × Bool × Bool:=if j = 0 then (x.1,false,false) else if j = 1 then (x.1,x.2.1,false) else (x.1,false,x.2.2)
def enC (s:ByteArray) (a b:Bool):Array Value:=#[.string s,.bool false,.bool false,.string s,.bool a,.bool false,.string s,.bool false,.bool b]
theorem en_0 (s:ByteArray) (a b:Bool) (w:World):(Instr.index 259 (.agg (enC s a b)) (.int .i64 0)).run Tryz.prog w = .ok (.agg #[.string s,.bool false,.bool false]) w:=by kernel_rfl
theorem en_1 (s:ByteArray) (a b:Bool) (w:World):(Instr.index 259 (.agg (enC s a b)) (.int .i64 1)).run Tryz.prog w = .ok (.agg #[.string s,.bool a,.bool false]) w:=by kernel_rfl
theorem en_2 (s:ByteArray) (a b:Bool) (w:World):(Instr.index 259 (.agg (enC s a b)) (.int .i64 2)).run Tryz.prog w = .ok (.agg #[.string s,.bool false,.bool b]) w:=by kernel_rfl
theorem en_idx (x:Sp.By × Bool × Bool) (j:Nat) (hj:j < 3) (w:World):(Instr.index 259 (.agg (enC ⟨x.1.toArray⟩ x.2.1 x.2.2)) (.int .i64 j)).run Tryz.prog w = .ok (nv (en x j)) w:=by
 match j,hj with
 | 0,_=>exact en_0 _ _ _ w
 | 1,_=>exact en_1 _ _ _ w
 | 2,_=>exact en_2 _ _ _ w
theorem en_len {x:Sp.By × Bool × Bool} {j:Nat} (h:x.1.length ≤ 1048576):(en x j).1.length ≤ 1048576:=by unfold en; split; exact h; split <;> exact h
theorem findOf_hit {x:Sp.By × Bool × Bool} {j k:Nat} (hj:j < 3) (h:∀ q,q < j → Sp.nOf (en x q) = none) (hk:Sp.nOf (en x j) = some k):Sp.findOf x = some k:=by
 unfold Sp.findOf
 match j,hj with
 | 0,_=>rw [show Sp.nOf (x.1,false,false) = some k from hk]; rfl
 | 1,_=>rw [show Sp.nOf (x.1,false,false) = none from h 0 (by omega),show Sp.nOf (x.1,x.2.1,false) = some k from hk]; rfl
 | 2,_=>rw [show Sp.nOf (x.1,false,false) = none from h 0 (by omega),show Sp.nOf (x.1,x.2.1,false) = none from h 1 (by omega),show Sp.nOf (x.1,false,x.2.2) = some k from hk]; rfl
theorem findOf_miss {x:Sp.By × Bool × Bool} (h:∀ q,q < 3 → Sp.nOf (en x q) = none):Sp.findOf x = none:=by
 unfold Sp.findOf
 rw [show Sp.nOf (x.1,false,false) = none from h 0 (by omega),show Sp.nOf (x.1,x.2.1,false) = none from h 1 (by omega),show Sp.nOf (x.1,false,x.2.2) = none from h 2 (by omega)]; rfl
def findV (r:Option Nat):Value:=.tuple #[.int .i64 (r.getD 0:Nat),.bool r.isSome]
theorem kmap_kept {w w':World} {m n:Nat} {D:DataW Value} (h:w.ownsMap Tryz.prog 219 KE m n D) (hk:w'.heap[m]? = w.heap[m]?):w'.ownsMap Tryz.prog 219 KE m n D:=by
 obtain ⟨es,clock,hb,r⟩:=h; exact ⟨es,clock,hk.trans hb,r⟩
set_option maxRecDepth 100000 in
set_option maxHeartbeats 2000000 in
theorem find_any {w:World} {m:Nat} {x:Sp.By × Bool × Bool} (ho:w.ownsMap Tryz.prog 219 KE m 6 (nD 6)) (hx:x.1.length ≤ 1048576) :
  Calls Tryz.prog 150 #[.map (some m),nv x] w fun e w'=>e = .returned (findV (Sp.findOf x)) ∧ Below w.heap.size w w':=by
 obtain ⟨R,hR⟩:∃ R,R = findV (Sp.findOf x):=⟨_,rfl⟩
 rw [← hR]
 have HR:=hide hR
 have HLAW:=hide nlaw
 have HO:=hide ho
 have HX:=hide hx
 have hml:m < w.heap.size:=by obtain ⟨es,clock,hb,_⟩:=ho; exact (Array.getElem?_eq_some_iff.1 hb).1
 have HML:=hide hml
 have HKZ:=hide (fun w=>kzero w)
 have HIX:=hide (fun j hj w=>en_idx x j hj w)
 unfold enC at HIX
 unfold nv
 generalize (⟨x.1.toArray⟩:ByteArray) = sx at *
 obtain ⟨va,hva⟩:∃ va,va = x.2.1:=⟨_,rfl⟩
 obtain ⟨vb,hvb⟩:∃ vb,vb = x.2.2:=⟨_,rfl⟩
 rw [← hva,← hvb] at HIX ⊢
 clear hR ho hx hml hva hvb
 go_enter Tryz.func150,Tryz.ntmps150
 go_wp2_with (fail)
 go_loopw [26] (fun i wr=>∃ j:Nat,j ≤ 3 ∧ i = .int .i64 j ∧ Hid (Below w.heap.size w wr ∧ ∀ q,q < j → Sp.nOf (en x q) = none)) (fun i _=>3 - (intOf i).toNat)
 case atStart=>exact ⟨0,by omega,rfl,((Below.refl _ _).alloc (Nat.le_refl _) _).alloc (by simp) _,fun q hq=>absurd hq (by omega)⟩
 case round =>
  obtain ⟨j,hj,rfl,HI⟩:=hrel
  by_cases h3:j = 3
  ·subst h3
   have HV:=hide (show R = findV none by rw [unhide HR,findOf_miss (unhide HI).2])
   go_wp2_with (fail)
   go_ret2
   exact ⟨by rw [unhide HV]; rfl,(unhide HI).1⟩
  ·have hj3:j < 3:=by omega
   have hlt2:(j:Int) < 3:=by omega
   have hidx:=fun w1=>unhide HIX j hj3 w1
   unfold nv at hidx
   have HKL:=hide (nkey (en x j) (en_len (unhide HX)))
   have HB:=hide ((unhide HI).1.alloc (unhide HI).1.size (.cells #[.string ⟨(en x j).1.toArray⟩,.bool (en x j).2.1,.bool (en x j).2.2] 219))
   have HOO:=hide (kmap_kept (unhide HO) ((unhide HB).block m (unhide HML)))
   cases hn:Sp.nOf (en x j) with
   | none =>
    have HH:=hide (nD_no (k:=6) (en_len (j:=j) (unhide HX)) (Nat.le_refl _) fun i hi=>Sp.nOf_none hn i hi)
    have HNEXT:=hide (show ∀ q,q < j + 1 → Sp.nOf (en x q) = none from fun q hq=>if e:q = j then e ▸ hn else (unhide HI).2 q (by omega))
    clear hn HI
    go_wp2_with (first | (at_lookup; refine wpList_lookup_own_ok _ rfl _ _ 174 rfl 219 176 (unhide HLAW) Tryz.underlying174 KE (unhide HKZ _) (.lit (.int .i64 0)) [] (knlaw (k:=0) (by omega)) m 6 (nD 6) rfl (unhide HOO) _ _ rfl (unhide HKL) ?_; intro v2 ps2 hv2; clear hv2; rw [unhide HH]))
    exact ⟨⟨j + 1,by omega,by go_num,unhide HB,unhide HNEXT⟩,by simp [intOf]; omega⟩
   | some k =>
    obtain ⟨hk6,hek⟩:=Sp.nOf_some hn
    obtain ⟨hh,hat⟩:=nD_yes (k:=6) (i:=k) (Nat.le_refl _) hk6
    rw [← hek] at hh hat
    have HV:=hide (show R = .tuple #[.int .i64 k,.bool true] by rw [unhide HR,findOf_hit hj3 (unhide HI).2 hn]; rfl)
    have HH:=hide hh
    have HAT:=hide (fun (v:Value) (ps:List MemPlace) (h:KE v = some ((nD 6).atKey (nlit (en x j)) (.lit (.int .i64 0)),ps))=>(show v = .int .i64 k from by
     obtain ⟨c,e1,e2,_⟩:=plainElem_int_inv Tryz.underlying176 h
     have e3:=congrArg Prod.fst e2
     simp only [hat] at e3
     rw [e1]
     injection e3 with e3
     injection e3 with _ e3
     rw [e3]))
    clear hn HI hek hh hat
    go_wp2_with (first | (at_lookup; refine wpList_lookup_own_ok _ rfl _ _ 174 rfl 219 176 (unhide HLAW) Tryz.underlying174 KE (unhide HKZ _) (.lit (.int .i64 0)) [] (knlaw (k:=0) (by omega)) m 6 (nD 6) rfl (unhide HOO) _ _ rfl (unhide HKL) ?_; intro v2 ps2 hv2; obtain rfl:=unhide HAT _ _ hv2; clear hv2; rw [unhide HH]))
    go_ret2
    exact ⟨by rw [unhide HV]; rfl,unhide HB⟩
end Go.Proofs.YtdpomdelmdofmaaGreatDoor

namespace Go.Proofs.YtdpomdelmdofmaaGreatDoor
open Go.RowKit Go.Maps
def MemR (f:Nat) (F:Nat → Prop) (w:World) (v:Value) (o:Option Sp.V):Prop:=match o with
 | none=>v = .pointer none
 | some d=>Rep f F w v d
theorem MemR.ptr {f:Nat} {F:Nat → Prop} {w:World} {v:Value} {o:Option Sp.V} (h:MemR f F w v o):∃ p,v = .pointer p:=by
 cases o with
 | none=>exact ⟨_,h⟩
 | some d=>obtain ⟨b,e,_⟩:=Rep.ptr h; exact ⟨_,e⟩
theorem MemR.bel {f:Nat} {F:Nat → Prop} {w w':World} {v:Value} {o:Option Sp.V} (h:MemR f F w v o) (hb:Below w.heap.size w w'):MemR f F w' v o:=by
 cases o with
 | none=>exact h
 | some d=>exact Rep.bel h hb
theorem pMem_leaf {d:Sp.V} (h:∀ es,d ≠ .map es) (k:Sp.By):Sp.pMem d k = none:=by
 unfold Sp.pMem
 split
 ·rename_i es; exact absurd rfl (h es)
 ·rfl
theorem rep_mems {f:Nat} {F:Nat → Prop} {w:World} {v:Value} {d:Sp.V} (h:Rep (f + 1) F w v d):∃ b n x s sl mv,v = .pointer (some ⟨b,0,none⟩) ∧ VB w b x n s sl mv ∧
  ∀ key:Sp.By,key.length ≤ 1048576 → ∃ y,MemR f F w y (Sp.pMem d key) ∧ ∀ w',Below w.heap.size w w' →
   (Instr.lookup 109 mv (.string ⟨key.toArray⟩) true).run Tryz.prog w' = .ok (.tuple #[y,.bool (Sp.pMem d key).isSome]) w' ∧
   (Instr.lookup 109 mv (.string ⟨key.toArray⟩) false).run Tryz.prog w' = .ok y w':=by
 have hnil:∀ key:Sp.By,key.length ≤ 1048576 → (∀ es,d ≠ .map es) → ∃ y,MemR f F w y (Sp.pMem d key) ∧ ∀ w',Below w.heap.size w w' →
   (Instr.lookup 109 (.map none) (.string ⟨key.toArray⟩) true).run Tryz.prog w' = .ok (.tuple #[y,.bool (Sp.pMem d key).isSome]) w' ∧
   (Instr.lookup 109 (.map none) (.string ⟨key.toArray⟩) false).run Tryz.prog w' = .ok y w':=by
  intro key hk hd
  rw [pMem_leaf hd]
  exact ⟨_,rfl,fun w' _=>⟨Maps.look_nil true mlaw Tryz.underlying109 (mzero w') (tkey key hk),Maps.look_nil false mlaw Tryz.underlying109 (mzero w') (tkey key hk)⟩⟩
 obtain ⟨b,rfl,hb,h⟩:=h
 rcases h with ⟨k,_,rfl,h⟩ | ⟨n,rfl,h,_⟩ | ⟨s,rfl,h⟩ | ⟨es,sl,ps,rfl,h,_⟩ | ⟨es,m,n,D,rfl,h,hFm,ho,hp⟩
 ·exact ⟨b,_,_,_,_,_,rfl,h,fun key hk=>hnil key hk (by simp [Sp.vWord])⟩
 ·exact ⟨b,_,_,_,_,_,rfl,h,fun key hk=>hnil key hk (by simp [Sp.vNum])⟩
 ·exact ⟨b,_,_,_,_,_,rfl,h,fun key hk=>hnil key hk (by simp [Sp.vStr])⟩
 ·exact ⟨b,_,_,_,_,_,rfl,h,fun key hk=>hnil key hk (by simp [Sp.vArr])⟩
 ·refine ⟨b,_,_,_,_,_,rfl,h,fun key hk=>?_⟩
  have hml:=map_lt ho
  have hkey:=tkey key hk
  have hh:=hp.has (.string key)
  cases hc:has (.map D:DataW Value) (.string key) with
  | false =>
   have e1:Sp.pMem (Sp.vObj es) key = none:=by
    unfold Sp.pMem Sp.vObj
    simp only
    rw [if_neg (by rw [← hh,hc]; simp)]
   rw [e1]
   refine ⟨.pointer none,rfl,fun w' hbw=>?_⟩
   have ho':=map_kept ho (hbw.block m hml)
   obtain ⟨v1,ps1,r1,q1⟩:=ho'.look_ok mlaw Tryz.underlying109 (mzero w') (zd:=.held (.pointer none)) (zp:=[]) rfl hkey
   obtain ⟨v2,ps2,r2,q2⟩:=ho'.lookup mlaw Tryz.underlying109 (mzero w') (zd:=.held (.pointer none)) (zp:=[]) rfl hkey
   obtain ⟨rfl,_⟩:=rv_held q1 (atKey_of_not_has hc _)
   obtain ⟨rfl,_⟩:=rv_held q2 (atKey_of_not_has hc _)
   rw [hc] at r1
   exact ⟨r1,r2⟩
  | true =>
   obtain ⟨x,e4,hx⟩:=hp.at (.string key) hc
   have e1:Sp.pMem (Sp.vObj es) key = some ((DataW.map es).atKey (.string key) .nil):=by
    unfold Sp.pMem Sp.vObj
    simp only
    rw [if_pos (by rw [← hh,hc])]
   rw [e1]
   refine ⟨x,hx,fun w' hbw=>?_⟩
   have ho':=map_kept ho (hbw.block m hml)
   obtain ⟨v1,ps1,r1,q1⟩:=ho'.look_ok mlaw Tryz.underlying109 (mzero w') (zd:=.held (.pointer none)) (zp:=[]) rfl hkey
   obtain ⟨v2,ps2,r2,q2⟩:=ho'.lookup mlaw Tryz.underlying109 (mzero w') (zd:=.held (.pointer none)) (zp:=[]) rfl hkey
   obtain ⟨rfl,_⟩:=rv_held q1 (e4 _)
   obtain ⟨rfl,_⟩:=rv_held q2 (e4 _)
   rw [hc] at r1
   exact ⟨r1,r2⟩
section
variable {f:Nat} {F:Nat → Prop} {w:World} {v:Value} {o:Option Sp.V}
def strV (r:Option Sp.By):Value:=.tuple #[.string ⟨(r.getD []).toArray⟩,.bool r.isSome]
set_option maxRecDepth 100000 in
set_option maxHeartbeats 2000000 in
theorem str_any (h:MemR f F w v o):Calls Tryz.prog 149 #[v] w fun e w'=>e = .returned (strV (Sp.pStrOf o)) ∧ w' = w:=by
 cases o with
 | none =>
  obtain rfl:v = .pointer none:=h
  go_enter Tryz.func149,Tryz.ntmps149
  go_wp2_with (fail)
  go_ret2
  exact ⟨rfl,rfl⟩
 | some d =>
  cases f with
  | zero=>exact h.elim
  | succ f =>
   obtain ⟨b,rfl,hb,h⟩:=h
   obtain ⟨x,n,s,sl,mv,hv,hx⟩:∃ (x:Nat) (n:Sp.Nm) (s:Sp.By) (sl mv:Value),VB w b x n s sl mv ∧ ((x = 4 ∧ Sp.pStrOf (some d) = some s) ∨ (x ≠ 4 ∧ Sp.pStrOf (some d) = none)):=by
    rcases h with ⟨k,hk,rfl,h⟩ | ⟨n,rfl,h,_⟩ | ⟨s,rfl,h⟩ | ⟨es,sl,ps,rfl,h,_⟩ | ⟨es,m,n,D,rfl,h,_⟩
    ·exact ⟨k,_,_,_,_,h,Or.inr ⟨by omega,rfl⟩⟩
    ·exact ⟨3,_,_,_,_,h,Or.inr ⟨by omega,rfl⟩⟩
    ·exact ⟨4,_,_,_,_,h,Or.inl ⟨rfl,rfl⟩⟩
    ·exact ⟨5,_,_,_,_,h,Or.inr ⟨by omega,rfl⟩⟩
    ·exact ⟨6,_,_,_,_,h,Or.inr ⟨by omega,rfl⟩⟩
   have c0:=hv.c0
   have c4:=hv.c4
   clear h hb hv
   rcases hx with ⟨rfl,e⟩ | ⟨hne,e⟩
   ·rw [e]
    clear e
    go_enter Tryz.func149,Tryz.ntmps149
    go_wp2_with (fail)
    go_ret2
    exact ⟨rfl,rfl⟩
   ·rw [e]
    have e1:((x:Int) != 4) = true:=by rw [bne_iff_ne]; omega
    have e2:((x:Int) == 4) = false:=by rw [beq_eq_false_iff_ne]; omega
    clear e hne c4
    go_enter Tryz.func149,Tryz.ntmps149
    go_wp2_with (fail)
    go_ret2
    exact ⟨rfl,rfl⟩
end
end Go.Proofs.YtdpomdelmdofmaaGreatDoor

namespace Go.Proofs.YtdpomdelmdofmaaGreatDoor
open Go.RowKit
namespace Sp
def pes (l:By):Option UInt8:=match l with
 | 126 :: 48 :: _=>some 126
 | 126 :: 49 :: _=>some 47
 | _=>none
end Sp
theorem below_drN {B:Nat} {a w:World} (h:Below B a w) (q:Nat):Below B a (w.drewN q):=⟨h.os,h.tape,h.output,h.size,h.block⟩
theorem PTab.below {w w':World} {B:Nat} (h:PTab w) (hb:Below B w w') (hB:4 < B):PTab w':=by
 obtain ⟨t,fr,e⟩:=h; exact ⟨t,fr,(hb.block _ hB).trans e⟩
theorem PTab.kept {w w':World} (h:PTab w) (hb:Below w.heap.size w w'):PTab w':=by
 refine h.below hb ?_
 obtain ⟨t,fr,e⟩:=h
 exact (Array.getElem?_eq_some_iff.1 e).1
theorem pes_i0 (w:World):(Instr.index 256 (.agg pescCells) (.int .i64 0)).run Tryz.prog w = .ok (.agg #[.string ⟨#[126,48]⟩,.int .u8 126]) w:=by kernel_rfl
theorem pes_i1 (w:World):(Instr.index 256 (.agg pescCells) (.int .i64 1)).run Tryz.prog w = .ok (.agg #[.string ⟨#[126,49]⟩,.int .u8 47]) w:=by kernel_rfl
theorem pref_any (l:Sp.By) (p:ByteArray) (w:World):Calls Tryz.prog 194 #[.string ⟨l.toArray⟩,.string p] w fun e w'=>e = .returned (.bool (Lib.hasPrefix l p.data.toList)) ∧ w' = w:=Tryz.strings_HasPrefix ⟨l.toArray⟩ p w
theorem pes_0 {l:Sp.By} (h:Lib.hasPrefix l [126,48] = true):Sp.pes l = some 126:=by
 match l,h with
 | [],h=>cases h
 | [a],h=>simp [Lib.hasPrefix] at h
 | a :: b :: r,h =>
  simp [Lib.hasPrefix] at h
  rw [← h.1,← h.2]; rfl
theorem pes_1 {l:Sp.By} (h:Lib.hasPrefix l [126,49] = true):Sp.pes l = some 47:=by
 match l,h with
 | [],h=>cases h
 | [a],h=>simp [Lib.hasPrefix] at h
 | a :: b :: r,h =>
  simp [Lib.hasPrefix] at h
  rw [← h.1,← h.2]; rfl
theorem pes_no {l:Sp.By} (h:Lib.hasPrefix l [126,48] = false) (h1:Lib.hasPrefix l [126,49] = false):Sp.pes l = none:=by
 match l,h,h1 with
 | [],_,_=>rfl
 | [a],_,_=>unfold Sp.pes; split <;> simp_all
 | a :: b :: r,h,h1 =>
  unfold Sp.pes
  split
  ·rename_i e; injection e with e1 e2; injection e2 with e2 _; subst e1; subst e2; simp [Lib.hasPrefix] at h
  ·rename_i e; injection e with e1 e2; injection e2 with e2 _; subst e1; subst e2; simp [Lib.hasPrefix] at h1
  ·rfl
def pesK (j:Nat):ByteArray:=if j = 0 then ⟨#[126,48]⟩ else ⟨#[126,49]⟩
def pesB (j:Nat):Int:=if j = 0 then 126 else 47
theorem pes_idx (j:Nat) (hj:j < 2) (w:World):(Instr.index 256 (.agg pescCells) (.int .i64 j)).run Tryz.prog w = .ok (.agg #[.string (pesK j),.int .u8 (pesB j)]) w:=by
 match j,hj with
 | 0,_=>exact pes_i0 w
 | 1,_=>exact pes_i1 w
theorem pesK_size (j:Nat) (hj:j < 2):(pesK j).size = 2:=by
 match j,hj with
 | 0,_=>rfl
 | 1,_=>rfl
def PSt (l:Sp.By) (j:Nat):Prop:=(1 ≤ j → Lib.hasPrefix l [126,48] = false) ∧ (2 ≤ j → Lib.hasPrefix l [126,49] = false)
theorem PSt.step {l:Sp.By} {j:Nat} (hj:j < 2) (h:PSt l j) (hh:Lib.hasPrefix l (pesK j).data.toList = false):PSt l (j + 1):=by
 match j,hj with
 | 0,_=>exact ⟨fun _=>hh,fun h=>absurd h (by omega)⟩
 | 1,_=>exact ⟨fun _=>h.1 (by omega),fun _=>hh⟩
def pesV (o:Option UInt8):Value:=match o with
 | none=>.tuple #[.int .u8 0,.int .i64 0]
 | some c=>.tuple #[.int .u8 c.toNat,.int .i64 2]
theorem pes_hit {l:Sp.By} {j:Nat} (hj:j < 2) (_:PSt l j) (hh:Lib.hasPrefix l (pesK j).data.toList = true):pesV (Sp.pes l) = .tuple #[.int .u8 (pesB j),.int .i64 2]:=by
 match j,hj with
 | 0,_=>rw [pes_0 hh]; rfl
 | 1,_=>rw [pes_1 hh]; rfl
set_option maxHeartbeats 4000000 in
theorem pescape_any (l:Sp.By) (w:World) (hT:PTab w) :
  Calls Tryz.prog 146 #[.string ⟨l.toArray⟩] w fun e w'=>e = .returned (pesV (Sp.pes l)) ∧ Below w.heap.size w w':=by
 obtain ⟨R,hR⟩:∃ R,R = pesV (Sp.pes l):=⟨_,rfl⟩
 rw [← hR]
 have HR:=hide hR
 have hp0:=fun w1=>pref_any l ⟨#[126,48]⟩ w1
 have hp1:=fun w1=>pref_any l ⟨#[126,49]⟩ w1
 have HP0:=hide hp0
 have HP1:=hide hp1
 have hlt:4 < w.heap.size:=by obtain ⟨t,fr,e⟩:=hT; exact (Array.getElem?_eq_some_iff.1 e).1
 obtain ⟨tt,fz,hg1⟩:=hT
 clear hR hp0 hp1
 go_enter Tryz.func146,Tryz.ntmps146
 go_wp2_with (refine wpList_load_row rfl 256 _ rfl 4 rfl tt _ fz _ hg1 Tryz.underlying256 rfl (by kernel_rfl) ?_)
 clear hg1
 go_loopw [7] (fun i wr=>∃ j:Nat,j ≤ 2 ∧ i = .int .i64 j ∧ Below w.heap.size w wr ∧ Hid (PSt l j)) (fun i _=>2 - (intOf i).toNat)
 case atStart=>exact ⟨0,by omega,rfl,Below.refl _ _,fun h=>absurd h (by omega),fun h=>absurd h (by omega)⟩
 case round =>
  obtain ⟨j,hj,rfl,hb,hst⟩:=hrel
  have HB:=hide hb
  have HS:=hide (unhide hst)
  have hsz:=hb.size
  clear hb hst
  by_cases h2:j = 2
  ·subst h2
   have HV:=hide (show R = .tuple #[.int .u8 0,.int .i64 0] by rw [unhide HR,pes_no ((unhide HS).1 (by omega)) ((unhide HS).2 (by omega))]; rfl)
   go_wp2_with (fail)
   go_ret2
   exact ⟨by rw [unhide HV]; rfl,unhide HB⟩
  ·have hjj:j < 2:=by omega
   have hlt2:(j:Int) < 2:=by omega
   have hidx:=fun w1=>pes_idx j hjj w1
   have hcall:=hide (fun w1=>pref_any l (pesK j) w1)
   have hks:=pesK_size j hjj
   cases hh:Lib.hasPrefix l (pesK j).data.toList with
   | true =>
    have HV:=hide (show R = .tuple #[.int .u8 (pesB j),.int .i64 2] by rw [unhide HR]; exact pes_hit hjj (unhide HS) hh)
    rw [hh] at hcall
    clear hh
    generalize pesK j = pk at *
    generalize pesB j = pb at *
    go_wp2_with (fail)
    refine (unhide hcall _).mono ?_
    rintro e w2 ⟨rfl,rfl⟩
    go_wp2_with (fail)
    go_quiet (fail)
    go_wp2_with (fail)
    go_ret2
    exact ⟨by rw [unhide HV]; first | rfl | (congr; simp [hks]),below_drN ((unhide HB).alloc hsz _) _⟩
   | false =>
    have HST:=hide ((unhide HS).step hjj hh)
    rw [hh] at hcall
    clear hh
    generalize pesK j = pk at *
    generalize pesB j = pb at *
    go_wp2_with (fail)
    refine (unhide hcall _).mono ?_
    rintro e w2 ⟨rfl,rfl⟩
    go_wp2_with (fail)
    go_roundw
    case rel=>exact ⟨j + 1,by omega,by go_num,(unhide HB).alloc hsz _,HST⟩
    case measure=>simp [intOf]; omega
end Go.Proofs.YtdpomdelmdofmaaGreatDoor

namespace Go.Proofs.YtdpomdelmdofmaaGreatDoor
open Go.RowKit
theorem ahd_le (l:Sp.By):(Sp.ahd l).length ≤ l.length:=(List.takeWhile_sublist _).length_le
theorem idx_126:∀ l:Sp.By,(Lib.index l [126] = -1 ∧ Sp.ahd l = l) ∨ (Lib.index l [126] = (Sp.ahd l).length ∧ ∃ r,l = Sp.ahd l ++ 126 :: r)
 | []=>Or.inl ⟨rfl,rfl⟩
 | b :: l=>by
  by_cases hb:b = 126
  ·subst hb
   exact Or.inr ⟨by simp [Lib.index,Sp.ahd],l,by simp [Sp.ahd]⟩
  ·have h1:Sp.ahd (b :: l) = b :: Sp.ahd l:=by simp [Sp.ahd,hb]
   have h2:Lib.index (b :: l) [126] = if Lib.index l [126] == -1 then -1 else Lib.index l [126] + 1:=by
    have:([126]:List UInt8).isPrefixOf (b :: l) = false:=by
     simp only [List.isPrefixOf]
     simp [Ne.symm hb]
    simp only [Lib.index,this]
    rfl
   rw [h1,h2]
   rcases idx_126 l with ⟨e1,e2⟩ | ⟨e1,r,e2⟩
   ·rw [e1,e2]; exact Or.inl ⟨rfl,rfl⟩
   ·refine Or.inr ⟨?_,r,by rw [List.cons_append,← e2]⟩
    rw [e1,if_neg (by simp)]
    simp
theorem cut_no {l:Sp.By} (h:Lib.index l [126] = -1):Lib.cut l [126] = (l,[],false):=by
 unfold Lib.cut; rw [h]; rfl
theorem cut_yes {l r:Sp.By} (h:Lib.index l [126] = (Sp.ahd l).length) (e:l = Sp.ahd l ++ 126 :: r):Lib.cut l [126] = (Sp.ahd l,r,true):=by
 unfold Lib.cut
 rw [h,if_pos (by omega)]
 simp only [Int.toNat_natCast]
 have e1:l.take (Sp.ahd l).length = Sp.ahd l:=by
  have h1:(Sp.ahd l ++ 126 :: r).take (Sp.ahd l).length = Sp.ahd l:=List.take_left' rfl
  rw [← e] at h1; exact h1
 have e2:l.drop ((Sp.ahd l).length + [(126:UInt8)].length) = r:=by
  have h1:(Sp.ahd l ++ 126 :: r).drop ((Sp.ahd l).length + 1) = r:=by
   rw [← List.drop_drop,List.drop_left' rfl]; rfl
  rw [← e] at h1; exact h1
 rw [e1,e2]
theorem une_plain:∀ {p:Sp.By} (r:Sp.By),(∀ c ∈ p,c ≠ 126) → Sp.une (p ++ r) = (Sp.une r).map (p ++ ·)
 | [],r,_=>by simp
 | c :: p,r,h=>by
  rw [List.cons_append,Sp.une_eq,if_neg (h c (by simp)),une_plain r (fun d hd=>h d (by simp [hd]))]
  cases Sp.une r <;> rfl
theorem ahd_mem (l:Sp.By):∀ c ∈ Sp.ahd l,c ≠ 126:=by
 induction l with
 | nil=>intro c hc; cases hc
 | cons b l ih =>
  intro c hc
  by_cases hb:b = 126
  ·subst hb; simp [Sp.ahd] at hc
  ·have h1:Sp.ahd (b :: l) = b :: Sp.ahd l:=by simp [Sp.ahd,hb]
   rw [h1] at hc
   rcases List.mem_cons.1 hc with e | e
   ·rw [e]; exact hb
   ·exact ih c e
theorem une_no {l:Sp.By} (h:Sp.ahd l = l):Sp.une l = some l:=by
 have:=une_plain (p:=l) [] (by rw [← h]; exact ahd_mem l)
 rw [List.append_nil] at this
 rw [this]; simp [Sp.une]
theorem une_esc (r:Sp.By):Sp.une (126 :: r) = match Sp.pes (126 :: r) with
 | none=>none
 | some c=>(Sp.une ((126 :: r).drop 2)).map (c :: ·):=by
 rw [Sp.une_eq,if_pos rfl]
 match r with
 | []=>rfl
 | b :: q =>
  by_cases h0:b = 48
  ·subst h0; rfl
  ·by_cases h1:b = 49
   ·subst h1; rfl
   ·have e:Sp.pes (126 :: b :: q) = none:=by
     unfold Sp.pes
     split
     ·rename_i e; injection e with _ e; injection e with e _; exact absurd e h0
     ·rename_i e; injection e with _ e; injection e with e _; exact absurd e h1
     ·rfl
    rw [e]
    simp only
    split
    ·rename_i e; injection e with e _; exact absurd e h0
    ·rename_i e; injection e with e _; exact absurd e h1
    ·rfl
end Go.Proofs.YtdpomdelmdofmaaGreatDoor
