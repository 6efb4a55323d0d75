/-
  Walk of the reader's member.
-/
import Derived.Test.YtdpomdelmdofmaaGreatDoorPart09
import Derived.Maps.OwnSet
import Derived.Test.YtdpomdelmdofmaaGreatDoorPart07
import Derived.Test.YtdpomdelmdofmaaGreatDoorPart05
import Derived.Test.YtdpomdelmdofmaaGreatDoorPart03
import Derived.Laws.Rows
namespace Go.Proofs.YtdpomdelmdofmaaGreatDoor
open Go.RowKit Go.Maps Go.ChangeMaps Go.WideMaps
theorem mlaw:Keyed Tryz.prog 9:=string_keyed Tryz.underlying9
theorem mzero (w:World):(zeroValue 80).run Tryz.prog w = .ok (.pointer none) w:=by kernel_rfl
theorem mkey (s:Sp.By) (h:s.length ≤ 8000):keyOf Tryz.prog 9 (.string ⟨s.toArray⟩) = some (.string s):=by
 have:=Go.WideMaps.keyOf_string_mk Tryz.underlying9 (s:=⟨s.toArray⟩) (by rw [bs_size]; unfold maxLen; omega)
 simpa using this
def memEnd (f:Nat) (R:Nat) (t:ByteArray) (lv:Int) (w0:World) (p0 p1 p2 vb m N1:Nat) (l:Sp.By) (s:Sp.V × Sp.Fl) (e:Ending) (w':World):Prop :=
 (∃ l' s',Sp.memb (Sp.val f (lv + 1)) l s = some (l',s') ∧ e = .returned (.bool true) ∧ ObjI f R t lv w0 p0 p1 p2 vb m N1 w' l' s') ∨ (Sp.memb (Sp.val f (lv + 1)) l s = none ∧ e = .returned (.bool false) ∧ RdJ R t w0 p2 vb w')
set_option maxRecDepth 100000 in
set_option maxHeartbeats 8000000 in
theorem member_any {f R:Nat} {t:ByteArray} {lv:Int} {w0:World} {p0 p1 p2 vb m N1:Nat} (B:Boxes w0 R p0 p1 p2 vb N1) (hV:ValOk f) (hlv:0 ≤ lv) (w:World) (l:Sp.By) (s:Sp.V) (tw:Bool) (dp fr:Int) (hI:ObjI f R t lv w0 p0 p1 p2 vb m N1 w l (s,(tw,dp,fr))) (hl:l.length < f) (hb:lv + f ≤ 4999) :
  Calls Tryz.prog 218 #[.pointer (some ⟨R,0,none⟩),.pointer (some ⟨vb,0,none⟩),.int .i64 (lv + 1)] w fun e w'=>memEnd f R t lv w0 p0 p1 p2 vb m N1 l (s,(tw,dp,fr)) e w':=by
 have hml:=mlaw
 have hmz:=mzero
 have h2000:l.length ≤ 2000:=by obtain ⟨p,ha,_⟩:=hI.rd; have:=ha.len; have:=ha.small; omega
 have HI:=hide hI
 have hr:=hI.rd
 simp only at hr
 have hT:=hI.laid
 clear hI
 go_enter Tryz.func218,Tryz.ntmps218
 go_wp2_with (fail)
 refine (quoted_any hr hT B.ng).mono ?_
 rintro e w1 ⟨hk1,hc⟩
 rcases hc with ⟨k,l1,hq,rfl,hr1⟩ | ⟨hq,k,l1,rfl,hr1⟩
 rotate_left
 ·have HQ:=hide hq
  clear hq hT
  go_wp2_with (fail)
  go_ret
  refine Or.inr ⟨?_,rfl,?_⟩
  ·unfold Sp.memb; rw [unhide HQ]
  ·have h9:=obj_move B (fl':=(tw,dp,fr)) (l':=[]) (w':=w1) (unhide HI)
   exact ⟨(unhide HI).kept.trans hk1,⟨_,_,_,_,hr1⟩,(hk1.block p2 (by have:=B.a2; have:=(unhide HI).sz; omega) (by have:=B.a2; have:=B.r; omega)).trans (unhide HI).b2⟩
 have HQ:=hide hq
 have hql:=Sp.quo_len hq
 have hqb:=quo_bd hq
 clear hq
 go_wp2_with (fail)
 refine (blanks_any hr1).mono ?_
 rintro e w2 ⟨rfl,hr2,hk2⟩
 have hs1:=Sp.skB_len l1
 by_cases k1:Sp.tk (Sp.skB l1) 58 = true
 rotate_left
 ·have K1:=hide (tk_false k1)
  clear k1 hT
  go_wp2_with (fail)
  refine (takeN 58 _ rfl hr2 (unhide K1)).mono ?_
  rintro e w3 ⟨rfl,hr3,hk3⟩
  have hkk:=(hk1.trans hk2).trans hk3
  go_wp2_with (fail)
  go_ret
  refine Or.inr ⟨?_,rfl,?_⟩
  ·unfold Sp.memb; rw [unhide HQ]; simp only; rw [unhide K1]; rfl
  ·exact ⟨(unhide HI).kept.trans hkk,⟨_,_,_,_,hr3⟩,(hkk.block p2 (by have:=B.a2; have:=(unhide HI).sz; omega) (by have:=B.a2; have:=B.r; omega)).trans (unhide HI).b2⟩
 have K1:=hide k1
 have hl2:=tk_cons k1
 clear k1
 go_wp2_with (fail)
 refine (take_yes 58 _ rfl hr2 (unhide K1)).mono ?_
 rintro e w3 ⟨rfl,hr3,hk3⟩
 go_wp2_with (fail)
 refine (blanks_any hr3).mono ?_
 rintro e w4 ⟨rfl,hr4,hk4⟩
 have hs3:=Sp.skB_len (Sp.skB l1).tail
 have hk04:=((hk1.trans hk2).trans hk3).trans hk4
 go_wp2_with (fail)
 refine (hV R t (lv + 1) _ _ _ _ w4 hr4 (hT.kept hk04 B.ng) B.ng (by omega) (by omega) (by omega)).mono ?_
 rintro e w5 ⟨hk5,hc⟩
 have hk05:=hk04.trans hk5
 have bR:=B.r
 have av:=B.av
 have a2:=B.a2
 have bm:=(unhide HI).bm
 have hsz:=(unhide HI).sz
 obtain ⟨n,D,es,hn,hes,ho,hp⟩:=(unhide HI).el
 simp only at hes
 have ho5:=map_kept ho (hk05.block m (map_lt ho) (by omega))
 have hvb5:=(unhide HI).hvb.kept (hk05.block vb (unhide HI).hvb.lt (by omega))
 have q6:w5.cell? ⟨vb,6,none⟩ = some (.map (some m)):=by simp [World.cell?,show w5.heap[vb]? = _ from hvb5]
 have hkl:keyOf Tryz.prog 9 (.string ⟨k.toArray⟩) = some (.string k):=mkey k (by omega)
 have HM:=hide (show Sp.memb (Sp.val f (lv + 1)) l (s,(tw,dp,fr)) = (match Sp.val f (lv + 1) (Sp.skB (Sp.skB l1).tail) (tw,dp,fr) with
  | none=>none
  | some (v,r,fl)=>some (r,(DataW.put s (.string k) v,(fl.1 || Maps.has s (.string k),fl.2)))) from by
   unfold Sp.memb; rw [unhide HQ]; simp only; rw [unhide K1]; rfl)
 have hhas:Hid (Maps.has s (.string k) = Maps.has (.map D) (.string k)):=by rw [Hid,hes]; exact (hp.pt.has _).symm
 have HOO:=hide ho5
 have HKL:=hide hkl
 have HN:=hide (show n < maxLen by unfold maxLen; omega)
 have HES:=hide hes
 have HPP:=hide hp
 have HN2:=hide hn
 clear ho5 hkl hes hp hn ho
 generalize Sp.skB (Sp.skB l1).tail = l4 at *
 rcases hc with ⟨d,r,fl',p,hs,rfl,hr5,hrep⟩ | ⟨hs,p,rfl,r,tw5,dp5,fr5,hr5⟩
 ·have HS:=hide hs
  clear hs hT
  cases hh:Maps.has (.map D) (.string k) with
  | false =>
   have HH:=hide hh
   clear hh
   go_wp2_with (first | (at_lookup; refine wpList_lookup_own_ok _ rfl _ _ 109 rfl 9 80 hml Tryz.underlying109 RV (hmz _) (.held (.pointer none)) [] rfl m n (.map D) rfl (unhide HOO) _ _ rfl (unhide HKL) ?_))
   intro v0 ps0 hv0
   clear hv0
   rw [unhide HH]
   go_wp2_with (first | (at_mapUpdate; refine wpList_mapUpdate_own _ rfl _ _ _ 109 rfl 9 80 hml Tryz.underlying109 RV m n (.map D) rfl (unhide HOO) (unhide HN) _ _ _ rfl rfl (unhide HKL) (.held (.pointer p)) [] rfl ?_))
   intro w6 ho6 hg6
   go_wp2_with (fail)
   go_ret
   have hf:=obj_fin B (unhide HI) hk05 hr5 (unhide HN2) (unhide HES) (unhide HPP) ho6 hg6
   refine Or.inl ⟨r,(DataW.put s (.string k) d,(fl'.1,fl'.2)),?_,rfl,?_⟩
   ·rw [unhide HM,unhide HS]
    simp only
    rw [unhide hhas,unhide HH]; simp
   ·have hl5:=Sp.val_len _ _ _ _ _ _ _ (unhide HS)
    exact hf.2.2.2 d (hrep.move hk04.size fun j h1 h2=>rfl) (by omega)
  | true =>
   have HH:=hide hh
   clear hh
   obtain ⟨q,ha,hq⟩:=hr5
   have z2:=hq.fz 2
   have y2:=hq.c2
   have hr6:RD (w5.setCell ⟨R,2,none⟩ (.bool true)) R t r true fl'.2.1 fl'.2.2:=⟨q,ha,hq.set2 true⟩
   have hk06:KeptX R w (w5.setCell ⟨R,2,none⟩ (.bool true)):=hk05.setCell rfl _
   have HO6:=hide (map_kept (unhide HOO) (show (w5.setCell ⟨R,2,none⟩ (.bool true)).heap[m]? = w5.heap[m]? from Below.heap_setCell _ _ _ _ (show m ≠ R by omega)))
   have q6':(w5.setCell ⟨R,2,none⟩ (.bool true)).cell? ⟨vb,6,none⟩ = some (.map (some m)):=(World.cell?_of_block (w:=w5) (Below.heap_setCell _ _ _ _ (show vb ≠ R by omega))).trans q6
   go_wp2_with (first | (at_lookup; refine wpList_lookup_own_ok _ rfl _ _ 109 rfl 9 80 hml Tryz.underlying109 RV (hmz _) (.held (.pointer none)) [] rfl m n (.map D) rfl (unhide HOO) _ _ rfl (unhide HKL) ?_))
   intro v0 ps0 hv0
   clear hv0
   rw [unhide HH]
   go_wp2_with (first | (at_mapUpdate; refine wpList_mapUpdate_own _ rfl _ _ _ 109 rfl 9 80 hml Tryz.underlying109 RV m n (.map D) rfl (unhide HO6) (unhide HN) _ _ _ rfl rfl (unhide HKL) (.held (.pointer p)) [] rfl ?_))
   intro w6 ho6 hg6
   go_wp2_with (fail)
   go_ret
   have hf:=obj_fin B (unhide HI) hk06 hr6 (unhide HN2) (unhide HES) (unhide HPP) ho6 hg6
   refine Or.inl ⟨r,(DataW.put s (.string k) d,(true,fl'.2)),?_,rfl,?_⟩
   ·rw [unhide HM,unhide HS]
    simp only
    rw [unhide hhas,unhide HH]; simp
   ·have hl5:=Sp.val_len _ _ _ _ _ _ _ (unhide HS)
    exact hf.2.2.2 d (hrep.move hk04.size fun j h1 h2=>Below.heap_setCell _ _ _ _ (show j ≠ R by have:=hk04.size; omega)) (by omega)
 ·have HS:=hide hs
  clear hs hT
  cases hh:Maps.has (.map D) (.string k) with
  | false =>
   have HH:=hide hh
   clear hh
   go_wp2_with (first | (at_lookup; refine wpList_lookup_own_ok _ rfl _ _ 109 rfl 9 80 hml Tryz.underlying109 RV (hmz _) (.held (.pointer none)) [] rfl m n (.map D) rfl (unhide HOO) _ _ rfl (unhide HKL) ?_))
   intro v0 ps0 hv0
   clear hv0
   rw [unhide HH]
   go_wp2_with (first | (at_mapUpdate; refine wpList_mapUpdate_own _ rfl _ _ _ 109 rfl 9 80 hml Tryz.underlying109 RV m n (.map D) rfl (unhide HOO) (unhide HN) _ _ _ rfl rfl (unhide HKL) (.held (.pointer p)) [] rfl ?_))
   intro w6 ho6 hg6
   go_wp2_with (fail)
   go_ret
   have hf:=obj_fin B (unhide HI) hk05 hr5 (unhide HN2) (unhide HES) (unhide HPP) ho6 hg6
   refine Or.inr ⟨?_,rfl,hf.1,⟨_,_,_,_,hf.2.1⟩,hf.2.2.1⟩
   rw [unhide HM,unhide HS]
  | true =>
   have HH:=hide hh
   clear hh
   obtain ⟨q,ha,hq⟩:=hr5
   have z2:=hq.fz 2
   have y2:=hq.c2
   have hr6:RD (w5.setCell ⟨R,2,none⟩ (.bool true)) R t r true dp5 fr5:=⟨q,ha,hq.set2 true⟩
   have hk06:KeptX R w (w5.setCell ⟨R,2,none⟩ (.bool true)):=hk05.setCell rfl _
   have HO6:=hide (map_kept (unhide HOO) (show (w5.setCell ⟨R,2,none⟩ (.bool true)).heap[m]? = w5.heap[m]? from Below.heap_setCell _ _ _ _ (show m ≠ R by omega)))
   have q6':(w5.setCell ⟨R,2,none⟩ (.bool true)).cell? ⟨vb,6,none⟩ = some (.map (some m)):=(World.cell?_of_block (w:=w5) (Below.heap_setCell _ _ _ _ (show vb ≠ R by omega))).trans q6
   go_wp2_with (first | (at_lookup; refine wpList_lookup_own_ok _ rfl _ _ 109 rfl 9 80 hml Tryz.underlying109 RV (hmz _) (.held (.pointer none)) [] rfl m n (.map D) rfl (unhide HOO) _ _ rfl (unhide HKL) ?_))
   intro v0 ps0 hv0
   clear hv0
   rw [unhide HH]
   go_wp2_with (first | (at_mapUpdate; refine wpList_mapUpdate_own _ rfl _ _ _ 109 rfl 9 80 hml Tryz.underlying109 RV m n (.map D) rfl (unhide HO6) (unhide HN) _ _ _ rfl rfl (unhide HKL) (.held (.pointer p)) [] rfl ?_))
   intro w6 ho6 hg6
   go_wp2_with (fail)
   go_ret
   have hf:=obj_fin B (unhide HI) hk06 hr6 (unhide HN2) (unhide HES) (unhide HPP) ho6 hg6
   refine Or.inr ⟨?_,rfl,hf.1,⟨_,_,_,_,hf.2.1⟩,hf.2.2.1⟩
   rw [unhide HM,unhide HS]
end Go.Proofs.YtdpomdelmdofmaaGreatDoor

namespace Go.Proofs.YtdpomdelmdofmaaGreatDoor
open Go.RowKit Go.Maps
theorem memb_len (f:Nat) (lv:Int) (l:Sp.By) (s:Sp.V × Sp.Fl) (l':Sp.By) (s':Sp.V × Sp.Fl) (h:Sp.memb (Sp.val f lv) l s = some (l',s')):l'.length < l.length:=by
 unfold Sp.memb at h
 split at h
 ·cases h
 ·rename_i k l1 hq
  have a:=Sp.quo_len hq
  have b:=Sp.skB_len l1
  split at h
  ·have c:=Sp.skB_len (Sp.skB l1).tail
   have d:=List.length_tail (l:=Sp.skB l1)
   split at h
   ·cases h
   ·rename_i v r fl hv
    have:=Sp.val_len _ _ _ _ _ _ _ hv
    injection h with h; injection h with h1 h2; subst h1; omega
  ·cases h
set_option maxHeartbeats 4000000 in
theorem obj_item {f R:Nat} {t:ByteArray} {lv:Int} {w0:World} {p0 p1 p2 vb m N1:Nat} (B:Boxes w0 R p0 p1 p2 vb N1) (hV:ValOk f) (hlv:0 ≤ lv) (hb:lv + f ≤ 4999) (w:World) (l:Sp.By) (s:Sp.V × Sp.Fl) (hI:ObjI f R t lv w0 p0 p1 p2 vb m N1 w l s) (hl:l.length < f) :
  Calls Tryz.prog 217 #[.pointer (some ⟨p0,0,none⟩),.pointer (some ⟨p2,0,none⟩),.pointer (some ⟨p1,0,none⟩)] w fun e w'=>memEnd f R t lv w0 p0 p1 p2 vb m N1 l s e w':=by
 have c0:w.cell? ⟨p0,0,none⟩ = some (.pointer (some ⟨R,0,none⟩)):=by simp [World.cell?,hI.b0]
 have c1:w.cell? ⟨p1,0,none⟩ = some (.int .i64 lv):=by simp [World.cell?,hI.b1]
 have c2:w.cell? ⟨p2,0,none⟩ = some (.pointer (some ⟨vb,0,none⟩)):=by simp [World.cell?,hI.b2]
 have hlv2:lv ≤ 4999:=by omega
 have HI:=hide hI
 clear hI
 go_enter Tryz.func217,Tryz.ntmps217
 go_wp2_with (fail)
 refine (member_any B hV hlv w l s.1 s.2.1 s.2.2.1 s.2.2.2 (unhide HI) hl hb).mono ?_
 rintro e w2 hc
 rcases hc with ⟨l',s',h1,rfl,h2⟩ | ⟨h1,rfl,h2⟩
 ·have H1:=hide h1
  have H2:=hide h2
  clear h1 h2
  go_wp2_with (fail)
  go_ret
  exact Or.inl ⟨l',s',unhide H1,rfl,unhide H2⟩
 ·have H1:=hide h1
  have H2:=hide h2
  clear h1 h2
  go_wp2_with (fail)
  go_ret
  exact Or.inr ⟨unhide H1,rfl,unhide H2⟩
theorem obj_ok {f R:Nat} {t:ByteArray} {lv:Int} {w0:World} {p0 p1 p2 vb m N1:Nat} (B:Boxes w0 R p0 p1 p2 vb N1) (hV:ValOk f) (hlv:0 ≤ lv) (hb:lv + f ≤ 4999) :
  ItemOk 217 #[.pointer (some ⟨p0,0,none⟩),.pointer (some ⟨p2,0,none⟩),.pointer (some ⟨p1,0,none⟩)] R t f (Sp.memb (Sp.val f (lv + 1))) (ObjI f R t lv w0 p0 p1 p2 vb m N1) (RdJ R t w0 p2 vb) where
 rd:=fun w l s h=>⟨_,_,_,h.rd⟩
 move:=fun w w' l l' s tw dp fr h h1 h2 hk hl=>by
  obtain ⟨_,_,e1,e2,e3⟩:=h.rd.uniq h1
  exact obj_move B (fl':=s.2) h (by rw [e1,e2,e3]; exact h2) hk hl
 out:=fun w l s h=>⟨h.kept,⟨_,_,_,_,h.rd⟩,h.b2⟩
 len:=fun l s l' s' h=>memb_len _ _ _ _ _ _ h
 call:=fun w l s h hl=>obj_item B hV hlv hb w l s h hl
def objEnd (f:Nat) (lv:Int) (l:Sp.By) (fl:Sp.Fl) (e:Ending) (w w':World) (R:Nat) (t:ByteArray):Prop :=
 (∃ v r fl' p,Sp.lstAll 123 125 (Sp.memb (Sp.val f (lv + 1))) l (Sp.vObj [],fl) = some (r,(v,fl')) ∧ e = .returned (.tuple #[.pointer p,.bool true]) ∧ RD w' R t r fl'.1 fl'.2.1 fl'.2.2 ∧ Tr (f + 1) w.heap.size w' (.pointer p) v) ∨
  (Sp.lstAll 123 125 (Sp.memb (Sp.val f (lv + 1))) l (Sp.vObj [],fl) = none ∧ ∃ p,e = .returned (.tuple #[.pointer p,.bool false]) ∧ ∃ r tw dp fr,RD w' R t r tw dp fr)
theorem obj_rep {f R:Nat} {t:ByteArray} {lv:Int} {w0:World} {p0 p1 p2 vb m N1:Nat} (B:Boxes w0 R p0 p1 p2 vb N1) {w:World} {l:Sp.By} {s:Sp.V × Sp.Fl} (h:ObjI f R t lv w0 p0 p1 p2 vb m N1 w l s) :
  Tr (f + 1) w0.heap.size w (.pointer (some ⟨vb,0,none⟩)) s.1:=by
 have av:=B.av
 have bm:=h.bm
 obtain ⟨n,D,es,hn,he,ho,hp⟩:=h.el
 rw [he]
 exact hp.obj av ⟨bm.1,bm.2.1⟩ (by omega) h.hvb ho
theorem five (w:World) (o0 o1 o2 o3 o4:Obj):(((((w.alloc o0).alloc o1).alloc o2).alloc o3).alloc o4).heap[w.heap.size]? = some o0 ∧ (((((w.alloc o0).alloc o1).alloc o2).alloc o3).alloc o4).heap[w.heap.size + 1]? = some o1 ∧
  (((((w.alloc o0).alloc o1).alloc o2).alloc o3).alloc o4).heap[w.heap.size + 1 + 1]? = some o2 ∧ (((((w.alloc o0).alloc o1).alloc o2).alloc o3).alloc o4).heap[w.heap.size + 1 + 1 + 1]? = some o3 ∧ (((((w.alloc o0).alloc o1).alloc o2).alloc o3).alloc o4).heap[w.heap.size + 1 + 1 + 1 + 1]? = some o4:=by
 have h (k:Nat):(((((w.alloc o0).alloc o1).alloc o2).alloc o3).alloc o4).heap[k]? = (((((w.heap.push o0).push o1).push o2).push o3).push o4)[k]?:=rfl
 rw [h,h,h,h,h]
 simp only [Array.getElem?_push,Array.size_push]
 refine ⟨?_,?_,?_,?_,?_⟩
 ·rw [if_neg (by omega),if_neg (by omega),if_neg (by omega),if_neg (by omega),if_pos trivial]
 ·rw [if_neg (by omega),if_neg (by omega),if_neg (by omega),if_pos trivial]
 ·rw [if_neg (by omega),if_neg (by omega),if_pos trivial]
 ·rw [if_neg (by omega),if_pos trivial]
 ·rw [if_pos trivial]
set_option maxHeartbeats 4000000 in
theorem object_any {f R:Nat} {t:ByteArray} {lv:Int} {l:Sp.By} {tw:Bool} {dp fr:Int} {w:World} (hV:ValOk f) (h:RD w R t l tw dp fr) (hT:Laid w) (hR:NG ≤ R) (hl:l.length ≤ f) (hlv:0 ≤ lv) (hb:lv + f ≤ 4999) :
  Calls Tryz.prog 180 #[.pointer (some ⟨R,0,none⟩),.int .i64 lv] w fun e w'=>KeptX R w w' ∧ objEnd f lv l (tw,dp,fr) e w w' R t:=by
 have hmm:=@run_makeMap Tryz.prog
 have hRl:=h.lt
 have h2000:l.length ≤ 2000:=by obtain ⟨p,ha,_⟩:=h; have:=ha.len; have:=ha.small; omega
 have B:Boxes w R w.heap.size (w.heap.size + 1) (w.heap.size + 1 + 1 + 1 + 1) (w.heap.size + 1 + 1 + 1) (w.heap.size + 5):=⟨hRl,hR,by omega,by omega,by omega,by omega,by omega,by omega,by omega⟩
 have hI:Hid (∀ W,W = (((((w.alloc (.cells #[.pointer (some ⟨R,0,none⟩)] 153)).alloc (.cells #[.int .i64 lv] 3)).alloc (.map #[] 0)).alloc (.cells #[.int .i64 6,.bool false,.string ⟨#[]⟩,.int .i64 0,.string ⟨#[]⟩,.slice none 0 0,.map (some (w.heap.size + 1 + 1))] 111)).alloc (.cells #[.pointer (some ⟨w.heap.size + 1 + 1 + 1,0,none⟩)] 80)) →
   ObjI f R t lv w w.heap.size (w.heap.size + 1) (w.heap.size + 1 + 1 + 1 + 1) (w.heap.size + 1 + 1 + 1) (w.heap.size + 1 + 1) (w.heap.size + 5) W l (Sp.vObj [],(tw,dp,fr))):=by
  rintro W rfl
  have hf:=five w (.cells #[.pointer (some ⟨R,0,none⟩)] 153) (.cells #[.int .i64 lv] 3) (.map #[] 0) (.cells #[.int .i64 6,.bool false,.string ⟨#[]⟩,.int .i64 0,.string ⟨#[]⟩,.slice none 0 0,.map (some (w.heap.size + 1 + 1))] 111) (.cells #[.pointer (some ⟨w.heap.size + 1 + 1 + 1,0,none⟩)] 80)
  have hk:=(((((KeptX.refl R w).alloc (.cells #[.pointer (some ⟨R,0,none⟩)] 153)).alloc (.cells #[.int .i64 lv] 3)).alloc (.map #[] 0)).alloc (.cells #[.int .i64 6,.bool false,.string ⟨#[]⟩,.int .i64 0,.string ⟨#[]⟩,.slice none 0 0,.map (some (w.heap.size + 1 + 1))] 111)).alloc (.cells #[.pointer (some ⟨w.heap.size + 1 + 1 + 1,0,none⟩)] 80)
  have hm:((w.alloc (.cells #[.pointer (some ⟨R,0,none⟩)] 153)).alloc (.cells #[.int .i64 lv] 3)).heap.size = w.heap.size + 1 + 1:=by simp
  have hmap:=World.ownsMap_made ((w.alloc (.cells #[.pointer (some ⟨R,0,none⟩)] 153)).alloc (.cells #[.int .i64 lv] 3)) Tryz.prog 9 RV
  rw [hm] at hmap
  refine ⟨((((h.alloc _).alloc _).alloc _).alloc _).alloc _,hk,hT.kept hk hR,hf.1,hf.2.1,hf.2.2.2.2,by simp,⟨by omega,by omega,by omega,by omega,by omega,by omega⟩,hf.2.2.2.1,0,[],[],by omega,rfl,?_,TrM.nil _ _ _⟩
  exact map_kept (map_kept hmap (Below.heap_alloc _ _ _ (map_lt hmap))) (Below.heap_alloc _ _ _ (by simp))
 have K:=obj_ok (t:=t) (m:=w.heap.size + 1 + 1) B hV hlv hb
 clear hT
 go_enter Tryz.func180,Tryz.ntmps180
 go_wp2_with (fail)
 refine (list_obj _ _ _ 123 125 123 125 rfl rfl R t f _ _ _ K _ l (Sp.vObj [],(tw,dp,fr)) (unhide hI _ rfl) hl).mono ?_
 rintro e w5 hc
 rcases hc with ⟨l',s',hs,rfl,hI5⟩ | ⟨hs,rfl,hJ⟩
 ·have HS:=hide hs
  have hb2:=hI5.b2
  have q2:w5.cell? ⟨w.heap.size + 1 + 1 + 1 + 1,0,none⟩ = some (.pointer (some ⟨w.heap.size + 1 + 1 + 1,0,none⟩)):=by simp [World.cell?,hb2]
  have HI:=hide hI5
  clear hs hI5 hb2 hI
  go_wp2_with (fail)
  go_ret2
  exact ⟨(unhide HI).kept,Or.inl ⟨s'.1,l',s'.2,_,unhide HS,rfl,(unhide HI).rd,obj_rep B (unhide HI)⟩⟩
 ·have HS:=hide hs
  have hb2:=hJ.2.2
  have q2:w5.cell? ⟨w.heap.size + 1 + 1 + 1 + 1,0,none⟩ = some (.pointer (some ⟨w.heap.size + 1 + 1 + 1,0,none⟩)):=by simp [World.cell?,hb2]
  have HJ:=hide hJ
  clear hs hJ hb2 hI
  go_wp2_with (fail)
  go_ret2
  exact ⟨(unhide HJ).1,Or.inr ⟨unhide HS,_,rfl,(unhide HJ).2.1⟩⟩
end Go.Proofs.YtdpomdelmdofmaaGreatDoor

namespace Go.Proofs.YtdpomdelmdofmaaGreatDoor
open Go.RowKit
def wordL (j:Nat):Sp.By:=Sp.words.getD j []
theorem word_i0 (w:World):(Instr.index 165 (.agg wordCells) (.int .i64 0)).run Tryz.prog w = .ok (.string ⟨#[110,117,108,108]⟩) w:=by kernel_rfl
theorem word_i1 (w:World):(Instr.index 165 (.agg wordCells) (.int .i64 1)).run Tryz.prog w = .ok (.string ⟨#[116,114,117,101]⟩) w:=by kernel_rfl
theorem word_i2 (w:World):(Instr.index 165 (.agg wordCells) (.int .i64 2)).run Tryz.prog w = .ok (.string ⟨#[102,97,108,115,101]⟩) w:=by kernel_rfl
theorem word_idx (j:Nat) (hj:j < 3) (w:World):(Instr.index 165 (.agg wordCells) (.int .i64 j)).run Tryz.prog w = .ok (.string ⟨(wordL j).toArray⟩) w:=by
 match j,hj with
 | 0,_=>exact word_i0 w
 | 1,_=>exact word_i1 w
 | 2,_=>exact word_i2 w
theorem word_step (l:Sp.By) (j:Nat) (hj:j < 3):Sp.wordIn l j (Sp.words.drop j) = if Lib.hasPrefix l (wordL j) then some (j,l.drop (wordL j).length) else Sp.wordIn l (j + 1) (Sp.words.drop (j + 1)):=by
 match j,hj with
 | 0,_=>rfl
 | 1,_=>rfl
 | 2,_=>rfl
theorem wordL_len (j:Nat) (hj:j < 3):(wordL j).length ≤ 5:=by
 match j,hj with
 | 0,_=>decide
 | 1,_=>decide
 | 2,_=>decide
theorem heap_new (w:World) (o:Obj) (b:Nat) (hb:b = w.heap.size):(w.alloc o).heap[b]? = some o:=by
 subst hb; show (w.heap.push o)[w.heap.size]? = _; simp
def wordEnd (o:Option (Nat × Sp.By)) (l:Sp.By) (e:Ending) (w w':World) (R:Nat) (t:ByteArray) (tw:Bool) (dp fr:Int):Prop :=
 (∃ k l' b,o = some (k,l') ∧ e = .returned (.tuple #[.pointer (some ⟨b,0,none⟩),.bool true]) ∧ k < 3 ∧ VB w' b k n0 [] (.slice none 0 0) (.map none) ∧ w.heap.size ≤ b ∧ RD w' R t l' tw dp fr) ∨
  (o = none ∧ e = .returned (.tuple #[.pointer none,.bool false]) ∧ RD w' R t l tw dp fr)
set_option maxHeartbeats 4000000 in
theorem word_any {w:World} {R:Nat} {t:ByteArray} {l:Sp.By} {tw:Bool} {dp fr:Int} (h:RD w R t l tw dp fr) (hT:Laid w) :
  Calls Tryz.prog 185 #[.pointer (some ⟨R,0,none⟩)] w fun e w'=>KeptX R w w' ∧ wordEnd (Sp.wordIn l 0 Sp.words) l e w w' R t tw dp fr:=by
 obtain ⟨tt,fz,hg1⟩:=hT.words
 clear hT
 go_enter Tryz.func185,Tryz.ntmps185
 go_wp2_with (refine wpList_load_row rfl 165 _ rfl 0 rfl tt _ fz _ hg1 Tryz.underlying165 rfl (by kernel_rfl) ?_)
 clear hg1
 go_loopw [7] (fun i wr=>∃ j:Nat,j ≤ 3 ∧ i = .int .i64 j ∧ RD wr R t l tw dp fr ∧ KeptX R w wr ∧ Sp.wordIn l 0 Sp.words = Sp.wordIn l j (Sp.words.drop j)) (fun i _=>3 - (intOf i).toNat)
 case atStart=>exact ⟨0,by omega,rfl,h,KeptX.refl R w,rfl⟩
 case round =>
  obtain ⟨j,hj3,rfl,hr,hk,he⟩:=hrel
  have HE:=hide he
  clear he h
  by_cases hlt:j < 3
  ·have hidx:=word_idx j hlt
   have hwl:=wordL_len j hlt
   obtain ⟨q,ha,hq⟩:=hr
   have c0:=hq.c0
   have c1:=hq.c1
   have f1:=hq.fz 1
   have b2:(q:Int) ≤ (t.size:Int):=by have:=ha.le; omega
   have b3:(q:Int) ≤ 2000:=by have:=ha.le; have:=ha.small; omega
   have cH:∀ W:World,Calls Tryz.prog 194 #[.string (t.extract q t.size),.string ⟨(wordL j).toArray⟩] W fun e w'=>e = .returned (.bool (Lib.hasPrefix l (wordL j))) ∧ w' = W:=fun W=>by
    have:=Tryz.strings_HasPrefix (t.extract q t.size) ⟨(wordL j).toArray⟩ W
    rw [Lib.extract_to_end,ha.eq] at this
    exact this
   have CH:=hide cH
   have HQ:=hide hq
   have HA:=hide ha
   have HS:=hide (word_step l j hlt)
   generalize hwj:wordL j = wj at *
   clear hwj
   clear hq ha cH
   by_cases hp:Lib.hasPrefix l wj = true
   ·have HP:=hide hp
    have hpl:wj.length ≤ l.length:=by
     have:=hp; unfold Lib.hasPrefix at this
     exact (List.isPrefixOf_iff_prefix.1 this).length_le
    have C1:Hid (∀ W:World,Calls Tryz.prog 194 #[.string (t.extract q t.size),.string ⟨wj.toArray⟩] W fun e w'=>e = .returned (.bool true) ∧ w' = W):=by
     have:=unhide CH
     rw [hp] at this
     exact this
    clear hp CH
    go_wp2_with (fail)
    go_quiet ((go_at_call 194; exact Calls.quiet_of_same (unhide C1 _)))
    go_wp2_with (fail)
    have hfin:RD ((((wr.drewN nq).setCell ⟨R,1,none⟩ (.int .i64 ((q:Int) + wj.length))).alloc (.cells #[.int .i64 j,.bool false,.string ⟨#[]⟩,.int .i64 0,.string ⟨#[]⟩,.slice none 0 0,.map none] 111))) R t (l.drop wj.length) tw dp fr :=
     ⟨q + wj.length,(unhide HA).add wj.length hpl,(((unhide HQ).drewN nq).set1 (q + wj.length)).alloc _⟩
    go_ret2
    refine ⟨((hk.drewN nq).setCell (p:=⟨R,1,none⟩) rfl _).alloc _,Or.inl ⟨j,l.drop wj.length,wr.heap.size,?_,rfl,hlt,heap_new _ _ _ (by simp [World.setCell]),hk.size,hfin⟩⟩
    rw [unhide HE,unhide HS,unhide HP]; rfl
   ·replace hp:Lib.hasPrefix l wj = false:=by simpa using hp
    have HP:=hide hp
    have C1:Hid (∀ W:World,Calls Tryz.prog 194 #[.string (t.extract q t.size),.string ⟨wj.toArray⟩] W fun e w'=>e = .returned (.bool false) ∧ w' = W):=by
     have:=unhide CH
     rw [hp] at this
     exact this
    clear hp CH
    go_wp2_with (fail)
    go_quiet ((go_at_call 194; exact Calls.quiet_of_same (unhide C1 _)))
    go_wp2_with (fail)
    go_roundw
    case rel=>exact ⟨j + 1,by omega,by go_num,⟨q,unhide HA,(unhide HQ).drewN _⟩,hk.drewN _,by rw [unhide HE,unhide HS,unhide HP]; rfl⟩
    case measure=>simp [intOf]; omega
  ·go_wp2_with (fail)
   go_ret2
   refine ⟨hk,Or.inr ⟨?_,rfl,hr⟩⟩
   rw [unhide HE,show j = 3 by omega]; rfl
end Go.Proofs.YtdpomdelmdofmaaGreatDoor

namespace Go.Proofs.YtdpomdelmdofmaaGreatDoor
open Go.RowKit
set_option maxHeartbeats 4000000 in
theorem num_pA {w:World} {R:Nat} {t:ByteArray} {l:Sp.By} {tw:Bool} {dp fr:Int} (h:RD w R t l tw dp fr) (k1:Sp.tk l 45 = false) (hd:Sp.dg l = []) :
  Calls Tryz.prog 184 #[.pointer (some ⟨R,0,none⟩)] w fun e w'=>KeptX R w w' ∧ numEnd (Sp.num l) e w' R t tw dp fr:=by
 have hE:Hid (Sp.num l = none):=by
  unfold Hid Sp.num Sp.numB
  simp [k1,hd]
 have K1:=hide k1
 have HD:=hide hd
 have hRw:=h.lt
 have h2000:l.length ≤ 2000:=by obtain ⟨p,ha,_⟩:=h; have:=ha.len; have:=ha.small; omega
 clear k1 hd
 go_enter Tryz.func184,Tryz.ntmps184
 go_wp2_with (fail)
 refine (takeN 45 _ rfl (h.alloc _) (unhide K1)).mono ?_
 rintro e w1 ⟨rfl,hr1,hk1⟩
 go_wp2_with (fail)
 refine (digits_any hr1).mono ?_
 rintro e w2 ⟨rfl,hr2,hk2⟩
 rw [unhide HD]
 have hs2:=((Slot.new w).kept hk1 (by omega)).kept hk2 (by omega)
 have hkk2:=(((KeptX.refl R w).alloc _).trans hk1).trans hk2
 have s0:=hs2.c0
 have s1:=hs2.c1
 have s2:=hs2.c2
 have z0:=hs2.fz 0
 have z1:=hs2.fz 1
 have z2:=hs2.fz 2
 go_wp2_with (fail)
 refine bodyPost_ret (v:=.tuple #[numV (false,[],0),.bool false]) (by simp [results,Tryz.results184,go_sem,numV,s0,s1,s2]) rfl ⟨?_,Or.inr ⟨unhide hE,rfl,Sp.dgR l,?_⟩⟩
 ·exact (((hkk2.setCell_new (by simp) _).setCell_new (by simp) _).setCell_new (by simp) _)
 ·exact (hr2.kept (((KeptX.refl w.heap.size w2).setCell (p:=⟨w.heap.size,0,none⟩) rfl _ |>.setCell (p:=⟨w.heap.size,1,none⟩) rfl _).setCell (p:=⟨w.heap.size,2,none⟩) rfl _) (by omega))
set_option maxHeartbeats 4000000 in
theorem num_pB {w:World} {R:Nat} {t:ByteArray} {l:Sp.By} {tw:Bool} {dp fr:Int} (h:RD w R t l tw dp fr) (k1:Sp.tk l 45 = false) (d:UInt8) (ds:Sp.By) (hd:Sp.dg l = d :: ds) (hz:d = 48) (hds:1 < ds.length + 1) :
  Calls Tryz.prog 184 #[.pointer (some ⟨R,0,none⟩)] w fun e w'=>KeptX R w w' ∧ numEnd (Sp.num l) e w' R t tw dp fr:=by
 have hE:Hid (Sp.num l = none):=by
  unfold Hid Sp.num Sp.numB
  have h1:Sp.tk l 48 = true:=by rw [dg_cons hd,hz]; rfl
  have h4:0 < ds.length:=by omega
  simp [k1,hd,h1,h4]
 have K1:=hide k1
 have HD:=hide hd
 have h0:=first48 d ds (first_pos d ds)
 have g48:((((⟨(d :: ds).toArray⟩:ByteArray)[0]'(first_pos d ds)).toNat:Int) == 48) = true:=by rw [h0,hz]; rfl
 have gl:decide ((1:Int) < (ds.length:Int) + 1) = true:=by simp; omega
 have hRw:=h.lt
 have h2000:l.length ≤ 2000:=by obtain ⟨p,ha,_⟩:=h; have:=ha.len; have:=ha.small; omega
 clear k1 hd hds h0 hz
 go_enter Tryz.func184,Tryz.ntmps184
 go_wp2_with (fail)
 refine (takeN 45 _ rfl (h.alloc _) (unhide K1)).mono ?_
 rintro e w1 ⟨rfl,hr1,hk1⟩
 go_wp2_with (fail)
 refine (digits_any hr1).mono ?_
 rintro e w2 ⟨rfl,hr2,hk2⟩
 rw [unhide HD]
 have hs2:=((Slot.new w).kept hk1 (by omega)).kept hk2 (by omega)
 have hkk2:=(((KeptX.refl R w).alloc _).trans hk1).trans hk2
 have s0:=hs2.c0
 have s1:=hs2.c1
 have s2:=hs2.c2
 have z0:=hs2.fz 0
 have z1:=hs2.fz 1
 have z2:=hs2.fz 2
 go_wp2_with (fail)
 refine bodyPost_ret (v:=.tuple #[numV (false,[],0),.bool false]) (by simp [results,Tryz.results184,go_sem,numV,s0,s1,s2]) rfl ⟨?_,Or.inr ⟨unhide hE,rfl,Sp.dgR l,?_⟩⟩
 ·exact (((hkk2.setCell_new (by simp) _).setCell_new (by simp) _).setCell_new (by simp) _)
 ·exact (hr2.kept (((KeptX.refl w.heap.size w2).setCell (p:=⟨w.heap.size,0,none⟩) rfl _ |>.setCell (p:=⟨w.heap.size,1,none⟩) rfl _).setCell (p:=⟨w.heap.size,2,none⟩) rfl _) (by omega))
set_option maxHeartbeats 4000000 in
theorem num_pC1 {w:World} {R:Nat} {t:ByteArray} {l:Sp.By} {tw:Bool} {dp fr:Int} (h:RD w R t l tw dp fr) (k1:Sp.tk l 45 = false) (d:UInt8) (ds:Sp.By) (hd:Sp.dg l = d :: ds) (hz:¬ d = 48) (hf:Sp.frac (Sp.dgR l) = none) :
  Calls Tryz.prog 184 #[.pointer (some ⟨R,0,none⟩)] w fun e w'=>KeptX R w w' ∧ numEnd (Sp.num l) e w' R t tw dp fr:=by
 have hE:Hid (Sp.num l = none):=by
  unfold Hid Sp.num Sp.numB
  have h1:Sp.tk l 48 = false:=by rw [dg_cons hd]; simpa using hz
  simp [k1,hd,hf,h1]
 have K1:=hide k1
 have HD:=hide hd
 have h0:=first48 d ds (first_pos d ds)
 have g48:((((⟨(d :: ds).toArray⟩:ByteArray)[0]'(first_pos d ds)).toNat:Int) == 48) = false:=by
  rw [h0]; simp; intro h; exact hz (UInt8.toNat_inj.1 (by simpa using (show d.toNat = 48 by omega)))
 have HF:=hide hf
 have hRw:=h.lt
 have h2000:l.length ≤ 2000:=by obtain ⟨p,ha,_⟩:=h; have:=ha.len; have:=ha.small; omega
 clear k1 hd h0 hz hf
 go_enter Tryz.func184,Tryz.ntmps184
 go_wp2_with (fail)
 refine (takeN 45 _ rfl (h.alloc _) (unhide K1)).mono ?_
 rintro e w1 ⟨rfl,hr1,hk1⟩
 go_wp2_with (fail)
 refine (digits_any hr1).mono ?_
 rintro e w2 ⟨rfl,hr2,hk2⟩
 rw [unhide HD]
 have hs2:=((Slot.new w).kept hk1 (by omega)).kept hk2 (by omega)
 have hkk2:=(((KeptX.refl R w).alloc _).trans hk1).trans hk2
 go_wp2_with (fail)
 refine (fraction_any hr2).mono ?_
 rintro e w3 ⟨hk3,hc⟩
 have hs3:=hs2.kept hk3 (by omega)
 have hkk3:=hkk2.trans hk3
 rcases hc with ⟨s,l',e1,rfl,hr3⟩ | ⟨e1,s,l',rfl,hr3⟩
 ·rw [unhide HF] at e1; cases e1
 clear e1
 have s0:=hs3.c0
 have s1:=hs3.c1
 have s2:=hs3.c2
 have z0:=hs3.fz 0
 have z1:=hs3.fz 1
 have z2:=hs3.fz 2
 go_wp2_with (fail)
 refine bodyPost_ret (v:=.tuple #[numV (false,[],0),.bool false]) (by simp [results,Tryz.results184,go_sem,numV,s0,s1,s2]) rfl ⟨?_,Or.inr ⟨unhide hE,rfl,l',?_⟩⟩
 ·exact (((hkk3.setCell_new (by simp) _).setCell_new (by simp) _).setCell_new (by simp) _)
 ·exact (hr3.kept (((KeptX.refl w.heap.size w3).setCell (p:=⟨w.heap.size,0,none⟩) rfl _ |>.setCell (p:=⟨w.heap.size,1,none⟩) rfl _).setCell (p:=⟨w.heap.size,2,none⟩) rfl _) (by omega))
set_option maxHeartbeats 4000000 in
theorem num_pC2 {w:World} {R:Nat} {t:ByteArray} {l:Sp.By} {tw:Bool} {dp fr:Int} (h:RD w R t l tw dp fr) (k1:Sp.tk l 45 = false) (d:UInt8) (ds:Sp.By) (hd:Sp.dg l = d :: ds) (hz:d = 48) (hds:ds = []) (hf:Sp.frac (Sp.dgR l) = none) :
  Calls Tryz.prog 184 #[.pointer (some ⟨R,0,none⟩)] w fun e w'=>KeptX R w w' ∧ numEnd (Sp.num l) e w' R t tw dp fr:=by
 have hE:Hid (Sp.num l = none):=by
  unfold Hid Sp.num Sp.numB
  subst hds
  simp [k1,hd,hf]
 have K1:=hide k1
 have HD:=hide hd
 have h0:=first48 d ds (first_pos d ds)
 have g48:((((⟨(d :: ds).toArray⟩:ByteArray)[0]'(first_pos d ds)).toNat:Int) == 48) = true:=by rw [h0,hz]; rfl
 have gl:decide ((1:Int) < (ds.length:Int) + 1) = false:=by subst hds; rfl
 have HF:=hide hf
 have hRw:=h.lt
 have h2000:l.length ≤ 2000:=by obtain ⟨p,ha,_⟩:=h; have:=ha.len; have:=ha.small; omega
 clear k1 hd hds h0 hz hf
 go_enter Tryz.func184,Tryz.ntmps184
 go_wp2_with (fail)
 refine (takeN 45 _ rfl (h.alloc _) (unhide K1)).mono ?_
 rintro e w1 ⟨rfl,hr1,hk1⟩
 go_wp2_with (fail)
 refine (digits_any hr1).mono ?_
 rintro e w2 ⟨rfl,hr2,hk2⟩
 rw [unhide HD]
 have hs2:=((Slot.new w).kept hk1 (by omega)).kept hk2 (by omega)
 have hkk2:=(((KeptX.refl R w).alloc _).trans hk1).trans hk2
 go_wp2_with (fail)
 refine (fraction_any hr2).mono ?_
 rintro e w3 ⟨hk3,hc⟩
 have hs3:=hs2.kept hk3 (by omega)
 have hkk3:=hkk2.trans hk3
 rcases hc with ⟨s,l',e1,rfl,hr3⟩ | ⟨e1,s,l',rfl,hr3⟩
 ·rw [unhide HF] at e1; cases e1
 clear e1
 have s0:=hs3.c0
 have s1:=hs3.c1
 have s2:=hs3.c2
 have z0:=hs3.fz 0
 have z1:=hs3.fz 1
 have z2:=hs3.fz 2
 go_wp2_with (fail)
 refine bodyPost_ret (v:=.tuple #[numV (false,[],0),.bool false]) (by simp [results,Tryz.results184,go_sem,numV,s0,s1,s2]) rfl ⟨?_,Or.inr ⟨unhide hE,rfl,l',?_⟩⟩
 ·exact (((hkk3.setCell_new (by simp) _).setCell_new (by simp) _).setCell_new (by simp) _)
 ·exact (hr3.kept (((KeptX.refl w.heap.size w3).setCell (p:=⟨w.heap.size,0,none⟩) rfl _ |>.setCell (p:=⟨w.heap.size,1,none⟩) rfl _).setCell (p:=⟨w.heap.size,2,none⟩) rfl _) (by omega))
set_option maxHeartbeats 4000000 in
theorem num_pD1 {w:World} {R:Nat} {t:ByteArray} {l:Sp.By} {tw:Bool} {dp fr:Int} (h:RD w R t l tw dp fr) (k1:Sp.tk l 45 = false) (d:UInt8) (ds:Sp.By) (hd:Sp.dg l = d :: ds) (hz:¬ d = 48) (f l2:Sp.By) (hf:Sp.frac (Sp.dgR l) = some (f,l2)) (he:Sp.expo l2 = none) :
  Calls Tryz.prog 184 #[.pointer (some ⟨R,0,none⟩)] w fun e w'=>KeptX R w w' ∧ numEnd (Sp.num l) e w' R t tw dp fr:=by
 have hE:Hid (Sp.num l = none):=by
  unfold Hid Sp.num Sp.numB
  have h1:Sp.tk l 48 = false:=by rw [dg_cons hd]; simpa using hz
  simp [k1,hd,hf,he,h1]
 have K1:=hide k1
 have HD:=hide hd
 have h0:=first48 d ds (first_pos d ds)
 have g48:((((⟨(d :: ds).toArray⟩:ByteArray)[0]'(first_pos d ds)).toNat:Int) == 48) = false:=by
  rw [h0]; simp; intro h; exact hz (UInt8.toNat_inj.1 (by simpa using (show d.toNat = 48 by omega)))
 have HF:=hide hf
 have HX:=hide he
 have hRw:=h.lt
 have h2000:l.length ≤ 2000:=by obtain ⟨p,ha,_⟩:=h; have:=ha.len; have:=ha.small; omega
 clear k1 hd h0 hz hf he
 go_enter Tryz.func184,Tryz.ntmps184
 go_wp2_with (fail)
 refine (takeN 45 _ rfl (h.alloc _) (unhide K1)).mono ?_
 rintro e w1 ⟨rfl,hr1,hk1⟩
 go_wp2_with (fail)
 refine (digits_any hr1).mono ?_
 rintro e w2 ⟨rfl,hr2,hk2⟩
 rw [unhide HD]
 have hs2:=((Slot.new w).kept hk1 (by omega)).kept hk2 (by omega)
 have hkk2:=(((KeptX.refl R w).alloc _).trans hk1).trans hk2
 go_wp2_with (fail)
 refine (fraction_any hr2).mono ?_
 rintro e w3 ⟨hk3,hc⟩
 have hs3:=hs2.kept hk3 (by omega)
 have hkk3:=hkk2.trans hk3
 rcases hc with ⟨s,l',e1,rfl,hr3⟩ | ⟨e1,_⟩
 rotate_left
 ·rw [unhide HF] at e1; cases e1
 rw [unhide HF] at e1
 injection e1 with e1
 injection e1 with e1 e2
 subst e1 e2
 go_wp2_with (fail)
 refine (exponent_any hr3).mono ?_
 rintro e w4 ⟨hk4,hc⟩
 have hs4:=hs3.kept hk4 (by omega)
 have hkk4:=hkk3.trans hk4
 rcases hc with ⟨x',l',e1,rfl,hr4⟩ | ⟨e1,x',l',rfl,hr4⟩
 ·rw [unhide HX] at e1; cases e1
 clear e1
 have s0:=hs4.c0
 have s1:=hs4.c1
 have s2:=hs4.c2
 have z0:=hs4.fz 0
 have z1:=hs4.fz 1
 have z2:=hs4.fz 2
 go_wp2_with (fail)
 refine bodyPost_ret (v:=.tuple #[numV (false,[],0),.bool false]) (by simp [results,Tryz.results184,go_sem,numV,s0,s1,s2]) rfl ⟨?_,Or.inr ⟨unhide hE,rfl,l',?_⟩⟩
 ·exact (((hkk4.setCell_new (by simp) _).setCell_new (by simp) _).setCell_new (by simp) _)
 ·exact (hr4.kept (((KeptX.refl w.heap.size w4).setCell (p:=⟨w.heap.size,0,none⟩) rfl _ |>.setCell (p:=⟨w.heap.size,1,none⟩) rfl _).setCell (p:=⟨w.heap.size,2,none⟩) rfl _) (by omega))
set_option maxHeartbeats 4000000 in
theorem num_pD2 {w:World} {R:Nat} {t:ByteArray} {l:Sp.By} {tw:Bool} {dp fr:Int} (h:RD w R t l tw dp fr) (k1:Sp.tk l 45 = false) (d:UInt8) (ds:Sp.By) (hd:Sp.dg l = d :: ds) (hz:d = 48) (hds:ds = []) (f l2:Sp.By) (hf:Sp.frac (Sp.dgR l) = some (f,l2)) (he:Sp.expo l2 = none) :
  Calls Tryz.prog 184 #[.pointer (some ⟨R,0,none⟩)] w fun e w'=>KeptX R w w' ∧ numEnd (Sp.num l) e w' R t tw dp fr:=by
 have hE:Hid (Sp.num l = none):=by
  unfold Hid Sp.num Sp.numB
  subst hds
  simp [k1,hd,hf,he]
 have K1:=hide k1
 have HD:=hide hd
 have h0:=first48 d ds (first_pos d ds)
 have g48:((((⟨(d :: ds).toArray⟩:ByteArray)[0]'(first_pos d ds)).toNat:Int) == 48) = true:=by rw [h0,hz]; rfl
 have gl:decide ((1:Int) < (ds.length:Int) + 1) = false:=by subst hds; rfl
 have HF:=hide hf
 have HX:=hide he
 have hRw:=h.lt
 have h2000:l.length ≤ 2000:=by obtain ⟨p,ha,_⟩:=h; have:=ha.len; have:=ha.small; omega
 clear k1 hd hds h0 hz hf he
 go_enter Tryz.func184,Tryz.ntmps184
 go_wp2_with (fail)
 refine (takeN 45 _ rfl (h.alloc _) (unhide K1)).mono ?_
 rintro e w1 ⟨rfl,hr1,hk1⟩
 go_wp2_with (fail)
 refine (digits_any hr1).mono ?_
 rintro e w2 ⟨rfl,hr2,hk2⟩
 rw [unhide HD]
 have hs2:=((Slot.new w).kept hk1 (by omega)).kept hk2 (by omega)
 have hkk2:=(((KeptX.refl R w).alloc _).trans hk1).trans hk2
 go_wp2_with (fail)
 refine (fraction_any hr2).mono ?_
 rintro e w3 ⟨hk3,hc⟩
 have hs3:=hs2.kept hk3 (by omega)
 have hkk3:=hkk2.trans hk3
 rcases hc with ⟨s,l',e1,rfl,hr3⟩ | ⟨e1,_⟩
 rotate_left
 ·rw [unhide HF] at e1; cases e1
 rw [unhide HF] at e1
 injection e1 with e1
 injection e1 with e1 e2
 subst e1 e2
 go_wp2_with (fail)
 refine (exponent_any hr3).mono ?_
 rintro e w4 ⟨hk4,hc⟩
 have hs4:=hs3.kept hk4 (by omega)
 have hkk4:=hkk3.trans hk4
 rcases hc with ⟨x',l',e1,rfl,hr4⟩ | ⟨e1,x',l',rfl,hr4⟩
 ·rw [unhide HX] at e1; cases e1
 clear e1
 have s0:=hs4.c0
 have s1:=hs4.c1
 have s2:=hs4.c2
 have z0:=hs4.fz 0
 have z1:=hs4.fz 1
 have z2:=hs4.fz 2
 go_wp2_with (fail)
 refine bodyPost_ret (v:=.tuple #[numV (false,[],0),.bool false]) (by simp [results,Tryz.results184,go_sem,numV,s0,s1,s2]) rfl ⟨?_,Or.inr ⟨unhide hE,rfl,l',?_⟩⟩
 ·exact (((hkk4.setCell_new (by simp) _).setCell_new (by simp) _).setCell_new (by simp) _)
 ·exact (hr4.kept (((KeptX.refl w.heap.size w4).setCell (p:=⟨w.heap.size,0,none⟩) rfl _ |>.setCell (p:=⟨w.heap.size,1,none⟩) rfl _).setCell (p:=⟨w.heap.size,2,none⟩) rfl _) (by omega))
end Go.Proofs.YtdpomdelmdofmaaGreatDoor
