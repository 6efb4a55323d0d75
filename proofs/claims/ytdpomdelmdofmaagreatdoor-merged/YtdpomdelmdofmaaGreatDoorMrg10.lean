/-
  The reader's number: every text.
-/
import Derived.Test.YtdpomdelmdofmaaGreatDoorMrg09
import Derived.Test.YtdpomdelmdofmaaGreatDoorMrg08
import Derived.Sort.KeysCollected
import Derived.Test.YtdpomdelmdofmaaGreatDoorMrg03
import Derived.Lib.ConvBytes
import Derived.Lib.AppendIntMem
namespace Go.Proofs.YtdpomdelmdofmaaGreatDoor
open Go.RowKit
theorem number_any {w:World} {R:Nat} {t:ByteArray} {l:Sp.By} {tw:Bool} {dp fr:Int} (h:RD w R t l tw dp fr) :
  Calls Tryz.prog 184 #[.pointer (some ⟨R,0,none⟩)] w fun e w'=>KeptX R w w'∧numEnd (Sp.num l) e w' R t tw dp fr:=by
 by_cases k1:Sp.tk l 45=true
 ·cases hd:Sp.dg l.tail with
  | nil=>exact num_nA h k1 hd
  | cons d ds =>
   by_cases hz:d=48
   ·by_cases hl:1<ds.length+1
    ·exact num_nB h k1 d ds hd hz hl
    ·have hds:ds=[]:=List.eq_nil_of_length_eq_zero (by omega)
     cases hf:Sp.frac (Sp.dgR l.tail) with
     | none=>exact num_nC2 h k1 d ds hd hz hds hf
     | some y =>
      obtain⟨f,l2⟩:=y
      cases he:Sp.expo l2 with
      | none=>exact num_nD2 h k1 d ds hd hz hds f l2 hf he
      | some y =>
       obtain⟨x,l3⟩:=y
       exact num_nE2 h k1 d ds hd hz hds f l2 hf x l3 he
   ·cases hf:Sp.frac (Sp.dgR l.tail) with
    | none=>exact num_nC1 h k1 d ds hd hz hf
    | some y =>
     obtain⟨f,l2⟩:=y
     cases he:Sp.expo l2 with
     | none=>exact num_nD1 h k1 d ds hd hz f l2 hf he
     | some y =>
      obtain⟨x,l3⟩:=y
      exact num_nE1 h k1 d ds hd hz f l2 hf x l3 he
 ·cases hd:Sp.dg l with
  | nil=>exact num_pA h (tk_false k1) hd
  | cons d ds =>
   by_cases hz:d=48
   ·by_cases hl:1<ds.length+1
    ·exact num_pB h (tk_false k1) d ds hd hz hl
    ·have hds:ds=[]:=List.eq_nil_of_length_eq_zero (by omega)
     cases hf:Sp.frac (Sp.dgR l) with
     | none=>exact num_pC2 h (tk_false k1) d ds hd hz hds hf
     | some y =>
      obtain⟨f,l2⟩:=y
      cases he:Sp.expo l2 with
      | none=>exact num_pD2 h (tk_false k1) d ds hd hz hds f l2 hf he
      | some y =>
       obtain⟨x,l3⟩:=y
       exact num_pE2 h (tk_false k1) d ds hd hz hds f l2 hf x l3 he
   ·cases hf:Sp.frac (Sp.dgR l) with
    | none=>exact num_pC1 h (tk_false k1) d ds hd hz hf
    | some y =>
     obtain⟨f,l2⟩:=y
     cases he:Sp.expo l2 with
     | none=>exact num_pD1 h (tk_false k1) d ds hd hz f l2 hf he
     | some y =>
      obtain⟨x,l3⟩:=y
      exact num_pE1 h (tk_false k1) d ds hd hz f l2 hf x l3 he
end Go.Proofs.YtdpomdelmdofmaaGreatDoor

set_option maxHeartbeats 4000000
namespace Go.Proofs.YtdpomdelmdofmaaGreatDoor
open Go.RowKit
theorem num_bd {l:Sp.By} {n:Sp.Nm} {r:Sp.By} (h:Sp.num l=some (n,r)) (hl:l.length≤2000):-10000000≤n.2.2∧n.2.2≤10000000:=by
 have hb:∀ (b:Bool) (l:Sp.By),l.length≤2000→Sp.numB b l=some (n,r) → -10000000≤n.2.2∧n.2.2≤10000000:=by
  intro b l hl h
  unfold Sp.numB at h
  have a:=dg_len l
  split at h
  ·cases h
  ·split at h
   ·cases h
   ·rename_i f r1 h1
    have a2:=frac_len h1
    split at h
    ·cases h
    ·rename_i e r2 h2
     have a3:=expo_bd h2
     have a4:=mkNm_bd b (Sp.dg l++f) (e-f.length)
     simp only[List.length_append] at a4
     injection h with h;injection h with h3 h4;subst h3;omega
 unfold Sp.num at h
 split at h
 ·exact hb _ _ (by have:=List.length_tail (l:=l);omega) h
 ·exact hb _ _ hl h
theorem val_obj {f R:Nat} {t:ByteArray} {lv:Int} {l:Sp.By} {tw:Bool} {dp fr:Int} {w:World} (hV:ValOk f) (h:RD w R t l tw dp fr) (hT:Laid w) (hR:NG≤R) (hl:l.length≤f) (hlv:0≤lv) (hb:lv+f≤4999) (hp:Sp.pk l=123) :
  Calls Tryz.prog 137 #[.pointer (some ⟨R,0,none⟩),.int .i64 lv] w fun e w'=>KeptX R w w'∧valEnd (f+1) lv l (tw,dp,fr) e w w' R t:=by
 obtain⟨q,ha,hq⟩:=h
 have h2000:l.length≤2000:=by have:=ha.len;have:=ha.small;omega
 have c3:=hq.c3
 have z3:=hq.fz 3
 have hr0:RD (w.setCell ⟨R,3,none⟩ (.int .i64 (max dp lv))) R t l tw (max dp lv) fr:=⟨q,ha,hq.set3 (max dp lv)⟩
 have hk0:KeptX R w (w.setCell ⟨R,3,none⟩ (.int .i64 (max dp lv))):=(KeptX.refl R w).setCell rfl _
 have hT0:=hT.kept hk0 hR
 have hs0:(w.setCell ⟨R,3,none⟩ (.int .i64 (max dp lv))).heap.size=w.heap.size:=by simp[World.setCell]
 have e123:((Sp.pk l:Int) == 123)=true:=by simp;omega
 have HV:Hid (Sp.val (f+1) lv l (tw,dp,fr)=(match Sp.lstAll 123 125 (Sp.memb (Sp.val f (lv+1))) l (Sp.vObj [],(tw,(max dp lv,fr))) with
   | none=>none
   | some (r,(v,fl'))=>some (v,r,fl'))):=by
  unfold Hid
  rw[Sp.val,if_pos hp]
  rfl
 clear hq ha hT
 go_enter Tryz.func137,Tryz.ntmps137
 go_wp2_with (fail)
 refine (peekK hr0).mono ?_
 rintro e w1 ⟨rfl,hr1,hk1⟩
 have hk01:=hk0.trans hk1
 have hT1:=hT0.kept hk1 hR
 have hs1:=hk01.size
 go_wp2_with (fail)
 refine (object_any hV hr1 hT1 hR hl hlv hb).mono ?_
 rintro e w2 ⟨hk2,hc⟩
 rcases hc with⟨v,r,fl',p,hs,rfl,hr2,hrep⟩|⟨hs,p,rfl,hr2⟩
 ·have HS:=hide hs
  clear hs
  go_wp2_with (fail)
  go_ret2
  refine⟨hk01.trans hk2,Or.inl ⟨v,r,fl',p,?_,rfl,hr2,hrep.move (by omega) fun k h1 _=>rfl⟩⟩
  rw[unhide HV,unhide HS]
 ·have HS:=hide hs
  clear hs
  go_wp2_with (fail)
  go_ret2
  refine⟨hk01.trans hk2,Or.inr ⟨?_,p,rfl,hr2⟩⟩
  rw[unhide HV,unhide HS]
theorem val_arr {f R:Nat} {t:ByteArray} {lv:Int} {l:Sp.By} {tw:Bool} {dp fr:Int} {w:World} (hV:ValOk f) (h:RD w R t l tw dp fr) (hT:Laid w) (hR:NG≤R) (hl:l.length≤f) (hlv:0≤lv) (hb:lv+f≤4999) (hp:Sp.pk l=91) :
  Calls Tryz.prog 137 #[.pointer (some ⟨R,0,none⟩),.int .i64 lv] w fun e w'=>KeptX R w w'∧valEnd (f+1) lv l (tw,dp,fr) e w w' R t:=by
 obtain⟨q,ha,hq⟩:=h
 have h2000:l.length≤2000:=by have:=ha.len;have:=ha.small;omega
 have c3:=hq.c3
 have z3:=hq.fz 3
 have hr0:RD (w.setCell ⟨R,3,none⟩ (.int .i64 (max dp lv))) R t l tw (max dp lv) fr:=⟨q,ha,hq.set3 (max dp lv)⟩
 have hk0:KeptX R w (w.setCell ⟨R,3,none⟩ (.int .i64 (max dp lv))):=(KeptX.refl R w).setCell rfl _
 have hT0:=hT.kept hk0 hR
 have hs0:(w.setCell ⟨R,3,none⟩ (.int .i64 (max dp lv))).heap.size=w.heap.size:=by simp[World.setCell]
 have e123:((Sp.pk l:Int) == 123)=false:=by simp;omega
 have e91:((Sp.pk l:Int) == 91)=true:=by simp;omega
 have HV:Hid (Sp.val (f+1) lv l (tw,dp,fr)=(match Sp.lstAll 91 93 (Sp.elem (Sp.val f (lv+1))) l ([],(tw,(max dp lv,fr))) with
   | none=>none
   | some (r,(es,fl'))=>some (Sp.vArr es,r,fl'))):=by
  unfold Hid
  rw[Sp.val,if_neg (by omega),if_pos hp]
  rfl
 clear hq ha hT
 go_enter Tryz.func137,Tryz.ntmps137
 go_wp2_with (fail)
 refine (peekK hr0).mono ?_
 rintro e w1 ⟨rfl,hr1,hk1⟩
 have hk01:=hk0.trans hk1
 have hT1:=hT0.kept hk1 hR
 have hs1:=hk01.size
 go_wp2_with (fail)
 refine (array_any hV hr1 hT1 hR hl hlv hb).mono ?_
 rintro e w2 ⟨hk2,hc⟩
 rcases hc with⟨es,r,fl',p,hs,rfl,hr2,hrep⟩|⟨hs,p,rfl,hr2⟩
 ·have HS:=hide hs
  clear hs
  go_wp2_with (fail)
  go_ret2
  refine⟨hk01.trans hk2,Or.inl ⟨Sp.vArr es,r,fl',p,?_,rfl,hr2,hrep.move (by omega) fun k h1 _=>rfl⟩⟩
  rw[unhide HV,unhide HS]
 ·have HS:=hide hs
  clear hs
  go_wp2_with (fail)
  go_ret2
  refine⟨hk01.trans hk2,Or.inr ⟨?_,p,rfl,hr2⟩⟩
  rw[unhide HV,unhide HS]
theorem val_str {f R:Nat} {t:ByteArray} {lv:Int} {l:Sp.By} {tw:Bool} {dp fr:Int} {w:World} (h:RD w R t l tw dp fr) (hT:Laid w) (hR:NG≤R) (hp:Sp.pk l=34) :
  Calls Tryz.prog 137 #[.pointer (some ⟨R,0,none⟩),.int .i64 lv] w fun e w'=>KeptX R w w'∧valEnd (f+1) lv l (tw,dp,fr) e w w' R t:=by
 obtain⟨q,ha,hq⟩:=h
 have h2000:l.length≤2000:=by have:=ha.len;have:=ha.small;omega
 have c3:=hq.c3
 have z3:=hq.fz 3
 have hr0:RD (w.setCell ⟨R,3,none⟩ (.int .i64 (max dp lv))) R t l tw (max dp lv) fr:=⟨q,ha,hq.set3 (max dp lv)⟩
 have hk0:KeptX R w (w.setCell ⟨R,3,none⟩ (.int .i64 (max dp lv))):=(KeptX.refl R w).setCell rfl _
 have hT0:=hT.kept hk0 hR
 have hs0:(w.setCell ⟨R,3,none⟩ (.int .i64 (max dp lv))).heap.size=w.heap.size:=by simp[World.setCell]
 have e123:((Sp.pk l:Int) == 123)=false:=by simp;omega
 have e91:((Sp.pk l:Int) == 91)=false:=by simp;omega
 have e34:((Sp.pk l:Int) == 34)=true:=by simp;omega
 have HV:Hid (Sp.val (f+1) lv l (tw,dp,fr)=(match Sp.quo l with
   | none=>none
   | some (s,r)=>some (Sp.vStr s,r,(tw,(max dp lv,fr))))):=by
  unfold Hid
  rw[Sp.val,if_neg (by omega),if_neg (by omega),if_pos hp]
  rfl
 clear hq ha hT
 go_enter Tryz.func137,Tryz.ntmps137
 go_wp2_with (fail)
 refine (peekK hr0).mono ?_
 rintro e w1 ⟨rfl,hr1,hk1⟩
 have hk01:=hk0.trans hk1
 have hT1:=hT0.kept hk1 hR
 have hs1:=hk01.size
 go_wp2_with (fail)
 refine (quoted_any hr1 hT1 hR).mono ?_
 rintro e w2 ⟨hk2,hc⟩
 have hk02:=hk01.trans hk2
 have hs2:=hk2.size
 rcases hc with⟨s,r,hs,rfl,hr2⟩|⟨hs,s,r,rfl,hr2⟩
 ·have HS:=hide hs
  clear hs
  go_wp2_with (fail)
  go_ret2
  refine⟨hk02.alloc _,Or.inl ⟨Sp.vStr s,r,(tw,(max dp lv,fr)),some ⟨w2.heap.size,0,none⟩,?_,rfl,hr2.alloc _,Tr.leafS (by omega) (heap_new _ _ _ rfl)⟩⟩
  rw[unhide HV,unhide HS]
 ·have HS:=hide hs
  clear hs
  go_wp2_with (fail)
  go_ret2
  refine⟨hk02.alloc _,Or.inr ⟨?_,_,rfl,_,_,_,_,hr2.alloc _⟩⟩
  rw[unhide HV,unhide HS]
theorem val_nm1 {f R:Nat} {t:ByteArray} {lv:Int} {l:Sp.By} {tw:Bool} {dp fr:Int} {w:World} (h:RD w R t l tw dp fr) (hT:Laid w) (hR:NG≤R) (hp:Sp.pk l=45) :
  Calls Tryz.prog 137 #[.pointer (some ⟨R,0,none⟩),.int .i64 lv] w fun e w'=>KeptX R w w'∧valEnd (f+1) lv l (tw,dp,fr) e w w' R t:=by
 obtain⟨q,ha,hq⟩:=h
 have h2000:l.length≤2000:=by have:=ha.len;have:=ha.small;omega
 have c3:=hq.c3
 have z3:=hq.fz 3
 have hr0:RD (w.setCell ⟨R,3,none⟩ (.int .i64 (max dp lv))) R t l tw (max dp lv) fr:=⟨q,ha,hq.set3 (max dp lv)⟩
 have hk0:KeptX R w (w.setCell ⟨R,3,none⟩ (.int .i64 (max dp lv))):=(KeptX.refl R w).setCell rfl _
 have hT0:=hT.kept hk0 hR
 have hs0:(w.setCell ⟨R,3,none⟩ (.int .i64 (max dp lv))).heap.size=w.heap.size:=by simp[World.setCell]
 have e123:((Sp.pk l:Int) == 123)=false:=by simp;omega
 have e91:((Sp.pk l:Int) == 91)=false:=by simp;omega
 have e34:((Sp.pk l:Int) == 34)=false:=by simp;omega
 have e45:((Sp.pk l:Int) == 45)=true:=by simp;omega
 have HV:Hid (Sp.val (f+1) lv l (tw,dp,fr)=(match Sp.num l with
   | none=>none
   | some (n,r)=>some (Sp.vNum n,r,(tw,(max dp lv,max (max fr n.2.2) (-n.2.2)))))):=by
  unfold Hid
  rw[Sp.val,if_neg (by omega),if_neg (by omega),if_neg (by omega),if_pos (by omega)]
  rfl
 clear hq ha hT
 go_enter Tryz.func137,Tryz.ntmps137
 go_wp2_with (fail)
 refine (peekK hr0).mono ?_
 rintro e w1 ⟨rfl,hr1,hk1⟩
 have hk01:=hk0.trans hk1
 have hT1:=hT0.kept hk1 hR
 have hs1:=hk01.size
 go_wp2_with (fail)
 refine (number_any hr1).mono ?_
 rintro e w2 ⟨hk2,hc⟩
 have hk02:=hk01.trans hk2
 have hs2:=hk2.size
 rcases hc with⟨n,r,hs,rfl,hr2⟩|⟨hs,rfl,r,hr2⟩
 ·have HS:=hide hs
  obtain⟨nb,nd,ne⟩:=n
  clear hs
  unfold numV
  go_wp2_with (fail)
  go_ret2
  refine⟨(hk02.alloc _).alloc _,Or.inl ⟨Sp.vNum (nb,nd,ne),r,(tw,(max dp lv,max (max fr ne) (-ne))),some ⟨w2.heap.size+1,0,none⟩,?_,rfl,(hr2.alloc _).alloc _,Tr.leafN (by omega) (heap_new _ _ _ (by simp)) ⟨by have:=num_bd (unhide HS) h2000;simp only at this ⊢; omega,by have:=num_bd (unhide HS) h2000;simp only at this ⊢; omega⟩⟩⟩
  rw[unhide HV,unhide HS]
 ·have HS:=hide hs
  clear hs
  unfold numV
  go_wp2_with (fail)
  go_ret2
  refine⟨(hk02.alloc _).alloc _,Or.inr ⟨?_,_,rfl,_,_,_,_,(hr2.alloc _).alloc _⟩⟩
  rw[unhide HV,unhide HS]
theorem val_nm2 {f R:Nat} {t:ByteArray} {lv:Int} {l:Sp.By} {tw:Bool} {dp fr:Int} {w:World} (h:RD w R t l tw dp fr) (hT:Laid w) (hR:NG≤R) (hp:48≤Sp.pk l∧Sp.pk l≤57) :
  Calls Tryz.prog 137 #[.pointer (some ⟨R,0,none⟩),.int .i64 lv] w fun e w'=>KeptX R w w'∧valEnd (f+1) lv l (tw,dp,fr) e w w' R t:=by
 obtain⟨q,ha,hq⟩:=h
 have h2000:l.length≤2000:=by have:=ha.len;have:=ha.small;omega
 have c3:=hq.c3
 have z3:=hq.fz 3
 have hr0:RD (w.setCell ⟨R,3,none⟩ (.int .i64 (max dp lv))) R t l tw (max dp lv) fr:=⟨q,ha,hq.set3 (max dp lv)⟩
 have hk0:KeptX R w (w.setCell ⟨R,3,none⟩ (.int .i64 (max dp lv))):=(KeptX.refl R w).setCell rfl _
 have hT0:=hT.kept hk0 hR
 have hs0:(w.setCell ⟨R,3,none⟩ (.int .i64 (max dp lv))).heap.size=w.heap.size:=by simp[World.setCell]
 have e123:((Sp.pk l:Int) == 123)=false:=by simp;omega
 have e91:((Sp.pk l:Int) == 91)=false:=by simp;omega
 have e34:((Sp.pk l:Int) == 34)=false:=by simp;omega
 have e45:((Sp.pk l:Int) == 45)=false:=by simp;omega
 have HV:Hid (Sp.val (f+1) lv l (tw,dp,fr)=(match Sp.num l with
   | none=>none
   | some (n,r)=>some (Sp.vNum n,r,(tw,(max dp lv,max (max fr n.2.2) (-n.2.2)))))):=by
  unfold Hid
  rw[Sp.val,if_neg (by omega),if_neg (by omega),if_neg (by omega),if_pos (by omega)]
  rfl
 clear hq ha hT
 go_enter Tryz.func137,Tryz.ntmps137
 go_wp2_with (fail)
 refine (peekK hr0).mono ?_
 rintro e w1 ⟨rfl,hr1,hk1⟩
 have hk01:=hk0.trans hk1
 have hT1:=hT0.kept hk1 hR
 have hs1:=hk01.size
 have HD:=hide (show isDn (Sp.pk l)=true by unfold isDn;simp;omega)
 go_wp2_with (fail)
 refine (isDigit_any _ _ (pk_lt l)).mono ?_
 rintro e w9 ⟨rfl,rfl⟩
 rw[unhide HD]
 go_wp2_with (fail)
 refine (number_any hr1).mono ?_
 rintro e w2 ⟨hk2,hc⟩
 have hk02:=hk01.trans hk2
 have hs2:=hk2.size
 rcases hc with⟨n,r,hs,rfl,hr2⟩|⟨hs,rfl,r,hr2⟩
 ·have HS:=hide hs
  obtain⟨nb,nd,ne⟩:=n
  clear hs
  unfold numV
  go_wp2_with (fail)
  go_ret2
  refine⟨(hk02.alloc _).alloc _,Or.inl ⟨Sp.vNum (nb,nd,ne),r,(tw,(max dp lv,max (max fr ne) (-ne))),some ⟨w2.heap.size+1,0,none⟩,?_,rfl,(hr2.alloc _).alloc _,Tr.leafN (by omega) (heap_new _ _ _ (by simp)) ⟨by have:=num_bd (unhide HS) h2000;simp only at this ⊢; omega,by have:=num_bd (unhide HS) h2000;simp only at this ⊢; omega⟩⟩⟩
  rw[unhide HV,unhide HS]
 ·have HS:=hide hs
  clear hs
  unfold numV
  go_wp2_with (fail)
  go_ret2
  refine⟨(hk02.alloc _).alloc _,Or.inr ⟨?_,_,rfl,_,_,_,_,(hr2.alloc _).alloc _⟩⟩
  rw[unhide HV,unhide HS]
theorem val_wrd {f R:Nat} {t:ByteArray} {lv:Int} {l:Sp.By} {tw:Bool} {dp fr:Int} {w:World} (h:RD w R t l tw dp fr) (hT:Laid w) (hR:NG≤R) (h1:¬ Sp.pk l=123) (h2:¬ Sp.pk l=91) (h3:¬ Sp.pk l=34) (h4:¬ Sp.pk l=45) (h5:¬ (48≤Sp.pk l∧Sp.pk l≤57)) :
  Calls Tryz.prog 137 #[.pointer (some ⟨R,0,none⟩),.int .i64 lv] w fun e w'=>KeptX R w w'∧valEnd (f+1) lv l (tw,dp,fr) e w w' R t:=by
 obtain⟨q,ha,hq⟩:=h
 have h2000:l.length≤2000:=by have:=ha.len;have:=ha.small;omega
 have c3:=hq.c3
 have z3:=hq.fz 3
 have hr0:RD (w.setCell ⟨R,3,none⟩ (.int .i64 (max dp lv))) R t l tw (max dp lv) fr:=⟨q,ha,hq.set3 (max dp lv)⟩
 have hk0:KeptX R w (w.setCell ⟨R,3,none⟩ (.int .i64 (max dp lv))):=(KeptX.refl R w).setCell rfl _
 have hT0:=hT.kept hk0 hR
 have hs0:(w.setCell ⟨R,3,none⟩ (.int .i64 (max dp lv))).heap.size=w.heap.size:=by simp[World.setCell]
 have e123:((Sp.pk l:Int) == 123)=false:=by simp;omega
 have e91:((Sp.pk l:Int) == 91)=false:=by simp;omega
 have e34:((Sp.pk l:Int) == 34)=false:=by simp;omega
 have e45:((Sp.pk l:Int) == 45)=false:=by simp;omega
 have HV:Hid (Sp.val (f+1) lv l (tw,dp,fr)=(match Sp.wordIn l 0 Sp.words with
   | none=>none
   | some (k,r)=>some (Sp.vWord k,r,(tw,(max dp lv,fr))))):=by
  unfold Hid
  rw[Sp.val,if_neg (by omega),if_neg (by omega),if_neg (by omega),if_neg (by omega)]
  rfl
 clear hq ha hT
 go_enter Tryz.func137,Tryz.ntmps137
 go_wp2_with (fail)
 refine (peekK hr0).mono ?_
 rintro e w1 ⟨rfl,hr1,hk1⟩
 have hk01:=hk0.trans hk1
 have hT1:=hT0.kept hk1 hR
 have hs1:=hk01.size
 have HD:=hide (show isDn (Sp.pk l)=false by unfold isDn;simp;omega)
 go_wp2_with (fail)
 refine (isDigit_any _ _ (pk_lt l)).mono ?_
 rintro e w9 ⟨rfl,rfl⟩
 rw[unhide HD]
 go_wp2_with (fail)
 refine (word_any hr1 hT1).mono ?_
 rintro e w2 ⟨hk2,hc⟩
 have hk02:=hk01.trans hk2
 rcases hc with⟨k,r,b,hs,rfl,hk3,hvb,hb2,hr2⟩|⟨hs,rfl,hr2⟩
 ·have HS:=hide hs
  clear hs
  go_wp2_with (fail)
  go_ret2
  refine⟨hk02,Or.inl ⟨Sp.vWord k,r,(tw,(max dp lv,fr)),some ⟨b,0,none⟩,?_,rfl,hr2,Tr.leafW (by omega) hk3 hvb⟩⟩
  rw[unhide HV,unhide HS]
 ·have HS:=hide hs
  clear hs
  go_wp2_with (fail)
  go_ret2
  refine⟨hk02,Or.inr ⟨?_,none,rfl,_,_,_,_,hr2⟩⟩
  rw[unhide HV,unhide HS]
theorem val_ok (f:Nat):ValOk f:=by
 induction f with
 | zero=>intro R t lv l tw dp fr w _ _ _ hl;omega
 | succ f ih =>
  intro R t lv l tw dp fr w h hT hR hl hlv hb
  have hl':l.length≤f:=by omega
  have hb':lv+f≤4999:=by omega
  by_cases h1:Sp.pk l=123
  ·exact val_obj ih h hT hR hl' hlv hb' h1
  ·by_cases h2:Sp.pk l=91
   ·exact val_arr ih h hT hR hl' hlv hb' h2
   ·by_cases h3:Sp.pk l=34
    ·exact val_str h hT hR h3
    ·by_cases h4:Sp.pk l=45
     ·exact val_nm1 h hT hR h4
     ·by_cases h5:48≤Sp.pk l∧Sp.pk l≤57
      ·exact val_nm2 h hT hR h5
      ·exact val_wrd h hT hR h1 h2 h3 h4 h5
end Go.Proofs.YtdpomdelmdofmaaGreatDoor

set_option maxHeartbeats 4000000
namespace Go.Proofs.YtdpomdelmdofmaaGreatDoor
open Go.RowKit
def top:Nat:=2001
theorem top_eq:top=2001:=rfl
def Sp.readTo (t:Sp.By) (depth ex:Int):Nat×Option Sp.V :=
 if 2000<t.length then (4,none) else
 match Sp.val top 1 (Sp.skB t) (false,(0,0)) with
 | none=>(5,none)
 | some (v,r,fl)=>if (Sp.skB r).isEmpty then (if fl.1 then (6,none) else if depth<fl.2.1 then (7,none) else if ex<fl.2.2 then (8,none) else (0,some v)) else (5,none)
theorem Tr.drewN {f lo:Nat} {w:World} {v:Value} {d:Sp.V} (h:Tr f lo w v d) (n:Nat):Tr f lo (w.drewN n) v d:=h.move (Nat.le_refl _) fun _ _ _=>rfl
def wholeEnd (l:Sp.By) (fl:Sp.Fl) (e:Ending) (w w':World) (R:Nat) (t:ByteArray):Prop :=
 (∃v r fl' p,Sp.val top 1 (Sp.skB l) fl=some (v,r,fl')∧e = .returned (.tuple #[.pointer p,.bool (Sp.skB r).isEmpty])∧RD w' R t (Sp.skB r) fl'.1 fl'.2.1 fl'.2.2∧Tr top w.heap.size w' (.pointer p) v) ∨
  (Sp.val top 1 (Sp.skB l) fl=none ∧ ∃p,e = .returned (.tuple #[.pointer p,.bool false]) ∧ ∃r tw dp fr,RD w' R t r tw dp fr)
theorem whole_any {R:Nat} {t:ByteArray} {l:Sp.By} {tw:Bool} {dp fr:Int} {w:World} (h:RD w R t l tw dp fr) (hT:Laid w) (hR:NG≤R) :
  Calls Tryz.prog 102 #[.pointer (some ⟨R,0,none⟩)] w fun e w'=>KeptX R w w'∧wholeEnd l (tw,(dp,fr)) e w w' R t:=by
 have hRl:=h.lt
 have h2000:l.length≤2000:=by obtain⟨p,ha,_⟩:=h;have:=ha.len;have:=ha.small;omega
 have hsk:=Sp.skB_len l
 have htop:=top_eq
 go_enter Tryz.func102,Tryz.ntmps102
 go_wp2_with (fail)
 refine (blanks_any h).mono ?_
 rintro e w1 ⟨rfl,hr1,hk1⟩
 go_wp2_with (fail)
 refine (val_ok top R t 1 _ _ _ _ w1 hr1 (hT.kept hk1 hR) hR (by omega) (by omega) (by omega)).mono ?_
 rintro e w2 ⟨hk2,hc⟩
 have hk02:=hk1.trans hk2
 have hs1:=hk1.size
 rcases hc with⟨v,r,fl',p,hs,rfl,hr2,hrep⟩|⟨hs,p,rfl,hr2⟩
 ·have HS:=hide hs
  clear hs hT
  go_wp2_with (fail)
  refine (blanks_any hr2).mono ?_
  rintro e w3 ⟨rfl,hr3,hk3⟩
  have hrep3:Tr top w.heap.size w3 (.pointer p) v:=hrep.move (by omega) fun k h1 h2=>hk3.block k h2 (by omega)
  obtain⟨q,ha,hq⟩:=hr3
  have c0:=hq.c0
  have c1:=hq.c1
  have hem:((q:Int) == (t.size:Int))=(Sp.skB r).isEmpty:=by
   have e1:=ha.len
   have e2:=ha.le
   cases hx:Sp.skB r with
   | nil=>rw[hx] at e1;simp at e1 ⊢; omega
   | cons a b=>rw[hx] at e1;simp at e1 ⊢; omega
  have HE:=hide hem
  have HA:=hide ha
  have HQ:=hide hq
  clear ha hq hem
  go_wp2_with (fail)
  go_quiet (fail)
  go_wp2_with (fail)
  rw[unhide HE]
  go_ret2
  exact⟨(hk02.trans hk3).drewN _,Or.inl ⟨v,r,fl',p,unhide HS,rfl,⟨q,unhide HA,(unhide HQ).drewN _⟩,hrep3.drewN _⟩⟩
 ·have HS:=hide hs
  clear hs hT
  go_wp2_with (fail)
  go_ret2
  exact⟨hk02,Or.inr ⟨unhide HS,none,rfl,hr2⟩⟩
def readEnd (t:Sp.By) (depth ex:Int) (e:Ending) (w w':World):Prop :=
 (∃c,Sp.readTo t depth ex=(c,none)∧0<c∧e = .returned (.tuple #[.pointer none,.int .i64 (c:Nat)])) ∨
  (∃v p,Sp.readTo t depth ex=(0,some v)∧e = .returned (.tuple #[.pointer (some p),.int .i64 0])∧Tr top w.heap.size w' (.pointer (some p)) v)
theorem readTo_long {t:Sp.By} {d x:Int} (h:2000<t.length):Sp.readTo t d x=(4,none):=by unfold Sp.readTo;rw[if_pos h]
theorem readTo_none {t:Sp.By} {d x:Int} (h:¬ 2000<t.length) (hv:Sp.val top 1 (Sp.skB t) (false,(0,0))=none):Sp.readTo t d x=(5,none):=by unfold Sp.readTo;rw[if_neg h,hv]
theorem readTo_some {t:Sp.By} {d x:Int} (h:¬ 2000<t.length) {v:Sp.V} {r:Sp.By} {fl:Sp.Fl} (hv:Sp.val top 1 (Sp.skB t) (false,(0,0))=some (v,r,fl)) :
  Sp.readTo t d x=if (Sp.skB r).isEmpty then (if fl.1 then (6,none) else if d<fl.2.1 then (7,none) else if x<fl.2.2 then (8,none) else (0,some v)) else (5,none):=by unfold Sp.readTo;rw[if_neg h,hv]
theorem Read_any (s:ByteArray) (depth ex:Int) (w:World) (hT:Laid w) :
  Calls Tryz.prog 77 #[.string s,.int .i64 depth,.int .i64 ex] w fun e w'=>Below w.heap.size w w'∧readEnd s.data.toList depth ex e w w':=by
 have hlen:s.data.toList.length=s.size:=(Lib.size_eq s).symm
 by_cases hl:2000<s.size
 ·have h0:=hide (readTo_long (d:=depth) (x:=ex) (show 2000<s.data.toList.length by omega))
  have e0:decide ((2000:Int)<(s.size:Int))=true:=by simp;omega
  clear hT hlen
  go_enter Tryz.func77,Tryz.ntmps77
  go_wp2_with (fail)
  go_ret2
  exact⟨Below.refl _ _,Or.inl ⟨4,unhide h0,by omega,rfl⟩⟩
 ·have e0:decide ((2000:Int)<(s.size:Int))=false:=by simp;omega
  have hn:¬ 2000<s.data.toList.length:=by omega
  have hR:=hT.ng
  have hk0:KeptX w.heap.size w (w.alloc (.cells #[.string s,.int .i64 0,.bool false,.int .i64 0,.int .i64 0] 155)):=(KeptX.refl _ w).alloc _
  have hr0:RD (w.alloc (.cells #[.string s,.int .i64 0,.bool false,.int .i64 0,.int .i64 0] 155)) w.heap.size s s.data.toList false 0 0:=by
   refine⟨0,⟨by omega,by omega,rfl⟩,?_⟩
   show (w.heap.push _)[w.heap.size]? = _
   simp
  have hT0:=hT.kept (X:=w.heap.size) hk0 hR
  clear hT
  go_enter Tryz.func77,Tryz.ntmps77
  go_wp2_with (fail)
  refine (whole_any hr0 hT0 hR).mono ?_
  rintro e w2 ⟨hk2,hc⟩
  have hk02:=hk0.trans hk2
  have hb2:Below w.heap.size w w2:=hk02.below (Nat.le_refl _) (Nat.le_refl _)
  rcases hc with⟨v,r,fl',p,hs,rfl,hr2,hrep⟩|⟨hs,p,rfl,hr2⟩
  ·have h0:=hide (readTo_some (d:=depth) (x:=ex) hn hs)
   obtain⟨tw,dp,fr⟩:=fl'
   obtain⟨bb,rfl⟩:∃bb,p=some bb:=by
    obtain⟨b,hb,_⟩:=hrep.ptr
    injection hb with hb;exact⟨_,hb⟩
   have hrep':Tr top w.heap.size w2 (.pointer (some bb)) v:=hrep.move (by simp) fun k h1 _=>rfl
   obtain⟨q,ha,hq⟩:=hr2
   simp only at hq
   have c2:=hq.c2
   have c3:=hq.c3
   have c4:=hq.c4
   clear hs hr0 ha hq hrep
   cases hem:(Sp.skB r).isEmpty with
   | false =>
    have h1:=hide (show Sp.readTo s.data.toList depth ex=(5,none) from by rw[unhide h0,hem];rfl)
    clear hem h0
    go_wp2_with (fail)
    go_ret2
    exact⟨hb2,Or.inl ⟨5,unhide h1,by omega,rfl⟩⟩
   | true =>
    cases htw:tw with
    | true =>
     have h1:=hide (show Sp.readTo s.data.toList depth ex=(6,none) from by rw[unhide h0,hem];simp[htw])
     subst htw
     clear hem h0
     go_wp2_with (fail)
     go_ret2
     exact⟨hb2,Or.inl ⟨6,unhide h1,by omega,rfl⟩⟩
    | false =>
     subst htw
     by_cases h7:depth<dp
     ·have h1:=hide (show Sp.readTo s.data.toList depth ex=(7,none) from by rw[unhide h0,hem];simp[h7])
      have e7:decide (depth<dp)=true:=by simpa using h7
      clear hem h0
      go_wp2_with (fail)
      go_ret2
      exact⟨hb2,Or.inl ⟨7,unhide h1,by omega,rfl⟩⟩
     ·have e7:decide (depth<dp)=false:=by simpa using h7
      by_cases h8:ex<fr
      ·have h1:=hide (show Sp.readTo s.data.toList depth ex=(8,none) from by rw[unhide h0,hem];simp[h7,h8])
       have e8:decide (ex<fr)=true:=by simpa using h8
       clear hem h0
       go_wp2_with (fail)
       go_ret2
       exact⟨hb2,Or.inl ⟨8,unhide h1,by omega,rfl⟩⟩
      ·have h1:=hide (show Sp.readTo s.data.toList depth ex=(0,some v) from by rw[unhide h0,hem];simp[h7,h8])
       have e8:decide (ex<fr)=false:=by simpa using h8
       clear hem h0
       go_wp2_with (fail)
       go_ret2
       exact⟨hb2,Or.inr ⟨v,_,unhide h1,rfl,hrep'⟩⟩
  ·have h1:=hide (readTo_none (d:=depth) (x:=ex) hn hs)
   clear hs hr0
   go_wp2_with (fail)
   go_ret2
   exact⟨hb2,Or.inl ⟨5,unhide h1,by omega,rfl⟩⟩
end Go.Proofs.YtdpomdelmdofmaaGreatDoor

namespace Go.Proofs.YtdpomdelmdofmaaGreatDoor.Sp
def hexc (n:Nat):UInt8:=if n<10 then UInt8.ofNat (48+n) else UInt8.ofNat (87+n)
def escB (c:UInt8):By:=if c.toNat=34∨c.toNat=92 then [92,c] else if c.toNat<32 then [92,117,48,48,hexc (c.toNat / 16),hexc (c.toNat % 16)] else [c]
def escS:By→By
 | []=>[]
 | c::r=>escB c++escS r
def quoT (s:By):By:=34::(escS s++[34])
def numT (n:Nm):By:=if n.2.1=[] then [48] else (if n.1 then [45] else [])++(n.2.1++(if n.2.2=0 then [] else 101::Lib.itoa n.2.2))
def joinR:List By→By
 | []=>[]
 | x::r=>44::(x++joinR r)
def joinC:List By→By
 | []=>[]
 | x::r=>x++joinR r
def keys (es:List (Lit×V)):List By:=es.map fun p=>match p.1 with | .string b=>b|_=>[]
def look (es:List (Lit×V)) (k:By):V:=DataW.atKey (.map es) (.string k) .nil
def can:Nat→V→By
 | 0,_=>[]
 | f+1,d=>match d with
  | .lit (.int _ k)=>words.getD k.toNat []
  | .lit (.string s)=>quoT s
  | .agg [.lit (.bool ng),.lit (.string ds),.lit (.int _ ex)]=>numT (ng,ds,ex)
  | .slice es _=>91::(joinC (es.map (can f))++[93])
  | .map es=>123::(joinC (((keys es).mergeSort fun x y=>decide (x≤y)).map fun k=>quoT k++58::can f (look es k))++[125])
  | _=>[]
theorem can_word (f k:Nat):can (f+1) (vWord k)=words.getD k []:=rfl
theorem can_num (f:Nat) (n:Nm):can (f+1) (vNum n)=numT n:=rfl
theorem can_str (f:Nat) (s:By):can (f+1) (vStr s)=quoT s:=rfl
theorem can_arr (f:Nat) (es:List V):can (f+1) (vArr es)=91::(joinC (es.map (can f))++[93]):=rfl
theorem can_obj (f:Nat) (es:List (Lit×V)):can (f+1) (vObj es)=123::(joinC (((keys es).mergeSort fun x y=>decide (x≤y)).map fun k=>quoT k++58::can f (look es k))++[125]):=rfl
theorem joinR_snoc (l:List By) (x:By):joinR (l++[x])=joinR l++44::x:=by
 induction l with
 | nil=>simp[joinR]
 | cons y r ih=>simp[joinR,ih]
theorem joinC_take (l:List By) (i:Nat) (h:i<l.length):joinC (l.take (i+1))=joinC (l.take i)++((if 0<i then [44] else [])++l[i]):=by
 rw[List.take_succ_eq_append_getElem h]
 cases l with
 | nil=>simp at h
 | cons x r =>
  cases i with
  | zero=>simp[joinC,joinR]
  | succ i=>simp only[List.take_succ_cons,List.cons_append,joinC,joinR_snoc];simp
theorem joinC_len_take (l:List By) (i:Nat):(joinC (l.take i)).length≤(joinC l).length:=by
 have h:∀ (r:List By) (i:Nat),(joinR (r.take i)).length≤(joinR r).length:=by
  intro r
  induction r with
  | nil=>intro i;simp[joinR]
  | cons x r ih =>
   intro i
   cases i with
   | zero=>simp[joinR]
   | succ i=>have:=ih i;simp[joinR];omega
 cases l with
 | nil=>simp
 | cons x r =>
  cases i with
  | zero=>simp[joinC]
  | succ i=>have:=h r i;simp[joinC];omega
theorem escS_take (s:By) (i:Nat) (h:i<s.length):escS (s.take (i+1))=escS (s.take i)++escB s[i]:=by
 have ha:∀ (a b:By),escS (a++b)=escS a++escS b:=by
  intro a b
  induction a with
  | nil=>rfl
  | cons c r ih=>simp[escS,ih]
 rw[List.take_succ_eq_append_getElem h,ha]
 simp[escS]
theorem escB_len (c:UInt8):(escB c).length≤6:=by
 unfold escB
 split
 ·simp
 ·split
  ·simp
  ·simp
theorem escS_len (s:By):(escS s).length≤6*s.length:=by
 induction s with
 | nil=>simp[escS]
 | cons c r ih=>have:=escB_len c;simp[escS];omega
end Go.Proofs.YtdpomdelmdofmaaGreatDoor.Sp

namespace Go.Proofs.YtdpomdelmdofmaaGreatDoor
open Go.RowKit
structure Fr (B b:Nat) (w w':World):Prop where
 low:Below B w w'
 oth:OKz b w w'
theorem Fr.refl (B b:Nat) (w:World):Fr B b w w:=⟨Below.refl _ _,OKz.refl _ _⟩
theorem Fr.trans {B b:Nat} {w1 w2 w3:World} (h:Fr B b w1 w2) (g:Fr B b w2 w3):Fr B b w1 w3:=⟨h.low.trans g.low,h.oth.trans g.oth⟩
abbrev Bu (B b:Nat) (l:Sp.By) (w:World):Prop:=IsB B b (Lib.byteCells l) w
theorem bc_one (l:Sp.By) (c:UInt8):Lib.byteCells l++[.int .u8 (c.toNat:Int)]=Lib.byteCells (l++[c]):=by simp[Lib.byteCells]
theorem wByte {B b:Nat} {acc:Sp.By} (c:UInt8) (ci:Int) (hc:ci=c.toNat) {w:World} (h:Bu B b acc w) (hl:acc.length+1≤140737488355328) (hB:B≤w.heap.size) :
  Calls Tryz.prog 139 #[.pointer (some ⟨b,0,none⟩),.int .u8 ci] w fun e w'=>e = .returned .nilIface∧Bu B b (acc++[c]) w'∧Fr B b w w':=by
 refine (WriteByte_any B b _ ci w h (by rw[Lib.byteCells_length];exact hl) hB).mono ?_
 rintro e w' ⟨he,h1,h2,h3⟩
 rw[hc,bc_one] at h1
 exact⟨he,Or.inr h1,h2,h3⟩
theorem wStr {B b:Nat} {acc:Sp.By} (s:Sp.By) {w:World} (h:Bu B b acc w) (hl:acc.length+s.length≤140737488355328) (hB:B≤w.heap.size) :
  Calls Tryz.prog 107 #[.pointer (some ⟨b,0,none⟩),.string ⟨s.toArray⟩] w fun e w'=>e = .returned (.tuple #[.int .i64 s.length,.nilIface])∧Bu B b (acc++s) w'∧Fr B b w w':=by
 refine (WriteString_any B b _ ⟨s.toArray⟩ w h (by rw[Lib.byteCells_length,bs_size];exact hl) hB).mono ?_
 rintro e w' ⟨he,h1,h2,h3⟩
 rw[Lib.strCells_toArray,← Lib.byteCells_append] at h1
 rw[bs_size] at he
 exact⟨he,Or.inr h1,h2,h3⟩
def hexD:ByteArray:=⟨#[48,49,50,51,52,53,54,55,56,57,97,98,99,100,101,102]⟩
theorem hex_idx:∀n,n<16→hexD.data.toList.getD n 0=Sp.hexc n:=by decide
theorem hex_at (n:Nat) (h:n<16) (h2:n<(⟨#[48,49,50,51,52,53,54,55,56,57,97,98,99,100,101,102]⟩:ByteArray).size):((⟨#[48,49,50,51,52,53,54,55,56,57,97,98,99,100,101,102]⟩:ByteArray)[n]'h2)=Sp.hexc n:=by
 have:=hex_idx n h
 rw[← this]
 have h3:n<hexD.data.toList.length:=h
 simp only[List.getD,List.getElem?_eq_getElem h3,Option.getD_some]
 rfl
end Go.Proofs.YtdpomdelmdofmaaGreatDoor
