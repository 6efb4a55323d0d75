/-
  Walk of the reader's exponent.
-/
import Derived.Test.YtdpomdelmdofmaaGreatDoorMrg05
import Derived.Laws.RangeAny
import Derived.Test.YtdpomdelmdofmaaGreatDoorMrg03
import Derived.BigRegion
import GoSem.ClaimMapViews
import Derived.Maps.Views
import Derived.Maps.OwnSet
set_option maxHeartbeats 2000000
namespace Go.Proofs.YtdpomdelmdofmaaGreatDoor
open Go.RowKit
def expEnd (o:Option (Int×Sp.By)) (e:Ending) (w':World) (R:Nat) (t:ByteArray) (tw:Bool) (dp fr:Int):Prop :=
 (∃n l',o=some (n,l')∧e = .returned (.tuple #[.int .i64 n,.bool true])∧RD w' R t l' tw dp fr) ∨
  (o=none ∧ ∃n l',e = .returned (.tuple #[.int .i64 n,.bool false])∧RD w' R t l' tw dp fr)
theorem iterPos_iter (w:World) (s:ByteArray) (k:Nat):(w.iter s k).iterPos w.heap.size=k:=by
 simp[World.iterPos,World.iter_heap]
theorem exp_e1 {w:World} {R:Nat} {t:ByteArray} {l:Sp.By} {tw:Bool} {dp fr:Int} (h:RD w R t l tw dp fr) (k1:Sp.tk l 101=true) (k2:Sp.tk l.tail 45=true) :
  Calls Tryz.prog 224 #[.pointer (some ⟨R,0,none⟩)] w fun e w'=>KeptX R w w'∧expEnd (Sp.expo l) e w' R t tw dp fr:=by
 have K1:=hide k1
 have K2:=hide k2
 have hE:Hid (Sp.expo l=if Sp.dg l.tail.tail=[] then none else some (- Sp.exNum (Sp.dg l.tail.tail) 0,Sp.dgR l.tail.tail)):=by
  unfold Hid Sp.expo;simp[k1,k2]
 obtain⟨b,hem⟩:∃b,(Sp.dg l.tail.tail).isEmpty=b:=⟨_,rfl⟩
 have hall:=hide (dg_all l.tail.tail)
 clear k1 k2
 go_enter Tryz.func224,Tryz.ntmps224
 go_wp2_with (fail)
 refine (take_yes 101 _ rfl h (unhide K1)).mono ?_
 rintro e w1 ⟨rfl,hr1,hk1⟩
 go_wp2_with (fail)
 refine (take_yes 45 _ rfl hr1 (unhide K2)).mono ?_
 rintro e w2 ⟨rfl,hr2,hk2⟩
 go_wp2_with (fail)
 refine (digits_any hr2).mono ?_
 rintro e w3 ⟨rfl,hr3,hk3⟩
 have hkk:=((hk1.trans hk2).trans hk3)
 go_wp2_with (fail)
 generalize hds:Sp.dg l.tail.tail=ds at *
 clear h hr1 hr2 hds
 go_loopw [6] (fun n wr=>∃ (k:Nat) (m:Int),k≤ds.length∧n = .int .i64 m∧0≤m∧m≤1000000∧wr=w3.iter ⟨ds.toArray⟩ k∧Sp.exNum ds 0=Sp.exNum (ds.drop k) m) (fun _ wr=>ds.length-wr.iterPos w3.heap.size)
 case atStart=>exact⟨0,0,by omega,rfl,by omega,by omega,rfl,rfl⟩
 case round =>
  obtain⟨k,m,hk,rfl,hm0,hm1,rfl,he⟩:=hrel
  have HE:=hide he
  clear he
  by_cases hlt:k<ds.length
  ·have hlt2:k<(⟨ds.toArray⟩:ByteArray).size:=by rw[bs_size];exact hlt
   have hc:=unhide hall ds[k] (List.getElem_mem hlt)
   have hbyte:((⟨ds.toArray⟩:ByteArray)[k]'hlt2)=ds[k]:=by simp[ByteArray.getElem_eq_getElem_data]
   have hnext:∀ty,(Instr.next (.pointer (some ⟨w3.heap.size,0,none⟩)) true ty).run Tryz.prog (w3.iter ⟨ds.toArray⟩ k) = .ok (.tuple #[.bool true,.int .i64 k,.int .i32 ds[k].toNat]) (w3.iter ⟨ds.toArray⟩ (k+1)):=fun ty=>by
    have:=run_next_ascii (P:=Tryz.prog) w3 ⟨ds.toArray⟩ k ty hlt2 (by rw[hbyte];omega)
    rw[hbyte] at this;exact this
   have hstep:Hid (Sp.exNum (ds.drop k) m=Sp.exNum (ds.drop (k+1)) (min (10*m+((ds[k].toNat:Int)-48)) 1000000)):=by
    unfold Hid;rw[List.drop_eq_getElem_cons hlt];rfl
   generalize hcc:ds[k].toNat=c at *
   have HC:=hide hcc
   clear hcc hbyte
   go_wp2_with (fail)
   go_roundw
   case rel=>exact⟨k+1,_,by omega,rfl,by omega,by omega,rfl,(unhide HE).trans (unhide hstep)⟩
   case measure=>rw[iterPos_iter,iterPos_iter];omega
  ·have hnext:∀ty,(Instr.next (.pointer (some ⟨w3.heap.size,0,none⟩)) true ty).run Tryz.prog (w3.iter ⟨ds.toArray⟩ k) = .ok (.tuple #[.bool false]) (w3.iter ⟨ds.toArray⟩ k):=fun ty =>
    run_next_end (P:=Tryz.prog) w3 ⟨ds.toArray⟩ k ty (by rw[bs_size];exact hlt)
   go_wp2_with (fail)
   have hkz:KeptX R w (w3.iter ⟨ds.toArray⟩ k):=hkk.alloc _
   have hrz:RD (w3.iter ⟨ds.toArray⟩ k) R t (Sp.dgR l.tail.tail) tw dp fr:=hr3.alloc _
   have hmz:Sp.exNum ds 0=m:=by rw[unhide HE,List.drop_eq_nil_of_le (by omega)];rfl
   go_ret2
   refine⟨hkz,?_⟩
   cases b with
   | false=>exact Or.inl ⟨_,_,by rw[unhide hE,if_neg (by intro h;rw[h] at hem;cases hem),hmz],rfl,hrz⟩
   | true=>exact Or.inr ⟨by rw[unhide hE,if_pos (by simpa using hem)],_,_,rfl,hrz⟩
theorem exp_e2 {w:World} {R:Nat} {t:ByteArray} {l:Sp.By} {tw:Bool} {dp fr:Int} (h:RD w R t l tw dp fr) (k1:Sp.tk l 101=true) (k2:Sp.tk l.tail 45=false) (k3:Sp.tk l.tail 43=true) :
  Calls Tryz.prog 224 #[.pointer (some ⟨R,0,none⟩)] w fun e w'=>KeptX R w w'∧expEnd (Sp.expo l) e w' R t tw dp fr:=by
 have K1:=hide k1
 have K2:=hide k2
 have K3:=hide k3
 have hE:Hid (Sp.expo l=if Sp.dg l.tail.tail=[] then none else some (Sp.exNum (Sp.dg l.tail.tail) 0,Sp.dgR l.tail.tail)):=by
  unfold Hid Sp.expo;simp[k1,k2,k3]
 obtain⟨b,hem⟩:∃b,(Sp.dg l.tail.tail).isEmpty=b:=⟨_,rfl⟩
 have hall:=hide (dg_all l.tail.tail)
 clear k1 k2 k3
 go_enter Tryz.func224,Tryz.ntmps224
 go_wp2_with (fail)
 refine (take_yes 101 _ rfl h (unhide K1)).mono ?_
 rintro e w1 ⟨rfl,hr1,hk1⟩
 go_wp2_with (fail)
 refine (takeN 45 _ rfl hr1 (unhide K2)).mono ?_
 rintro e w2 ⟨rfl,hr2,hk2⟩
 go_wp2_with (fail)
 refine (take_yes 43 _ rfl hr2 (unhide K3)).mono ?_
 rintro e w3 ⟨rfl,hr3,hk3⟩
 go_wp2_with (fail)
 refine (digits_any hr3).mono ?_
 rintro e w4 ⟨rfl,hr4,hk4⟩
 have hkk:=(((hk1.trans hk2).trans hk3).trans hk4)
 go_wp2_with (fail)
 generalize hds:Sp.dg l.tail.tail=ds at *
 clear h hr1 hr2 hr3 hds
 go_loopw [6] (fun n wr=>∃ (k:Nat) (m:Int),k≤ds.length∧n = .int .i64 m∧0≤m∧m≤1000000∧wr=w4.iter ⟨ds.toArray⟩ k∧Sp.exNum ds 0=Sp.exNum (ds.drop k) m) (fun _ wr=>ds.length-wr.iterPos w4.heap.size)
 case atStart=>exact⟨0,0,by omega,rfl,by omega,by omega,rfl,rfl⟩
 case round =>
  obtain⟨k,m,hk,rfl,hm0,hm1,rfl,he⟩:=hrel
  have HE:=hide he
  clear he
  by_cases hlt:k<ds.length
  ·have hlt2:k<(⟨ds.toArray⟩:ByteArray).size:=by rw[bs_size];exact hlt
   have hc:=unhide hall ds[k] (List.getElem_mem hlt)
   have hbyte:((⟨ds.toArray⟩:ByteArray)[k]'hlt2)=ds[k]:=by simp[ByteArray.getElem_eq_getElem_data]
   have hnext:∀ty,(Instr.next (.pointer (some ⟨w4.heap.size,0,none⟩)) true ty).run Tryz.prog (w4.iter ⟨ds.toArray⟩ k) = .ok (.tuple #[.bool true,.int .i64 k,.int .i32 ds[k].toNat]) (w4.iter ⟨ds.toArray⟩ (k+1)):=fun ty=>by
    have:=run_next_ascii (P:=Tryz.prog) w4 ⟨ds.toArray⟩ k ty hlt2 (by rw[hbyte];omega)
    rw[hbyte] at this;exact this
   have hstep:Hid (Sp.exNum (ds.drop k) m=Sp.exNum (ds.drop (k+1)) (min (10*m+((ds[k].toNat:Int)-48)) 1000000)):=by
    unfold Hid;rw[List.drop_eq_getElem_cons hlt];rfl
   generalize hcc:ds[k].toNat=c at *
   have HC:=hide hcc
   clear hcc hbyte
   go_wp2_with (fail)
   go_roundw
   case rel=>exact⟨k+1,_,by omega,rfl,by omega,by omega,rfl,(unhide HE).trans (unhide hstep)⟩
   case measure=>rw[iterPos_iter,iterPos_iter];omega
  ·have hnext:∀ty,(Instr.next (.pointer (some ⟨w4.heap.size,0,none⟩)) true ty).run Tryz.prog (w4.iter ⟨ds.toArray⟩ k) = .ok (.tuple #[.bool false]) (w4.iter ⟨ds.toArray⟩ k):=fun ty =>
    run_next_end (P:=Tryz.prog) w4 ⟨ds.toArray⟩ k ty (by rw[bs_size];exact hlt)
   go_wp2_with (fail)
   have hkz:KeptX R w (w4.iter ⟨ds.toArray⟩ k):=hkk.alloc _
   have hrz:RD (w4.iter ⟨ds.toArray⟩ k) R t (Sp.dgR l.tail.tail) tw dp fr:=hr4.alloc _
   have hmz:Sp.exNum ds 0=m:=by rw[unhide HE,List.drop_eq_nil_of_le (by omega)];rfl
   go_ret2
   refine⟨hkz,?_⟩
   cases b with
   | false=>exact Or.inl ⟨_,_,by rw[unhide hE,if_neg (by intro h;rw[h] at hem;cases hem),hmz],rfl,hrz⟩
   | true=>exact Or.inr ⟨by rw[unhide hE,if_pos (by simpa using hem)],_,_,rfl,hrz⟩
theorem exp_e3 {w:World} {R:Nat} {t:ByteArray} {l:Sp.By} {tw:Bool} {dp fr:Int} (h:RD w R t l tw dp fr) (k1:Sp.tk l 101=true) (k2:Sp.tk l.tail 45=false) (k3:Sp.tk l.tail 43=false) :
  Calls Tryz.prog 224 #[.pointer (some ⟨R,0,none⟩)] w fun e w'=>KeptX R w w'∧expEnd (Sp.expo l) e w' R t tw dp fr:=by
 have K1:=hide k1
 have K2:=hide k2
 have K3:=hide k3
 have hE:Hid (Sp.expo l=if Sp.dg l.tail=[] then none else some (Sp.exNum (Sp.dg l.tail) 0,Sp.dgR l.tail)):=by
  unfold Hid Sp.expo;simp[k1,k2,k3]
 obtain⟨b,hem⟩:∃b,(Sp.dg l.tail).isEmpty=b:=⟨_,rfl⟩
 have hall:=hide (dg_all l.tail)
 clear k1 k2 k3
 go_enter Tryz.func224,Tryz.ntmps224
 go_wp2_with (fail)
 refine (take_yes 101 _ rfl h (unhide K1)).mono ?_
 rintro e w1 ⟨rfl,hr1,hk1⟩
 go_wp2_with (fail)
 refine (takeN 45 _ rfl hr1 (unhide K2)).mono ?_
 rintro e w2 ⟨rfl,hr2,hk2⟩
 go_wp2_with (fail)
 refine (takeN 43 _ rfl hr2 (unhide K3)).mono ?_
 rintro e w3 ⟨rfl,hr3,hk3⟩
 go_wp2_with (fail)
 refine (digits_any hr3).mono ?_
 rintro e w4 ⟨rfl,hr4,hk4⟩
 have hkk:=(((hk1.trans hk2).trans hk3).trans hk4)
 go_wp2_with (fail)
 generalize hds:Sp.dg l.tail=ds at *
 clear h hr1 hr2 hr3 hds
 go_loopw [6] (fun n wr=>∃ (k:Nat) (m:Int),k≤ds.length∧n = .int .i64 m∧0≤m∧m≤1000000∧wr=w4.iter ⟨ds.toArray⟩ k∧Sp.exNum ds 0=Sp.exNum (ds.drop k) m) (fun _ wr=>ds.length-wr.iterPos w4.heap.size)
 case atStart=>exact⟨0,0,by omega,rfl,by omega,by omega,rfl,rfl⟩
 case round =>
  obtain⟨k,m,hk,rfl,hm0,hm1,rfl,he⟩:=hrel
  have HE:=hide he
  clear he
  by_cases hlt:k<ds.length
  ·have hlt2:k<(⟨ds.toArray⟩:ByteArray).size:=by rw[bs_size];exact hlt
   have hc:=unhide hall ds[k] (List.getElem_mem hlt)
   have hbyte:((⟨ds.toArray⟩:ByteArray)[k]'hlt2)=ds[k]:=by simp[ByteArray.getElem_eq_getElem_data]
   have hnext:∀ty,(Instr.next (.pointer (some ⟨w4.heap.size,0,none⟩)) true ty).run Tryz.prog (w4.iter ⟨ds.toArray⟩ k) = .ok (.tuple #[.bool true,.int .i64 k,.int .i32 ds[k].toNat]) (w4.iter ⟨ds.toArray⟩ (k+1)):=fun ty=>by
    have:=run_next_ascii (P:=Tryz.prog) w4 ⟨ds.toArray⟩ k ty hlt2 (by rw[hbyte];omega)
    rw[hbyte] at this;exact this
   have hstep:Hid (Sp.exNum (ds.drop k) m=Sp.exNum (ds.drop (k+1)) (min (10*m+((ds[k].toNat:Int)-48)) 1000000)):=by
    unfold Hid;rw[List.drop_eq_getElem_cons hlt];rfl
   generalize hcc:ds[k].toNat=c at *
   have HC:=hide hcc
   clear hcc hbyte
   go_wp2_with (fail)
   go_roundw
   case rel=>exact⟨k+1,_,by omega,rfl,by omega,by omega,rfl,(unhide HE).trans (unhide hstep)⟩
   case measure=>rw[iterPos_iter,iterPos_iter];omega
  ·have hnext:∀ty,(Instr.next (.pointer (some ⟨w4.heap.size,0,none⟩)) true ty).run Tryz.prog (w4.iter ⟨ds.toArray⟩ k) = .ok (.tuple #[.bool false]) (w4.iter ⟨ds.toArray⟩ k):=fun ty =>
    run_next_end (P:=Tryz.prog) w4 ⟨ds.toArray⟩ k ty (by rw[bs_size];exact hlt)
   go_wp2_with (fail)
   have hkz:KeptX R w (w4.iter ⟨ds.toArray⟩ k):=hkk.alloc _
   have hrz:RD (w4.iter ⟨ds.toArray⟩ k) R t (Sp.dgR l.tail) tw dp fr:=hr4.alloc _
   have hmz:Sp.exNum ds 0=m:=by rw[unhide HE,List.drop_eq_nil_of_le (by omega)];rfl
   go_ret2
   refine⟨hkz,?_⟩
   cases b with
   | false=>exact Or.inl ⟨_,_,by rw[unhide hE,if_neg (by intro h;rw[h] at hem;cases hem),hmz],rfl,hrz⟩
   | true=>exact Or.inr ⟨by rw[unhide hE,if_pos (by simpa using hem)],_,_,rfl,hrz⟩
theorem exp_f1 {w:World} {R:Nat} {t:ByteArray} {l:Sp.By} {tw:Bool} {dp fr:Int} (h:RD w R t l tw dp fr) (k0:Sp.tk l 101=false) (k1:Sp.tk l 69=true) (k2:Sp.tk l.tail 45=true) :
  Calls Tryz.prog 224 #[.pointer (some ⟨R,0,none⟩)] w fun e w'=>KeptX R w w'∧expEnd (Sp.expo l) e w' R t tw dp fr:=by
 have K0:=hide k0
 have K1:=hide k1
 have K2:=hide k2
 have hE:Hid (Sp.expo l=if Sp.dg l.tail.tail=[] then none else some (- Sp.exNum (Sp.dg l.tail.tail) 0,Sp.dgR l.tail.tail)):=by
  unfold Hid Sp.expo;simp[k0,k1,k2]
 obtain⟨b,hem⟩:∃b,(Sp.dg l.tail.tail).isEmpty=b:=⟨_,rfl⟩
 have hall:=hide (dg_all l.tail.tail)
 clear k0 k1 k2
 go_enter Tryz.func224,Tryz.ntmps224
 go_wp2_with (fail)
 refine (takeN 101 _ rfl h (unhide K0)).mono ?_
 rintro e w1 ⟨rfl,hr1,hk1⟩
 go_wp2_with (fail)
 refine (take_yes 69 _ rfl hr1 (unhide K1)).mono ?_
 rintro e w2 ⟨rfl,hr2,hk2⟩
 go_wp2_with (fail)
 refine (take_yes 45 _ rfl hr2 (unhide K2)).mono ?_
 rintro e w3 ⟨rfl,hr3,hk3⟩
 go_wp2_with (fail)
 refine (digits_any hr3).mono ?_
 rintro e w4 ⟨rfl,hr4,hk4⟩
 have hkk:=(((hk1.trans hk2).trans hk3).trans hk4)
 go_wp2_with (fail)
 generalize hds:Sp.dg l.tail.tail=ds at *
 clear h hr1 hr2 hr3 hds
 go_loopw [6] (fun n wr=>∃ (k:Nat) (m:Int),k≤ds.length∧n = .int .i64 m∧0≤m∧m≤1000000∧wr=w4.iter ⟨ds.toArray⟩ k∧Sp.exNum ds 0=Sp.exNum (ds.drop k) m) (fun _ wr=>ds.length-wr.iterPos w4.heap.size)
 case atStart=>exact⟨0,0,by omega,rfl,by omega,by omega,rfl,rfl⟩
 case round =>
  obtain⟨k,m,hk,rfl,hm0,hm1,rfl,he⟩:=hrel
  have HE:=hide he
  clear he
  by_cases hlt:k<ds.length
  ·have hlt2:k<(⟨ds.toArray⟩:ByteArray).size:=by rw[bs_size];exact hlt
   have hc:=unhide hall ds[k] (List.getElem_mem hlt)
   have hbyte:((⟨ds.toArray⟩:ByteArray)[k]'hlt2)=ds[k]:=by simp[ByteArray.getElem_eq_getElem_data]
   have hnext:∀ty,(Instr.next (.pointer (some ⟨w4.heap.size,0,none⟩)) true ty).run Tryz.prog (w4.iter ⟨ds.toArray⟩ k) = .ok (.tuple #[.bool true,.int .i64 k,.int .i32 ds[k].toNat]) (w4.iter ⟨ds.toArray⟩ (k+1)):=fun ty=>by
    have:=run_next_ascii (P:=Tryz.prog) w4 ⟨ds.toArray⟩ k ty hlt2 (by rw[hbyte];omega)
    rw[hbyte] at this;exact this
   have hstep:Hid (Sp.exNum (ds.drop k) m=Sp.exNum (ds.drop (k+1)) (min (10*m+((ds[k].toNat:Int)-48)) 1000000)):=by
    unfold Hid;rw[List.drop_eq_getElem_cons hlt];rfl
   generalize hcc:ds[k].toNat=c at *
   have HC:=hide hcc
   clear hcc hbyte
   go_wp2_with (fail)
   go_roundw
   case rel=>exact⟨k+1,_,by omega,rfl,by omega,by omega,rfl,(unhide HE).trans (unhide hstep)⟩
   case measure=>rw[iterPos_iter,iterPos_iter];omega
  ·have hnext:∀ty,(Instr.next (.pointer (some ⟨w4.heap.size,0,none⟩)) true ty).run Tryz.prog (w4.iter ⟨ds.toArray⟩ k) = .ok (.tuple #[.bool false]) (w4.iter ⟨ds.toArray⟩ k):=fun ty =>
    run_next_end (P:=Tryz.prog) w4 ⟨ds.toArray⟩ k ty (by rw[bs_size];exact hlt)
   go_wp2_with (fail)
   have hkz:KeptX R w (w4.iter ⟨ds.toArray⟩ k):=hkk.alloc _
   have hrz:RD (w4.iter ⟨ds.toArray⟩ k) R t (Sp.dgR l.tail.tail) tw dp fr:=hr4.alloc _
   have hmz:Sp.exNum ds 0=m:=by rw[unhide HE,List.drop_eq_nil_of_le (by omega)];rfl
   go_ret2
   refine⟨hkz,?_⟩
   cases b with
   | false=>exact Or.inl ⟨_,_,by rw[unhide hE,if_neg (by intro h;rw[h] at hem;cases hem),hmz],rfl,hrz⟩
   | true=>exact Or.inr ⟨by rw[unhide hE,if_pos (by simpa using hem)],_,_,rfl,hrz⟩
theorem exp_f2 {w:World} {R:Nat} {t:ByteArray} {l:Sp.By} {tw:Bool} {dp fr:Int} (h:RD w R t l tw dp fr) (k0:Sp.tk l 101=false) (k1:Sp.tk l 69=true) (k2:Sp.tk l.tail 45=false) (k3:Sp.tk l.tail 43=true) :
  Calls Tryz.prog 224 #[.pointer (some ⟨R,0,none⟩)] w fun e w'=>KeptX R w w'∧expEnd (Sp.expo l) e w' R t tw dp fr:=by
 have K0:=hide k0
 have K1:=hide k1
 have K2:=hide k2
 have K3:=hide k3
 have hE:Hid (Sp.expo l=if Sp.dg l.tail.tail=[] then none else some (Sp.exNum (Sp.dg l.tail.tail) 0,Sp.dgR l.tail.tail)):=by
  unfold Hid Sp.expo;simp[k0,k1,k2,k3]
 obtain⟨b,hem⟩:∃b,(Sp.dg l.tail.tail).isEmpty=b:=⟨_,rfl⟩
 have hall:=hide (dg_all l.tail.tail)
 clear k0 k1 k2 k3
 go_enter Tryz.func224,Tryz.ntmps224
 go_wp2_with (fail)
 refine (takeN 101 _ rfl h (unhide K0)).mono ?_
 rintro e w1 ⟨rfl,hr1,hk1⟩
 go_wp2_with (fail)
 refine (take_yes 69 _ rfl hr1 (unhide K1)).mono ?_
 rintro e w2 ⟨rfl,hr2,hk2⟩
 go_wp2_with (fail)
 refine (takeN 45 _ rfl hr2 (unhide K2)).mono ?_
 rintro e w3 ⟨rfl,hr3,hk3⟩
 go_wp2_with (fail)
 refine (take_yes 43 _ rfl hr3 (unhide K3)).mono ?_
 rintro e w4 ⟨rfl,hr4,hk4⟩
 go_wp2_with (fail)
 refine (digits_any hr4).mono ?_
 rintro e w5 ⟨rfl,hr5,hk5⟩
 have hkk:=((((hk1.trans hk2).trans hk3).trans hk4).trans hk5)
 go_wp2_with (fail)
 generalize hds:Sp.dg l.tail.tail=ds at *
 clear h hr1 hr2 hr3 hr4 hds
 go_loopw [6] (fun n wr=>∃ (k:Nat) (m:Int),k≤ds.length∧n = .int .i64 m∧0≤m∧m≤1000000∧wr=w5.iter ⟨ds.toArray⟩ k∧Sp.exNum ds 0=Sp.exNum (ds.drop k) m) (fun _ wr=>ds.length-wr.iterPos w5.heap.size)
 case atStart=>exact⟨0,0,by omega,rfl,by omega,by omega,rfl,rfl⟩
 case round =>
  obtain⟨k,m,hk,rfl,hm0,hm1,rfl,he⟩:=hrel
  have HE:=hide he
  clear he
  by_cases hlt:k<ds.length
  ·have hlt2:k<(⟨ds.toArray⟩:ByteArray).size:=by rw[bs_size];exact hlt
   have hc:=unhide hall ds[k] (List.getElem_mem hlt)
   have hbyte:((⟨ds.toArray⟩:ByteArray)[k]'hlt2)=ds[k]:=by simp[ByteArray.getElem_eq_getElem_data]
   have hnext:∀ty,(Instr.next (.pointer (some ⟨w5.heap.size,0,none⟩)) true ty).run Tryz.prog (w5.iter ⟨ds.toArray⟩ k) = .ok (.tuple #[.bool true,.int .i64 k,.int .i32 ds[k].toNat]) (w5.iter ⟨ds.toArray⟩ (k+1)):=fun ty=>by
    have:=run_next_ascii (P:=Tryz.prog) w5 ⟨ds.toArray⟩ k ty hlt2 (by rw[hbyte];omega)
    rw[hbyte] at this;exact this
   have hstep:Hid (Sp.exNum (ds.drop k) m=Sp.exNum (ds.drop (k+1)) (min (10*m+((ds[k].toNat:Int)-48)) 1000000)):=by
    unfold Hid;rw[List.drop_eq_getElem_cons hlt];rfl
   generalize hcc:ds[k].toNat=c at *
   have HC:=hide hcc
   clear hcc hbyte
   go_wp2_with (fail)
   go_roundw
   case rel=>exact⟨k+1,_,by omega,rfl,by omega,by omega,rfl,(unhide HE).trans (unhide hstep)⟩
   case measure=>rw[iterPos_iter,iterPos_iter];omega
  ·have hnext:∀ty,(Instr.next (.pointer (some ⟨w5.heap.size,0,none⟩)) true ty).run Tryz.prog (w5.iter ⟨ds.toArray⟩ k) = .ok (.tuple #[.bool false]) (w5.iter ⟨ds.toArray⟩ k):=fun ty =>
    run_next_end (P:=Tryz.prog) w5 ⟨ds.toArray⟩ k ty (by rw[bs_size];exact hlt)
   go_wp2_with (fail)
   have hkz:KeptX R w (w5.iter ⟨ds.toArray⟩ k):=hkk.alloc _
   have hrz:RD (w5.iter ⟨ds.toArray⟩ k) R t (Sp.dgR l.tail.tail) tw dp fr:=hr5.alloc _
   have hmz:Sp.exNum ds 0=m:=by rw[unhide HE,List.drop_eq_nil_of_le (by omega)];rfl
   go_ret2
   refine⟨hkz,?_⟩
   cases b with
   | false=>exact Or.inl ⟨_,_,by rw[unhide hE,if_neg (by intro h;rw[h] at hem;cases hem),hmz],rfl,hrz⟩
   | true=>exact Or.inr ⟨by rw[unhide hE,if_pos (by simpa using hem)],_,_,rfl,hrz⟩
theorem exp_f3 {w:World} {R:Nat} {t:ByteArray} {l:Sp.By} {tw:Bool} {dp fr:Int} (h:RD w R t l tw dp fr) (k0:Sp.tk l 101=false) (k1:Sp.tk l 69=true) (k2:Sp.tk l.tail 45=false) (k3:Sp.tk l.tail 43=false) :
  Calls Tryz.prog 224 #[.pointer (some ⟨R,0,none⟩)] w fun e w'=>KeptX R w w'∧expEnd (Sp.expo l) e w' R t tw dp fr:=by
 have K0:=hide k0
 have K1:=hide k1
 have K2:=hide k2
 have K3:=hide k3
 have hE:Hid (Sp.expo l=if Sp.dg l.tail=[] then none else some (Sp.exNum (Sp.dg l.tail) 0,Sp.dgR l.tail)):=by
  unfold Hid Sp.expo;simp[k0,k1,k2,k3]
 obtain⟨b,hem⟩:∃b,(Sp.dg l.tail).isEmpty=b:=⟨_,rfl⟩
 have hall:=hide (dg_all l.tail)
 clear k0 k1 k2 k3
 go_enter Tryz.func224,Tryz.ntmps224
 go_wp2_with (fail)
 refine (takeN 101 _ rfl h (unhide K0)).mono ?_
 rintro e w1 ⟨rfl,hr1,hk1⟩
 go_wp2_with (fail)
 refine (take_yes 69 _ rfl hr1 (unhide K1)).mono ?_
 rintro e w2 ⟨rfl,hr2,hk2⟩
 go_wp2_with (fail)
 refine (takeN 45 _ rfl hr2 (unhide K2)).mono ?_
 rintro e w3 ⟨rfl,hr3,hk3⟩
 go_wp2_with (fail)
 refine (takeN 43 _ rfl hr3 (unhide K3)).mono ?_
 rintro e w4 ⟨rfl,hr4,hk4⟩
 go_wp2_with (fail)
 refine (digits_any hr4).mono ?_
 rintro e w5 ⟨rfl,hr5,hk5⟩
 have hkk:=((((hk1.trans hk2).trans hk3).trans hk4).trans hk5)
 go_wp2_with (fail)
 generalize hds:Sp.dg l.tail=ds at *
 clear h hr1 hr2 hr3 hr4 hds
 go_loopw [6] (fun n wr=>∃ (k:Nat) (m:Int),k≤ds.length∧n = .int .i64 m∧0≤m∧m≤1000000∧wr=w5.iter ⟨ds.toArray⟩ k∧Sp.exNum ds 0=Sp.exNum (ds.drop k) m) (fun _ wr=>ds.length-wr.iterPos w5.heap.size)
 case atStart=>exact⟨0,0,by omega,rfl,by omega,by omega,rfl,rfl⟩
 case round =>
  obtain⟨k,m,hk,rfl,hm0,hm1,rfl,he⟩:=hrel
  have HE:=hide he
  clear he
  by_cases hlt:k<ds.length
  ·have hlt2:k<(⟨ds.toArray⟩:ByteArray).size:=by rw[bs_size];exact hlt
   have hc:=unhide hall ds[k] (List.getElem_mem hlt)
   have hbyte:((⟨ds.toArray⟩:ByteArray)[k]'hlt2)=ds[k]:=by simp[ByteArray.getElem_eq_getElem_data]
   have hnext:∀ty,(Instr.next (.pointer (some ⟨w5.heap.size,0,none⟩)) true ty).run Tryz.prog (w5.iter ⟨ds.toArray⟩ k) = .ok (.tuple #[.bool true,.int .i64 k,.int .i32 ds[k].toNat]) (w5.iter ⟨ds.toArray⟩ (k+1)):=fun ty=>by
    have:=run_next_ascii (P:=Tryz.prog) w5 ⟨ds.toArray⟩ k ty hlt2 (by rw[hbyte];omega)
    rw[hbyte] at this;exact this
   have hstep:Hid (Sp.exNum (ds.drop k) m=Sp.exNum (ds.drop (k+1)) (min (10*m+((ds[k].toNat:Int)-48)) 1000000)):=by
    unfold Hid;rw[List.drop_eq_getElem_cons hlt];rfl
   generalize hcc:ds[k].toNat=c at *
   have HC:=hide hcc
   clear hcc hbyte
   go_wp2_with (fail)
   go_roundw
   case rel=>exact⟨k+1,_,by omega,rfl,by omega,by omega,rfl,(unhide HE).trans (unhide hstep)⟩
   case measure=>rw[iterPos_iter,iterPos_iter];omega
  ·have hnext:∀ty,(Instr.next (.pointer (some ⟨w5.heap.size,0,none⟩)) true ty).run Tryz.prog (w5.iter ⟨ds.toArray⟩ k) = .ok (.tuple #[.bool false]) (w5.iter ⟨ds.toArray⟩ k):=fun ty =>
    run_next_end (P:=Tryz.prog) w5 ⟨ds.toArray⟩ k ty (by rw[bs_size];exact hlt)
   go_wp2_with (fail)
   have hkz:KeptX R w (w5.iter ⟨ds.toArray⟩ k):=hkk.alloc _
   have hrz:RD (w5.iter ⟨ds.toArray⟩ k) R t (Sp.dgR l.tail) tw dp fr:=hr5.alloc _
   have hmz:Sp.exNum ds 0=m:=by rw[unhide HE,List.drop_eq_nil_of_le (by omega)];rfl
   go_ret2
   refine⟨hkz,?_⟩
   cases b with
   | false=>exact Or.inl ⟨_,_,by rw[unhide hE,if_neg (by intro h;rw[h] at hem;cases hem),hmz],rfl,hrz⟩
   | true=>exact Or.inr ⟨by rw[unhide hE,if_pos (by simpa using hem)],_,_,rfl,hrz⟩
theorem exp_none {w:World} {R:Nat} {t:ByteArray} {l:Sp.By} {tw:Bool} {dp fr:Int} (h:RD w R t l tw dp fr) (k0:Sp.tk l 101=false) (k1:Sp.tk l 69=false) :
  Calls Tryz.prog 224 #[.pointer (some ⟨R,0,none⟩)] w fun e w'=>KeptX R w w'∧expEnd (Sp.expo l) e w' R t tw dp fr:=by
 have hE:Hid (Sp.expo l=some (0,l)):=by unfold Hid Sp.expo;simp[k0,k1]
 have K0:=hide k0
 have K1:=hide k1
 clear k0 k1
 go_enter Tryz.func224,Tryz.ntmps224
 go_wp2_with (fail)
 refine (takeN 101 _ rfl h (unhide K0)).mono ?_
 rintro e w1 ⟨rfl,hr1,hk1⟩
 go_wp2_with (fail)
 refine (takeN 69 _ rfl hr1 (unhide K1)).mono ?_
 rintro e w2 ⟨rfl,hr2,hk2⟩
 go_wp2_with (fail)
 go_ret2
 exact⟨hk1.trans hk2,Or.inl ⟨0,l,unhide hE,rfl,hr2⟩⟩
theorem exponent_any {w:World} {R:Nat} {t:ByteArray} {l:Sp.By} {tw:Bool} {dp fr:Int} (h:RD w R t l tw dp fr) :
  Calls Tryz.prog 224 #[.pointer (some ⟨R,0,none⟩)] w fun e w'=>KeptX R w w'∧expEnd (Sp.expo l) e w' R t tw dp fr:=by
 by_cases k0:Sp.tk l 101=true
 ·by_cases k2:Sp.tk l.tail 45=true
  ·exact exp_e1 h k0 k2
  ·by_cases k3:Sp.tk l.tail 43=true
   ·exact exp_e2 h k0 (tk_false k2) k3
   ·exact exp_e3 h k0 (tk_false k2) (tk_false k3)
 ·by_cases k1:Sp.tk l 69=true
  ·by_cases k2:Sp.tk l.tail 45=true
   ·exact exp_f1 h (tk_false k0) k1 k2
   ·by_cases k3:Sp.tk l.tail 43=true
    ·exact exp_f2 h (tk_false k0) k1 (tk_false k2) k3
    ·exact exp_f3 h (tk_false k0) k1 (tk_false k2) (tk_false k3)
  ·exact exp_none h (tk_false k0) (tk_false k1)
end Go.Proofs.YtdpomdelmdofmaaGreatDoor

set_option maxHeartbeats 2000000
namespace Go.Proofs.YtdpomdelmdofmaaGreatDoor
open Go.RowKit
def numV (n:Sp.Nm):Value:=.agg #[.bool n.1,.string ⟨n.2.1.toArray⟩,.int .i64 n.2.2]
theorem Clone_any (s:ByteArray) (w:World) (hlim:s.size≤281474976710656) :
  Calls Tryz.prog 265 #[.string s] w fun e w'=>e = .returned (.string s)∧Below w.heap.size w w':=by
 go_enter Tryz.func265,Tryz.ntmps265
 go_wp2_with (fail)
 refine (Tryz.stringslite_Clone s _ hlim).mono ?_
 rintro e w1 ⟨rfl,hb⟩
 go_wp2_with (fail)
 go_ret
 exact⟨rfl,hb⟩
theorem trimL_len (l:Sp.By) (c:UInt8):(Lib.trimLeftB l c).length≤l.length:=by
 unfold Lib.trimLeftB;exact (List.dropWhile_sublist _).length_le
theorem trimR_len (l:Sp.By) (c:UInt8):(Lib.trimRightB l c).length≤l.length:=by
 unfold Lib.trimRightB;rw[List.length_reverse];exact Nat.le_trans (List.dropWhile_sublist _).length_le (by simp)
theorem MakeNumber_any (ng:Bool) (ds:Sp.By) (ex:Int) (w:World) (h0:-10000000≤ex) (h1:ex≤10000000) (hl:ds.length≤4000) :
  Calls Tryz.prog 225 #[.bool ng,.string ⟨ds.toArray⟩,.int .i64 ex] w fun e w'=>e = .returned (numV (Sp.mkNm ng ds ex))∧Below w.heap.size w w':=by
 have hq:Hid (Sp.mkNm ng ds ex=if Lib.trimRightB (Lib.trimLeftB ds 48) 48=[] then (false,[],0) else (ng,Lib.trimRightB (Lib.trimLeftB ds 48) 48,ex+(Lib.trimLeftB ds 48).length-(Lib.trimRightB (Lib.trimLeftB ds 48) 48).length)):=rfl
 have l1:=trimL_len ds 48
 have l2:=trimR_len (Lib.trimLeftB ds 48) 48
 have cL:∀W:World,Calls Tryz.prog 263 #[.string ⟨ds.toArray⟩,.string ⟨#[48]⟩] W fun e w'=>e = .returned (.string ⟨(Lib.trimLeftB ds 48).toArray⟩)∧w'=W:=fun W=>Tryz.strings_TrimLeft_one ⟨ds.toArray⟩ 48 (by decide) W
 have cR:∀W:World,Calls Tryz.prog 264 #[.string ⟨(Lib.trimLeftB ds 48).toArray⟩,.string ⟨#[48]⟩] W fun e w'=>e = .returned (.string ⟨(Lib.trimRightB (Lib.trimLeftB ds 48) 48).toArray⟩)∧w'=W:=fun W=>Tryz.strings_TrimRight_one ⟨(Lib.trimLeftB ds 48).toArray⟩ 48 (by decide) W (by rw[bs_size];omega)
 generalize Lib.trimRightB (Lib.trimLeftB ds 48) 48=wl at *
 generalize Lib.trimLeftB ds 48=dl at *
 have CL:=hide cL
 have CR:=hide cR
 clear cL cR
 by_cases hw:wl=[]
 ·have hr:Hid (Sp.mkNm ng ds ex=(false,[],0)):=by rw[Hid,unhide hq,if_pos hw]
  clear hq
  subst hw
  go_enter Tryz.func225,Tryz.ntmps225
  go_wp2_with (fail)
  refine (unhide CL _).mono ?_
  rintro e w' ⟨rfl,rfl⟩
  go_wp2_with (fail)
  refine (unhide CR _).mono ?_
  rintro e w' ⟨rfl,rfl⟩
  go_wp2_with (fail)
  rw[unhide hr]
  refine bodyPost_ret (v:=numV (false,[],0)) (by simp[results,Tryz.results225,go_sem,numV]) rfl ⟨rfl,?_⟩
  exact (Below.refl _ _).alloc (Nat.le_refl _) _
 ·have he:=empty_no hw
  have hr:Hid (Sp.mkNm ng ds ex=(ng,wl,ex+dl.length-wl.length)):=by rw[Hid,unhide hq,if_neg hw]
  clear hq hw
  go_enter Tryz.func225,Tryz.ntmps225
  go_wp2_with (fail)
  refine (unhide CL _).mono ?_
  rintro e w' ⟨rfl,rfl⟩
  go_wp2_with (fail)
  refine (unhide CR _).mono ?_
  rintro e w' ⟨rfl,rfl⟩
  go_wp2_with (fail)
  refine (Clone_any _ _ (by rw[bs_size];omega)).mono ?_
  rintro e w2 ⟨rfl,hb⟩
  have g0:w2.cell? ⟨w.heap.size,0,none⟩=some (.bool false):=(hb.cell (p:=⟨w.heap.size,0,none⟩) (by simp)).trans (by simp)
  have g1:w2.cell? ⟨w.heap.size,1,none⟩=some (.string ⟨#[]⟩):=(hb.cell (p:=⟨w.heap.size,1,none⟩) (by simp)).trans (by simp)
  have g2:w2.cell? ⟨w.heap.size,2,none⟩=some (.int .i64 0):=(hb.cell (p:=⟨w.heap.size,2,none⟩) (by simp)).trans (by simp)
  have hf:∀j,w2.frozen? ⟨w.heap.size,j,none⟩=(w.alloc (.cells #[.bool false,.string ⟨#[]⟩,.int .i64 0] 108)).frozen? ⟨w.heap.size,j,none⟩:=fun j=>hb.frozen (p:=⟨w.heap.size,j,none⟩) (by simp)
  go_wp2_with (fail)
  rw[unhide hr]
  refine bodyPost_ret (v:=numV (ng,wl,ex+dl.length-wl.length)) (by simp[results,Tryz.results225,go_sem,numV,g0,g1,g2]) rfl ⟨rfl,?_⟩
  exact ((((Below.refl w.heap.size w).alloc (Nat.le_refl _) _).trans (hb.mono (by simp))).setCell (by simp) _ |>.setCell (by simp) _).setCell (by simp) _
end Go.Proofs.YtdpomdelmdofmaaGreatDoor

namespace Go.Proofs.YtdpomdelmdofmaaGreatDoor
open Go.RowKit
theorem expo_bd {l:Sp.By} {n:Int} {r:Sp.By} (h:Sp.expo l=some (n,r)):-1000000≤n∧n≤1000000:=by
 unfold Sp.expo at h
 have b:=fun l'=>exNum_bd (Sp.dg l') (dg_all l') 0 (by omega) (by omega)
 have b1:=b l.tail
 have b2:=b l.tail.tail
 split at h
 ·split at h
  ·split at h
   ·cases h
   ·injection h with h;injection h with h h';omega
  ·split at h
   ·split at h
    ·cases h
    ·injection h with h;injection h with h h';omega
   ·split at h
    ·cases h
    ·injection h with h;injection h with h h';omega
 ·injection h with h;injection h with h h';omega
def numEnd (o:Option (Sp.Nm×Sp.By)) (e:Ending) (w':World) (R:Nat) (t:ByteArray) (tw:Bool) (dp fr:Int):Prop :=
 (∃n l',o=some (n,l')∧e = .returned (.tuple #[numV n,.bool true])∧RD w' R t l' tw dp (max (max fr n.2.2) (-n.2.2))) ∨
  (o=none∧e = .returned (.tuple #[numV (false,[],0),.bool false]) ∧ ∃l',RD w' R t l' tw dp fr)
theorem dg_cons {l:Sp.By} {d:UInt8} {ds:Sp.By} (h:Sp.dg l=d::ds) (c:UInt8):Sp.tk l c=(d == c):=by
 cases l with
 | nil=>simp[Sp.dg] at h
 | cons a r =>
  unfold Sp.dg at h
  split at h
  ·injection h with h1 h2;subst h1;rfl
  ·cases h
theorem first48 (d:UInt8) (ds:Sp.By) (h:0<(⟨(d::ds).toArray⟩:ByteArray).size):(((⟨(d::ds).toArray⟩:ByteArray)[0]'h).toNat:Int)=(d.toNat:Int):=by
 simp[ByteArray.getElem_eq_getElem_data]
theorem first_pos (d:UInt8) (ds:Sp.By):0<(⟨(d::ds).toArray⟩:ByteArray).size:=by rw[bs_size];simp
theorem frac_len {l f r:Sp.By} (h:Sp.frac l=some (f,r)):f.length+r.length≤l.length:=by
 unfold Sp.frac at h
 have b:=dg_len l.tail
 split at h
 ·rename_i k
  have:=tk_cons k
  split at h
  ·cases h
  ·injection h with h;injection h with h h';subst h h';omega
 ·injection h with h;injection h with h h';subst h h';simp
theorem num_fin {w:World} {R q:Nat} {t:ByteArray} {tw:Bool} {dp fr:Int} (h:RP w R t q tw dp fr) (o:Obj) (v v':Int) (x y z:Value) (b:Nat) (hb:b≠R) (hv:v=v') :
  RP ((((((w.alloc o).setCell ⟨R,4,none⟩ (.int .i64 v)).setCell ⟨b,0,none⟩ x).setCell ⟨b,1,none⟩ y).setCell ⟨b,2,none⟩ z).drew) R t q tw dp v':=by
 subst hv
 have h1:=(h.alloc o).set4 v
 exact ((h1.kept ((((KeptX.refl b _).setCell (p:=⟨b,0,none⟩) rfl x).setCell (p:=⟨b,1,none⟩) rfl y).setCell (p:=⟨b,2,none⟩) rfl z) (by omega))).drew
theorem mkNm_bd (ng:Bool) (ds:Sp.By) (e:Int):(Sp.mkNm ng ds e).2.2=0∨(e≤(Sp.mkNm ng ds e).2.2∧(Sp.mkNm ng ds e).2.2≤e+ds.length):=by
 unfold Sp.mkNm
 have h1:=trimL_len ds 48
 have h2:=trimR_len (Lib.trimLeftB ds 48) 48
 simp only
 split
 ·left;rfl
 ·right;simp only;omega
def Slot (w:World) (b:Nat):Prop:=w.heap[b]? = some (.cells #[.bool false,.string ⟨#[]⟩,.int .i64 0] 108 (0,0))
section
variable {w:World} {b:Nat}
theorem Slot.c0 (h:Slot w b):w.cell? ⟨b,0,none⟩=some (.bool false):=by simp[World.cell?,show w.heap[b]? = _ from h]
theorem Slot.c1 (h:Slot w b):w.cell? ⟨b,1,none⟩=some (.string ⟨#[]⟩):=by simp[World.cell?,show w.heap[b]? = _ from h]
theorem Slot.c2 (h:Slot w b):w.cell? ⟨b,2,none⟩=some (.int .i64 0):=by simp[World.cell?,show w.heap[b]? = _ from h]
theorem Slot.fz (h:Slot w b) (o:Nat):w.frozen? ⟨b,o,none⟩=false:=by simp[World.frozen?,show w.heap[b]? = _ from h]
theorem Slot.kept {X:Nat} {w':World} (h:Slot w b) (hk:KeptX X w w') (hx:b≠X):Slot w' b:=(hk.block b (Array.getElem?_eq_some_iff.1 h).1 hx).trans h
theorem Slot.new (w:World):Slot (w.alloc (.cells #[.bool false,.string ⟨#[]⟩,.int .i64 0] 108)) w.heap.size:=by
 show (w.heap.push _)[w.heap.size]? = _
 simp
end
end Go.Proofs.YtdpomdelmdofmaaGreatDoor

namespace Go.Proofs.YtdpomdelmdofmaaGreatDoor.Sp
abbrev V:=DataW Unit
def vWord (k:Nat):V:=.lit (.int .i64 k)
def vNum (n:Nm):V:=.agg [.lit (.bool n.1),.lit (.string n.2.1),.lit (.int .i64 n.2.2)]
def vStr (s:By):V:=.lit (.string s)
def vArr (es:List V):V:=.slice es []
def vObj (es:List (Lit×V)):V:=.map es
abbrev Fl:=Bool×Int×Int
def words:List By:=[[110,117,108,108],[116,114,117,101],[102,97,108,115,101]]
def wordIn (l:By):Nat→List By→Option (Nat×By)
 | _,[]=>none
 | k,x::r=>if Lib.hasPrefix l x then some (k,l.drop x.length) else wordIn l (k+1) r
def lst {σ:Type} (cl:UInt8) (item:By→σ→Option (By×σ)):Nat→By→σ→Option (By×σ)
 | 0,_,_=>none
 | n+1,l,s=>match item (skB l) s with
  | none=>none
  | some (l1,s1)=>if tk (skB l1) cl then some ((skB l1).tail,s1) else if tk (skB l1) 44 then lst cl item n (skB l1).tail s1 else none
def lstAll {σ:Type} (op cl:UInt8) (item:By→σ→Option (By×σ)) (l:By) (s:σ):Option (By×σ) :=
 if tk l op then (if tk (skB l.tail) cl then some ((skB l.tail).tail,s) else lst cl item ((skB l.tail).length+1) (skB l.tail) s) else none
def elem (rd:By→Fl→Option (V×By×Fl)) (l:By) (s:List V×Fl):Option (By×(List V×Fl)) :=
 match rd l s.2 with
 | none=>none
 | some (v,r,fl)=>some (r,(s.1++[v],fl))
def memb (rd:By→Fl→Option (V×By×Fl)) (l:By) (s:V×Fl):Option (By×(V×Fl)) :=
 match quo l with
 | none=>none
 | some (k,l1)=>if tk (skB l1) 58 then (match rd (skB (skB l1).tail) s.2 with
  | none=>none
  | some (v,r,fl)=>some (r,(DataW.put s.1 (.string k) v,(fl.1 || Maps.has s.1 (.string k),fl.2)))) else none
def val:Nat→Int→By→Fl→Option (V×By×Fl)
 | 0,_,_,_=>none
 | f+1,lv,l,fl =>
  if pk l=123 then (match lstAll 123 125 (memb (val f (lv+1))) l (vObj [],(fl.1,(max fl.2.1 lv,fl.2.2))) with
   | none=>none
   | some (r,(v,fl'))=>some (v,r,fl'))
  else if pk l=91 then (match lstAll 91 93 (elem (val f (lv+1))) l ([],(fl.1,(max fl.2.1 lv,fl.2.2))) with
   | none=>none
   | some (r,(es,fl'))=>some (vArr es,r,fl'))
  else if pk l=34 then (match quo l with
   | none=>none
   | some (s,r)=>some (vStr s,r,(fl.1,(max fl.2.1 lv,fl.2.2))))
  else if pk l=45∨(48≤pk l∧pk l≤57) then (match num l with
   | none=>none
   | some (n,r)=>some (vNum n,r,(fl.1,(max fl.2.1 lv,max (max fl.2.2 n.2.2) (-n.2.2)))))
  else match wordIn l 0 words with
   | none=>none
   | some (k,r)=>some (vWord k,r,(fl.1,(max fl.2.1 lv,fl.2.2)))
theorem skB_len (l:By):(skB l).length≤l.length:=by
 induction l with
 | nil=>simp[skB]
 | cons c r ih =>
  unfold skB
  split
  ·simp;omega
  ·simp
theorem wordIn_len (l:By) (ws:List By) (hw:∀x∈ws,x≠[]):∀ (k n:Nat) (r:By),wordIn l k ws=some (n,r)→r.length<l.length:=by
 induction ws with
 | nil=>intro k n r h;cases h
 | cons x ws ih =>
  intro k n r h
  unfold wordIn at h
  split at h
  ·rename_i hp
   unfold Lib.hasPrefix at hp
   have h3:=(List.isPrefixOf_iff_prefix.1 hp).length_le
   have h4:0<x.length:=List.length_pos_iff.2 (hw x (by simp))
   injection h with h;injection h with h1 h2;subst h2;simp;omega
  ·exact ih (fun y hy=>hw y (by simp[hy])) _ _ _ h
theorem chrs_len (f:Nat):∀ (l s r:By),chrs f l=some (s,r)→r.length≤l.length:=by
 induction f with
 | zero=>intro l s r h;cases h
 | succ f ih =>
  intro l s r h
  unfold chrs at h
  split at h
  ·injection h with h;injection h with h1 h2;subst h2;simp
  ·split at h
   ·cases h
   ·rename_i c r1 hc
    have:=chr_len hc
    split at h
    ·cases h
    ·rename_i s1 r2 hx
     have h3:=ih _ _ _ hx
     injection h with h;injection h with h1 h2;subst h2;omega
theorem quo_len {l s r:By} (h:quo l=some (s,r)):r.length<l.length:=by
 unfold quo at h
 split at h
 ·rename_i k
  have:=tk_cons k
  have:=chrs_len _ _ _ _ h
  omega
 ·cases h
theorem lst_len {σ:Type} (cl:UInt8) (item:By→σ→Option (By×σ)) (hi:∀l s l' s',item l s=some (l',s')→l'.length<l.length) (n:Nat):∀ (l:By) (s:σ) (r:By) (s':σ),lst cl item n l s=some (r,s')→r.length<l.length:=by
 induction n with
 | zero=>intro l s r s' h;cases h
 | succ n ih =>
  intro l s r s' h
  unfold lst at h
  split at h
  ·cases h
  ·rename_i l1 s1 h1
   have a:=hi _ _ _ _ h1
   have b:=skB_len l
   have c:=skB_len l1
   split at h
   ·rename_i k
    have:=tk_cons k
    injection h with h;injection h with h2 h3;subst h2;omega
   ·split at h
    ·rename_i k
     have:=tk_cons k
     have:=ih _ _ _ _ h
     omega
    ·cases h
theorem lstAll_len {σ:Type} {op cl:UInt8} {item:By→σ→Option (By×σ)} (hi:∀l s l' s',item l s=some (l',s')→l'.length<l.length) {l:By} {s:σ} {r:By} {s':σ} (h:lstAll op cl item l s=some (r,s')):r.length<l.length:=by
 unfold lstAll at h
 split at h
 ·rename_i k
  have:=tk_cons k
  have b:=skB_len l.tail
  split at h
  ·rename_i k2
   have:=tk_cons k2
   injection h with h;injection h with h2 h3;subst h2;omega
  ·have:=lst_len cl item hi _ _ _ _ _ h
   omega
 ·cases h
theorem num_len {l:By} {n:Nm} {r:By} (h:num l=some (n,r)):r.length<l.length:=by
 have hf:∀ {l:By} {n r},expo l=some (n,r)→r.length≤l.length:=by
  intro l n r h
  unfold expo at h
  have a:=dg_len l.tail
  have b:=dg_len l.tail.tail
  have c:=List.length_tail (l:=l)
  have d:=List.length_tail (l:=l.tail)
  repeat' split at h
  all_goals first|(injection h with h;injection h with h1 h2;subst h2;omega)|cases h
 have hb:∀ {b:Bool} {l:By} {n r},numB b l=some (n,r)→r.length<l.length:=by
  intro b l n r h
  unfold numB at h
  have a:=dg_len l
  split at h
  ·cases h
  ·rename_i hne
   have hne2:0<(dg l).length:=by
    apply List.length_pos_iff.2;intro e;rw[e] at hne;simp at hne
   split at h
   ·cases h
   ·rename_i f r1 h1
    have:=frac_len h1
    split at h
    ·cases h
    ·rename_i e r2 h2
     have:=hf h2
     injection h with h;injection h with h3 h4;subst h4;omega
 unfold num at h
 split at h
 ·have:=hb h;have:=List.length_tail (l:=l);omega
 ·exact hb h
theorem val_len (f:Nat):∀ (lv:Int) (l:By) (fl:Fl) (v:V) (r:By) (fl':Fl),val f lv l fl=some (v,r,fl')→r.length<l.length:=by
 induction f with
 | zero=>intro lv l fl v r fl' h;cases h
 | succ f ih =>
  intro lv l fl v r fl' h
  unfold val at h
  have he:∀l s l' s',elem (val f (lv+1)) l s=some (l',s')→l'.length<l.length:=by
   intro l s l' s' h
   unfold elem at h
   split at h
   ·cases h
   ·rename_i v r fl hv
    have:=ih _ _ _ _ _ _ hv
    injection h with h;injection h with h1 h2;subst h1;exact this
  have hm:∀l s l' s',memb (val f (lv+1)) l s=some (l',s')→l'.length<l.length:=by
   intro l s l' s' h
   unfold memb at h
   split at h
   ·cases h
   ·rename_i k l1 hq
    have a:=quo_len hq
    have b:=skB_len l1
    split at h
    ·have c:=skB_len (skB l1).tail
     have d:=List.length_tail (l:=skB l1)
     split at h
     ·cases h
     ·rename_i v r fl hv
      have:=ih _ _ _ _ _ _ hv
      injection h with h;injection h with h1 h2;subst h1;omega
    ·cases h
  split at h
  ·split at h
   ·cases h
   ·rename_i h1
    have:=lstAll_len hm h1
    injection h with h;injection h with h2 h3;injection h3 with h3 h4;subst h3;omega
  ·split at h
   ·split at h
    ·cases h
    ·rename_i h1
     have:=lstAll_len he h1
     injection h with h;injection h with h2 h3;injection h3 with h3 h4;subst h3;omega
   ·split at h
    ·split at h
     ·cases h
     ·rename_i h1
      have:=quo_len h1
      injection h with h;injection h with h2 h3;injection h3 with h3 h4;subst h3;omega
    ·split at h
     ·split at h
      ·cases h
      ·rename_i h1
       have:=num_len h1
       injection h with h;injection h with h2 h3;injection h3 with h3 h4;subst h3;omega
     ·split at h
      ·cases h
      ·rename_i h1
       have:=wordIn_len _ _ (by decide) _ _ _ h1
       injection h with h;injection h with h2 h3;injection h3 with h3 h4;subst h3;omega
end Go.Proofs.YtdpomdelmdofmaaGreatDoor.Sp

namespace Go.Proofs.YtdpomdelmdofmaaGreatDoor
open Go.RowKit
def RV (v:Value):Option (DataW Value×List MemPlace):=some (.held v,[])
def VB (w:World) (b:Nat) (k:Int) (n:Sp.Nm) (s:Sp.By) (sl mp:Value):Prop :=
 w.heap[b]? = some (.cells #[.int .i64 k,.bool n.1,.string ⟨n.2.1.toArray⟩,.int .i64 n.2.2,.string ⟨s.toArray⟩,sl,mp] 111 (0,0))
abbrev n0:Sp.Nm:=(false,[],0)
def Al {α β:Type} (P:α→β→Prop):List α→List β→Prop
 | [],[]=>True
 | a::r,b::s=>P a b∧Al P r s
 | _,_=>False
def Pt (P:Value→Sp.V→Prop):List (Lit×DataW Value)→List (Lit×Sp.V)→Prop
 | [],[]=>True
 | a::r,b::s=>(a.1=b.1 ∧ ∃x,a.2 = .held x∧P x b.2)∧Pt P r s
 | _,_=>False
def Rep:Nat→(Nat→Prop)→World→Value→Sp.V→Prop
 | 0,_,_,_,_=>False
 | f+1,F,w,v,d=>∃b,v = .pointer (some ⟨b,0,none⟩)∧F b ∧
  ((∃k:Nat,k<3∧d=Sp.vWord k∧VB w b k n0 [] (.slice none 0 0) (.map none)) ∨
   (∃n,d=Sp.vNum n∧VB w b 3 n [] (.slice none 0 0) (.map none) ∧ -100000000≤n.2.2∧n.2.2≤100000000) ∨
   (∃s,d=Sp.vStr s∧VB w b 4 n0 s (.slice none 0 0) (.map none)) ∨
   (∃es sl ps,d=Sp.vArr es∧VB w b 5 n0 [] sl (.map none)∧w.ownsRow 0 80 1 sl ps.length ps∧(∀g,sl.ownBlock=some g→F g)∧Al (Rep f F w) ps es) ∨
   (∃es m n D,d=Sp.vObj es∧VB w b 6 n0 [] (.slice none 0 0) (.map (some m))∧F m∧w.ownsMap Tryz.prog 9 RV m n (.map D)∧Pt (Rep f F w) D es))
theorem Al.mono {α β:Type} {P Q:α→β→Prop} (h:∀a b,P a b→Q a b):∀ {l:List α} {m:List β},Al P l m→Al Q l m
 | [],[],_=>trivial
 | _::_,_::_,⟨a,b⟩=>⟨h _ _ a,Al.mono h b⟩
theorem Al.snoc {α β:Type} {P:α→β→Prop} {a:α} {b:β} (h:P a b):∀ {l:List α} {m:List β},Al P l m→Al P (l++[a]) (m++[b])
 | [],[],_=>⟨h,trivial⟩
 | _::_,_::_,⟨c,d⟩=>⟨c,Al.snoc h d⟩
theorem Al.length {α β:Type} {P:α→β→Prop}:∀ {l:List α} {m:List β},Al P l m→l.length=m.length
 | [],[],_=>rfl
 | _::_,_::_,⟨_,d⟩=>congrArg (· + 1) (Al.length d)
theorem Al.get {α β:Type} {P:α→β→Prop}:∀ {l:List α} {m:List β},Al P l m → ∀ (i:Nat) (hi:i<l.length) (hj:i<m.length),P l[i] m[i]
 | _::_,_::_,⟨c,_⟩,0,_,_=>c
 | _::_,_::_,⟨_,d⟩,i+1,hi,hj=>Al.get d i (by simpa using hi) (by simpa using hj)
theorem Pt.mono {P Q:Value→Sp.V→Prop} (h:∀a b,P a b→Q a b):∀ {l:List (Lit×DataW Value)} {m:List (Lit×Sp.V)},Pt P l m→Pt Q l m
 | [],[],_=>trivial
 | _::_,_::_,⟨⟨k,x,e,a⟩,b⟩=>⟨⟨k,x,e,h _ _ a⟩,Pt.mono h b⟩
theorem Pt.filter {P:Value→Sp.V→Prop} (c:Lit→Bool):∀ {l:List (Lit×DataW Value)} {m:List (Lit×Sp.V)},Pt P l m→Pt P (l.filter fun p=>c p.1) (m.filter fun p=>c p.1)
 | [],[],_=>trivial
 | a::r,b::s,⟨⟨k,x,e,h⟩,t⟩=>by
  simp only[List.filter_cons]
  rw[k]
  split
  ·exact⟨⟨k,x,e,h⟩,Pt.filter c t⟩
  ·exact Pt.filter c t
theorem Pt.insert {P:Value→Sp.V→Prop} (k:Lit) (x:Value) (v:Sp.V) (h:P x v):∀ {l:List (Lit×DataW Value)} {m:List (Lit×Sp.V)},Pt P l m→Pt P (DataW.insert (k,.held x) l) (DataW.insert (k,v) m)
 | [],[],_=>⟨⟨rfl,x,rfl,h⟩,trivial⟩
 | a::r,b::s,⟨⟨kk,y,e,g⟩,t⟩=>by
  simp only[DataW.insert]
  rw[kk]
  split
  ·exact⟨⟨rfl,x,rfl,h⟩,⟨kk,y,e,g⟩,t⟩
  ·exact⟨⟨kk,y,e,g⟩,Pt.insert k x v h t⟩
theorem Pt.has {P:Value→Sp.V→Prop} (k:Lit):∀ {l:List (Lit×DataW Value)} {m:List (Lit×Sp.V)},Pt P l m→Maps.has (.map l) k=Maps.has (.map m) k
 | [],[],_=>rfl
 | a::r,b::s,⟨⟨kk,_⟩,t⟩=>by
  have:=Pt.has k t
  simp only[Maps.has,List.any_cons] at this ⊢
  rw[kk,this]
theorem Pt.put {P:Value→Sp.V→Prop} (k:Lit) (x:Value) (v:Sp.V) (h:P x v) {l:List (Lit×DataW Value)} {m:List (Lit×Sp.V)} (t:Pt P l m) :
  ∃l' m',DataW.put (.map l) k (.held x) = .map l'∧DataW.put (.map m) k v = .map m'∧Pt P l' m' :=
 ⟨_,_,rfl,rfl,Pt.insert k x v h (Pt.filter (fun c=>!c.sameKey k) t)⟩
theorem owns_kept {w w':World} {B e n:Nat} {v:Value} {xs:List Value} (h:w.ownsRow B e 1 v n xs) (hk:∀g,v.ownBlock=some g→w'.heap[g]? = w.heap[g]?):w'.ownsRow B e 1 v n xs:=by
 refine⟨h.1,h.2.imp id ?_⟩
 rintro⟨g,cap,cur,h1,h2,h3,h4⟩
 exact⟨g,cap,cur,h1,h2,(hk g (by rw[h1];rfl)).trans h3,h4⟩
theorem owns_lt {w:World} {B e n:Nat} {v:Value} {xs:List Value} (h:w.ownsRow B e 1 v n xs) (g:Nat) (hg:v.ownBlock=some g):g<w.heap.size∧B≤g:=by
 rcases h.2 with⟨h1,_⟩|⟨g',cap,cur,h1,h2,h3,_⟩
 ·rw[h1] at hg;cases hg
 ·rw[h1] at hg;injection hg with hg;subst hg;exact⟨(Array.getElem?_eq_some_iff.1 h3).1,h2⟩
theorem map_lt {w:World} {m n:Nat} {D:DataW Value} (h:w.ownsMap Tryz.prog 9 RV m n D):m<w.heap.size:=by
 obtain⟨es,clock,hb,_⟩:=h;exact (Array.getElem?_eq_some_iff.1 hb).1
theorem map_kept {w w':World} {m n:Nat} {D:DataW Value} (h:w.ownsMap Tryz.prog 9 RV m n D) (hk:w'.heap[m]? = w.heap[m]?):w'.ownsMap Tryz.prog 9 RV m n D:=by
 obtain⟨es,clock,hb,r⟩:=h;exact⟨es,clock,hk.trans hb,r⟩
theorem VB.lt {w:World} {b:Nat} {k:Int} {n:Sp.Nm} {s:Sp.By} {sl mp:Value} (h:VB w b k n s sl mp):b<w.heap.size:=(Array.getElem?_eq_some_iff.1 h).1
theorem VB.kept {w w':World} {b:Nat} {k:Int} {n:Sp.Nm} {s:Sp.By} {sl mp:Value} (h:VB w b k n s sl mp) (hk:w'.heap[b]? = w.heap[b]?):VB w' b k n s sl mp:=hk.trans h
theorem Rep.move {F F':Nat→Prop} {w w':World} (hF:∀k,F k→k<w.heap.size→w'.heap[k]? = w.heap[k]? ∧ F' k):∀ {f:Nat} {v:Value} {d:Sp.V},Rep f F w v d→Rep f F' w' v d:=by
 intro f
 induction f with
 | zero=>intro v d h;exact h
 | succ f ih =>
  intro v d h
  obtain⟨b,hv,hb,h⟩:=h
  rcases h with⟨k,hk,hd,h⟩|⟨n,hd,h,hbd⟩|⟨s,hd,h⟩|⟨es,sl,ps,hd,h,ho,hs,ha⟩|⟨es,m,n,D,hd,h,hm,ho,hp⟩
  ·have g:=hF b hb h.lt
   exact⟨b,hv,g.2,Or.inl ⟨k,hk,hd,h.kept g.1⟩⟩
  ·have g:=hF b hb h.lt
   exact⟨b,hv,g.2,Or.inr (Or.inl ⟨n,hd,h.kept g.1,hbd⟩)⟩
  ·have g:=hF b hb h.lt
   exact⟨b,hv,g.2,Or.inr (Or.inr (Or.inl ⟨s,hd,h.kept g.1⟩))⟩
  ·have g:=hF b hb h.lt
   exact⟨b,hv,g.2,Or.inr (Or.inr (Or.inr (Or.inl ⟨es,sl,ps,hd,h.kept g.1,owns_kept ho (fun g' hg=>(hF g' (hs g' hg) (owns_lt ho g' hg).1).1),fun g' hg=>(hF g' (hs g' hg) (owns_lt ho g' hg).1).2,ha.mono (fun _ _=>ih)⟩)))⟩
  ·have g:=hF b hb h.lt
   have g2:=hF m hm (map_lt ho)
   exact⟨b,hv,g.2,Or.inr (Or.inr (Or.inr (Or.inr ⟨es,m,n,D,hd,h.kept g.1,g2.2,map_kept ho g2.1,hp.mono (fun _ _=>ih)⟩)))⟩
theorem Rep.ptr {f:Nat} {F:Nat→Prop} {w:World} {v:Value} {d:Sp.V} (h:Rep f F w v d):∃b,v = .pointer (some ⟨b,0,none⟩)∧b<w.heap.size∧F b:=by
 cases f with
 | zero=>exact h.elim
 | succ f =>
  obtain⟨b,hv,hb,h⟩:=h
  refine⟨b,hv,?_,hb⟩
  rcases h with⟨k,hk,hd,h⟩|⟨n,hd,h,hbd⟩|⟨s,hd,h⟩|⟨es,sl,ps,hd,h,ho,hs,ha⟩|⟨es,m,n,D,hd,h,hm,ho,hp⟩
  all_goals exact h.lt
end Go.Proofs.YtdpomdelmdofmaaGreatDoor
