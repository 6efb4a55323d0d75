/-
  Walk of the reader's exponent.
-/
import Derived.Test.YtdpomdelmdofmaaGreatDoorPart08
import Derived.Laws.RangeAny
import Derived.Test.YtdpomdelmdofmaaGreatDoorPart04
import Derived.BigRegion
namespace Go.Proofs.YtdpomdelmdofmaaGreatDoor
open Go.RowKit
def expEnd (o : Option (Int × Sp.By)) (e : Ending) (w' : World) (R : Nat) (t : ByteArray) (tw : Bool) (dp fr : Int) : Prop :=
 (∃ n l', o = some (n, l') ∧ e = .returned (.tuple #[.int .i64 n, .bool true]) ∧ RD w' R t l' tw dp fr) ∨
  (o = none ∧ ∃ n l', e = .returned (.tuple #[.int .i64 n, .bool false]) ∧ RD w' R t l' tw dp fr)
theorem iterPos_iter (w : World) (s : ByteArray) (k : Nat) : (w.iter s k).iterPos w.heap.size = k := by
 simp [World.iterPos, World.iter_heap]
set_option maxHeartbeats 2000000 in
theorem exp_e1 {w : World} {R : Nat} {t : ByteArray} {l : Sp.By} {tw : Bool} {dp fr : Int} (h : RD w R t l tw dp fr) (k1 : Sp.tk l 101 = true) (k2 : Sp.tk l.tail 45 = true) :
  Calls Tryz.prog 224 #[.pointer (some ⟨R, 0, none⟩)] w fun e w' => KeptX R w w' ∧ expEnd (Sp.expo l) e w' R t tw dp fr := by
 have K1 := hide k1
 have K2 := hide k2
 have hE : Hid (Sp.expo l = if Sp.dg l.tail.tail = [] then none else some (- Sp.exNum (Sp.dg l.tail.tail) 0, Sp.dgR l.tail.tail)) := by
  unfold Hid Sp.expo; simp [k1, k2]
 obtain ⟨b, hem⟩ : ∃ b, (Sp.dg l.tail.tail).isEmpty = b := ⟨_, rfl⟩
 have hall := hide (dg_all l.tail.tail)
 clear k1 k2
 go_enter Tryz.func224, Tryz.ntmps224
 go_wp2_with (fail)
 refine (take_yes 101 _ rfl h (unhide K1)).mono ?_
 rintro e w1 ⟨rfl, hr1, hk1⟩
 go_wp2_with (fail)
 refine (take_yes 45 _ rfl hr1 (unhide K2)).mono ?_
 rintro e w2 ⟨rfl, hr2, hk2⟩
 go_wp2_with (fail)
 refine (digits_any hr2).mono ?_
 rintro e w3 ⟨rfl, hr3, hk3⟩
 have hkk := ((hk1.trans hk2).trans hk3)
 go_wp2_with (fail)
 generalize hds : Sp.dg l.tail.tail = ds at *
 clear h hr1 hr2 hds
 go_loopw [6] (fun n wr => ∃ (k : Nat) (m : Int), k ≤ ds.length ∧ n = .int .i64 m ∧ 0 ≤ m ∧ m ≤ 1000000 ∧ wr = w3.iter ⟨ds.toArray⟩ k ∧ Sp.exNum ds 0 = Sp.exNum (ds.drop k) m) (fun _ wr => ds.length - wr.iterPos w3.heap.size)
 case atStart => exact ⟨0, 0, by omega, rfl, by omega, by omega, rfl, rfl⟩
 case round =>
  obtain ⟨k, m, hk, rfl, hm0, hm1, rfl, he⟩ := hrel
  have HE := hide he
  clear he
  by_cases hlt : k < ds.length
  ·have hlt2 : k < (⟨ds.toArray⟩ : ByteArray).size := by rw [bs_size]; exact hlt
   have hc := unhide hall ds[k] (List.getElem_mem hlt)
   have hbyte : ((⟨ds.toArray⟩ : ByteArray)[k]'hlt2) = ds[k] := by simp [ByteArray.getElem_eq_getElem_data]
   have hnext : ∀ ty, (Instr.next (.pointer (some ⟨w3.heap.size, 0, none⟩)) true ty).run Tryz.prog (w3.iter ⟨ds.toArray⟩ k) = .ok (.tuple #[.bool true, .int .i64 k, .int .i32 ds[k].toNat]) (w3.iter ⟨ds.toArray⟩ (k + 1)) := fun ty => by
    have := run_next_ascii (P := Tryz.prog) w3 ⟨ds.toArray⟩ k ty hlt2 (by rw [hbyte]; omega)
    rw [hbyte] at this; exact this
   have hstep : Hid (Sp.exNum (ds.drop k) m = Sp.exNum (ds.drop (k + 1)) (min (10 * m + ((ds[k].toNat : Int) - 48)) 1000000)) := by
    unfold Hid; rw [List.drop_eq_getElem_cons hlt]; rfl
   generalize hcc : ds[k].toNat = c at *
   have HC := hide hcc
   clear hcc hbyte
   go_wp2_with (fail)
   go_roundw
   case rel => exact ⟨k + 1, _, by omega, rfl, by omega, by omega, rfl, (unhide HE).trans (unhide hstep)⟩
   case measure => rw [iterPos_iter, iterPos_iter]; omega
  ·have hnext : ∀ ty, (Instr.next (.pointer (some ⟨w3.heap.size, 0, none⟩)) true ty).run Tryz.prog (w3.iter ⟨ds.toArray⟩ k) = .ok (.tuple #[.bool false]) (w3.iter ⟨ds.toArray⟩ k) := fun ty =>
    run_next_end (P := Tryz.prog) w3 ⟨ds.toArray⟩ k ty (by rw [bs_size]; exact hlt)
   go_wp2_with (fail)
   have hkz : KeptX R w (w3.iter ⟨ds.toArray⟩ k) := hkk.alloc _
   have hrz : RD (w3.iter ⟨ds.toArray⟩ k) R t (Sp.dgR l.tail.tail) tw dp fr := hr3.alloc _
   have hmz : Sp.exNum ds 0 = m := by rw [unhide HE, List.drop_eq_nil_of_le (by omega)]; rfl
   go_ret2
   refine ⟨hkz, ?_⟩
   cases b with
   | false => exact Or.inl ⟨_, _, by rw [unhide hE, if_neg (by intro h; rw [h] at hem; cases hem), hmz], rfl, hrz⟩
   | true => exact Or.inr ⟨by rw [unhide hE, if_pos (by simpa using hem)], _, _, rfl, hrz⟩
set_option maxHeartbeats 2000000 in
theorem exp_e2 {w : World} {R : Nat} {t : ByteArray} {l : Sp.By} {tw : Bool} {dp fr : Int} (h : RD w R t l tw dp fr) (k1 : Sp.tk l 101 = true) (k2 : Sp.tk l.tail 45 = false) (k3 : Sp.tk l.tail 43 = true) :
  Calls Tryz.prog 224 #[.pointer (some ⟨R, 0, none⟩)] w fun e w' => KeptX R w w' ∧ expEnd (Sp.expo l) e w' R t tw dp fr := by
 have K1 := hide k1
 have K2 := hide k2
 have K3 := hide k3
 have hE : Hid (Sp.expo l = if Sp.dg l.tail.tail = [] then none else some (Sp.exNum (Sp.dg l.tail.tail) 0, Sp.dgR l.tail.tail)) := by
  unfold Hid Sp.expo; simp [k1, k2, k3]
 obtain ⟨b, hem⟩ : ∃ b, (Sp.dg l.tail.tail).isEmpty = b := ⟨_, rfl⟩
 have hall := hide (dg_all l.tail.tail)
 clear k1 k2 k3
 go_enter Tryz.func224, Tryz.ntmps224
 go_wp2_with (fail)
 refine (take_yes 101 _ rfl h (unhide K1)).mono ?_
 rintro e w1 ⟨rfl, hr1, hk1⟩
 go_wp2_with (fail)
 refine (takeN 45 _ rfl hr1 (unhide K2)).mono ?_
 rintro e w2 ⟨rfl, hr2, hk2⟩
 go_wp2_with (fail)
 refine (take_yes 43 _ rfl hr2 (unhide K3)).mono ?_
 rintro e w3 ⟨rfl, hr3, hk3⟩
 go_wp2_with (fail)
 refine (digits_any hr3).mono ?_
 rintro e w4 ⟨rfl, hr4, hk4⟩
 have hkk := (((hk1.trans hk2).trans hk3).trans hk4)
 go_wp2_with (fail)
 generalize hds : Sp.dg l.tail.tail = ds at *
 clear h hr1 hr2 hr3 hds
 go_loopw [6] (fun n wr => ∃ (k : Nat) (m : Int), k ≤ ds.length ∧ n = .int .i64 m ∧ 0 ≤ m ∧ m ≤ 1000000 ∧ wr = w4.iter ⟨ds.toArray⟩ k ∧ Sp.exNum ds 0 = Sp.exNum (ds.drop k) m) (fun _ wr => ds.length - wr.iterPos w4.heap.size)
 case atStart => exact ⟨0, 0, by omega, rfl, by omega, by omega, rfl, rfl⟩
 case round =>
  obtain ⟨k, m, hk, rfl, hm0, hm1, rfl, he⟩ := hrel
  have HE := hide he
  clear he
  by_cases hlt : k < ds.length
  ·have hlt2 : k < (⟨ds.toArray⟩ : ByteArray).size := by rw [bs_size]; exact hlt
   have hc := unhide hall ds[k] (List.getElem_mem hlt)
   have hbyte : ((⟨ds.toArray⟩ : ByteArray)[k]'hlt2) = ds[k] := by simp [ByteArray.getElem_eq_getElem_data]
   have hnext : ∀ ty, (Instr.next (.pointer (some ⟨w4.heap.size, 0, none⟩)) true ty).run Tryz.prog (w4.iter ⟨ds.toArray⟩ k) = .ok (.tuple #[.bool true, .int .i64 k, .int .i32 ds[k].toNat]) (w4.iter ⟨ds.toArray⟩ (k + 1)) := fun ty => by
    have := run_next_ascii (P := Tryz.prog) w4 ⟨ds.toArray⟩ k ty hlt2 (by rw [hbyte]; omega)
    rw [hbyte] at this; exact this
   have hstep : Hid (Sp.exNum (ds.drop k) m = Sp.exNum (ds.drop (k + 1)) (min (10 * m + ((ds[k].toNat : Int) - 48)) 1000000)) := by
    unfold Hid; rw [List.drop_eq_getElem_cons hlt]; rfl
   generalize hcc : ds[k].toNat = c at *
   have HC := hide hcc
   clear hcc hbyte
   go_wp2_with (fail)
   go_roundw
   case rel => exact ⟨k + 1, _, by omega, rfl, by omega, by omega, rfl, (unhide HE).trans (unhide hstep)⟩
   case measure => rw [iterPos_iter, iterPos_iter]; omega
  ·have hnext : ∀ ty, (Instr.next (.pointer (some ⟨w4.heap.size, 0, none⟩)) true ty).run Tryz.prog (w4.iter ⟨ds.toArray⟩ k) = .ok (.tuple #[.bool false]) (w4.iter ⟨ds.toArray⟩ k) := fun ty =>
    run_next_end (P := Tryz.prog) w4 ⟨ds.toArray⟩ k ty (by rw [bs_size]; exact hlt)
   go_wp2_with (fail)
   have hkz : KeptX R w (w4.iter ⟨ds.toArray⟩ k) := hkk.alloc _
   have hrz : RD (w4.iter ⟨ds.toArray⟩ k) R t (Sp.dgR l.tail.tail) tw dp fr := hr4.alloc _
   have hmz : Sp.exNum ds 0 = m := by rw [unhide HE, List.drop_eq_nil_of_le (by omega)]; rfl
   go_ret2
   refine ⟨hkz, ?_⟩
   cases b with
   | false => exact Or.inl ⟨_, _, by rw [unhide hE, if_neg (by intro h; rw [h] at hem; cases hem), hmz], rfl, hrz⟩
   | true => exact Or.inr ⟨by rw [unhide hE, if_pos (by simpa using hem)], _, _, rfl, hrz⟩
set_option maxHeartbeats 2000000 in
theorem exp_e3 {w : World} {R : Nat} {t : ByteArray} {l : Sp.By} {tw : Bool} {dp fr : Int} (h : RD w R t l tw dp fr) (k1 : Sp.tk l 101 = true) (k2 : Sp.tk l.tail 45 = false) (k3 : Sp.tk l.tail 43 = false) :
  Calls Tryz.prog 224 #[.pointer (some ⟨R, 0, none⟩)] w fun e w' => KeptX R w w' ∧ expEnd (Sp.expo l) e w' R t tw dp fr := by
 have K1 := hide k1
 have K2 := hide k2
 have K3 := hide k3
 have hE : Hid (Sp.expo l = if Sp.dg l.tail = [] then none else some (Sp.exNum (Sp.dg l.tail) 0, Sp.dgR l.tail)) := by
  unfold Hid Sp.expo; simp [k1, k2, k3]
 obtain ⟨b, hem⟩ : ∃ b, (Sp.dg l.tail).isEmpty = b := ⟨_, rfl⟩
 have hall := hide (dg_all l.tail)
 clear k1 k2 k3
 go_enter Tryz.func224, Tryz.ntmps224
 go_wp2_with (fail)
 refine (take_yes 101 _ rfl h (unhide K1)).mono ?_
 rintro e w1 ⟨rfl, hr1, hk1⟩
 go_wp2_with (fail)
 refine (takeN 45 _ rfl hr1 (unhide K2)).mono ?_
 rintro e w2 ⟨rfl, hr2, hk2⟩
 go_wp2_with (fail)
 refine (takeN 43 _ rfl hr2 (unhide K3)).mono ?_
 rintro e w3 ⟨rfl, hr3, hk3⟩
 go_wp2_with (fail)
 refine (digits_any hr3).mono ?_
 rintro e w4 ⟨rfl, hr4, hk4⟩
 have hkk := (((hk1.trans hk2).trans hk3).trans hk4)
 go_wp2_with (fail)
 generalize hds : Sp.dg l.tail = ds at *
 clear h hr1 hr2 hr3 hds
 go_loopw [6] (fun n wr => ∃ (k : Nat) (m : Int), k ≤ ds.length ∧ n = .int .i64 m ∧ 0 ≤ m ∧ m ≤ 1000000 ∧ wr = w4.iter ⟨ds.toArray⟩ k ∧ Sp.exNum ds 0 = Sp.exNum (ds.drop k) m) (fun _ wr => ds.length - wr.iterPos w4.heap.size)
 case atStart => exact ⟨0, 0, by omega, rfl, by omega, by omega, rfl, rfl⟩
 case round =>
  obtain ⟨k, m, hk, rfl, hm0, hm1, rfl, he⟩ := hrel
  have HE := hide he
  clear he
  by_cases hlt : k < ds.length
  ·have hlt2 : k < (⟨ds.toArray⟩ : ByteArray).size := by rw [bs_size]; exact hlt
   have hc := unhide hall ds[k] (List.getElem_mem hlt)
   have hbyte : ((⟨ds.toArray⟩ : ByteArray)[k]'hlt2) = ds[k] := by simp [ByteArray.getElem_eq_getElem_data]
   have hnext : ∀ ty, (Instr.next (.pointer (some ⟨w4.heap.size, 0, none⟩)) true ty).run Tryz.prog (w4.iter ⟨ds.toArray⟩ k) = .ok (.tuple #[.bool true, .int .i64 k, .int .i32 ds[k].toNat]) (w4.iter ⟨ds.toArray⟩ (k + 1)) := fun ty => by
    have := run_next_ascii (P := Tryz.prog) w4 ⟨ds.toArray⟩ k ty hlt2 (by rw [hbyte]; omega)
    rw [hbyte] at this; exact this
   have hstep : Hid (Sp.exNum (ds.drop k) m = Sp.exNum (ds.drop (k + 1)) (min (10 * m + ((ds[k].toNat : Int) - 48)) 1000000)) := by
    unfold Hid; rw [List.drop_eq_getElem_cons hlt]; rfl
   generalize hcc : ds[k].toNat = c at *
   have HC := hide hcc
   clear hcc hbyte
   go_wp2_with (fail)
   go_roundw
   case rel => exact ⟨k + 1, _, by omega, rfl, by omega, by omega, rfl, (unhide HE).trans (unhide hstep)⟩
   case measure => rw [iterPos_iter, iterPos_iter]; omega
  ·have hnext : ∀ ty, (Instr.next (.pointer (some ⟨w4.heap.size, 0, none⟩)) true ty).run Tryz.prog (w4.iter ⟨ds.toArray⟩ k) = .ok (.tuple #[.bool false]) (w4.iter ⟨ds.toArray⟩ k) := fun ty =>
    run_next_end (P := Tryz.prog) w4 ⟨ds.toArray⟩ k ty (by rw [bs_size]; exact hlt)
   go_wp2_with (fail)
   have hkz : KeptX R w (w4.iter ⟨ds.toArray⟩ k) := hkk.alloc _
   have hrz : RD (w4.iter ⟨ds.toArray⟩ k) R t (Sp.dgR l.tail) tw dp fr := hr4.alloc _
   have hmz : Sp.exNum ds 0 = m := by rw [unhide HE, List.drop_eq_nil_of_le (by omega)]; rfl
   go_ret2
   refine ⟨hkz, ?_⟩
   cases b with
   | false => exact Or.inl ⟨_, _, by rw [unhide hE, if_neg (by intro h; rw [h] at hem; cases hem), hmz], rfl, hrz⟩
   | true => exact Or.inr ⟨by rw [unhide hE, if_pos (by simpa using hem)], _, _, rfl, hrz⟩
set_option maxHeartbeats 2000000 in
theorem exp_f1 {w : World} {R : Nat} {t : ByteArray} {l : Sp.By} {tw : Bool} {dp fr : Int} (h : RD w R t l tw dp fr) (k0 : Sp.tk l 101 = false) (k1 : Sp.tk l 69 = true) (k2 : Sp.tk l.tail 45 = true) :
  Calls Tryz.prog 224 #[.pointer (some ⟨R, 0, none⟩)] w fun e w' => KeptX R w w' ∧ expEnd (Sp.expo l) e w' R t tw dp fr := by
 have K0 := hide k0
 have K1 := hide k1
 have K2 := hide k2
 have hE : Hid (Sp.expo l = if Sp.dg l.tail.tail = [] then none else some (- Sp.exNum (Sp.dg l.tail.tail) 0, Sp.dgR l.tail.tail)) := by
  unfold Hid Sp.expo; simp [k0, k1, k2]
 obtain ⟨b, hem⟩ : ∃ b, (Sp.dg l.tail.tail).isEmpty = b := ⟨_, rfl⟩
 have hall := hide (dg_all l.tail.tail)
 clear k0 k1 k2
 go_enter Tryz.func224, Tryz.ntmps224
 go_wp2_with (fail)
 refine (takeN 101 _ rfl h (unhide K0)).mono ?_
 rintro e w1 ⟨rfl, hr1, hk1⟩
 go_wp2_with (fail)
 refine (take_yes 69 _ rfl hr1 (unhide K1)).mono ?_
 rintro e w2 ⟨rfl, hr2, hk2⟩
 go_wp2_with (fail)
 refine (take_yes 45 _ rfl hr2 (unhide K2)).mono ?_
 rintro e w3 ⟨rfl, hr3, hk3⟩
 go_wp2_with (fail)
 refine (digits_any hr3).mono ?_
 rintro e w4 ⟨rfl, hr4, hk4⟩
 have hkk := (((hk1.trans hk2).trans hk3).trans hk4)
 go_wp2_with (fail)
 generalize hds : Sp.dg l.tail.tail = ds at *
 clear h hr1 hr2 hr3 hds
 go_loopw [6] (fun n wr => ∃ (k : Nat) (m : Int), k ≤ ds.length ∧ n = .int .i64 m ∧ 0 ≤ m ∧ m ≤ 1000000 ∧ wr = w4.iter ⟨ds.toArray⟩ k ∧ Sp.exNum ds 0 = Sp.exNum (ds.drop k) m) (fun _ wr => ds.length - wr.iterPos w4.heap.size)
 case atStart => exact ⟨0, 0, by omega, rfl, by omega, by omega, rfl, rfl⟩
 case round =>
  obtain ⟨k, m, hk, rfl, hm0, hm1, rfl, he⟩ := hrel
  have HE := hide he
  clear he
  by_cases hlt : k < ds.length
  ·have hlt2 : k < (⟨ds.toArray⟩ : ByteArray).size := by rw [bs_size]; exact hlt
   have hc := unhide hall ds[k] (List.getElem_mem hlt)
   have hbyte : ((⟨ds.toArray⟩ : ByteArray)[k]'hlt2) = ds[k] := by simp [ByteArray.getElem_eq_getElem_data]
   have hnext : ∀ ty, (Instr.next (.pointer (some ⟨w4.heap.size, 0, none⟩)) true ty).run Tryz.prog (w4.iter ⟨ds.toArray⟩ k) = .ok (.tuple #[.bool true, .int .i64 k, .int .i32 ds[k].toNat]) (w4.iter ⟨ds.toArray⟩ (k + 1)) := fun ty => by
    have := run_next_ascii (P := Tryz.prog) w4 ⟨ds.toArray⟩ k ty hlt2 (by rw [hbyte]; omega)
    rw [hbyte] at this; exact this
   have hstep : Hid (Sp.exNum (ds.drop k) m = Sp.exNum (ds.drop (k + 1)) (min (10 * m + ((ds[k].toNat : Int) - 48)) 1000000)) := by
    unfold Hid; rw [List.drop_eq_getElem_cons hlt]; rfl
   generalize hcc : ds[k].toNat = c at *
   have HC := hide hcc
   clear hcc hbyte
   go_wp2_with (fail)
   go_roundw
   case rel => exact ⟨k + 1, _, by omega, rfl, by omega, by omega, rfl, (unhide HE).trans (unhide hstep)⟩
   case measure => rw [iterPos_iter, iterPos_iter]; omega
  ·have hnext : ∀ ty, (Instr.next (.pointer (some ⟨w4.heap.size, 0, none⟩)) true ty).run Tryz.prog (w4.iter ⟨ds.toArray⟩ k) = .ok (.tuple #[.bool false]) (w4.iter ⟨ds.toArray⟩ k) := fun ty =>
    run_next_end (P := Tryz.prog) w4 ⟨ds.toArray⟩ k ty (by rw [bs_size]; exact hlt)
   go_wp2_with (fail)
   have hkz : KeptX R w (w4.iter ⟨ds.toArray⟩ k) := hkk.alloc _
   have hrz : RD (w4.iter ⟨ds.toArray⟩ k) R t (Sp.dgR l.tail.tail) tw dp fr := hr4.alloc _
   have hmz : Sp.exNum ds 0 = m := by rw [unhide HE, List.drop_eq_nil_of_le (by omega)]; rfl
   go_ret2
   refine ⟨hkz, ?_⟩
   cases b with
   | false => exact Or.inl ⟨_, _, by rw [unhide hE, if_neg (by intro h; rw [h] at hem; cases hem), hmz], rfl, hrz⟩
   | true => exact Or.inr ⟨by rw [unhide hE, if_pos (by simpa using hem)], _, _, rfl, hrz⟩
set_option maxHeartbeats 2000000 in
theorem exp_f2 {w : World} {R : Nat} {t : ByteArray} {l : Sp.By} {tw : Bool} {dp fr : Int} (h : RD w R t l tw dp fr) (k0 : Sp.tk l 101 = false) (k1 : Sp.tk l 69 = true) (k2 : Sp.tk l.tail 45 = false) (k3 : Sp.tk l.tail 43 = true) :
  Calls Tryz.prog 224 #[.pointer (some ⟨R, 0, none⟩)] w fun e w' => KeptX R w w' ∧ expEnd (Sp.expo l) e w' R t tw dp fr := by
 have K0 := hide k0
 have K1 := hide k1
 have K2 := hide k2
 have K3 := hide k3
 have hE : Hid (Sp.expo l = if Sp.dg l.tail.tail = [] then none else some (Sp.exNum (Sp.dg l.tail.tail) 0, Sp.dgR l.tail.tail)) := by
  unfold Hid Sp.expo; simp [k0, k1, k2, k3]
 obtain ⟨b, hem⟩ : ∃ b, (Sp.dg l.tail.tail).isEmpty = b := ⟨_, rfl⟩
 have hall := hide (dg_all l.tail.tail)
 clear k0 k1 k2 k3
 go_enter Tryz.func224, Tryz.ntmps224
 go_wp2_with (fail)
 refine (takeN 101 _ rfl h (unhide K0)).mono ?_
 rintro e w1 ⟨rfl, hr1, hk1⟩
 go_wp2_with (fail)
 refine (take_yes 69 _ rfl hr1 (unhide K1)).mono ?_
 rintro e w2 ⟨rfl, hr2, hk2⟩
 go_wp2_with (fail)
 refine (takeN 45 _ rfl hr2 (unhide K2)).mono ?_
 rintro e w3 ⟨rfl, hr3, hk3⟩
 go_wp2_with (fail)
 refine (take_yes 43 _ rfl hr3 (unhide K3)).mono ?_
 rintro e w4 ⟨rfl, hr4, hk4⟩
 go_wp2_with (fail)
 refine (digits_any hr4).mono ?_
 rintro e w5 ⟨rfl, hr5, hk5⟩
 have hkk := ((((hk1.trans hk2).trans hk3).trans hk4).trans hk5)
 go_wp2_with (fail)
 generalize hds : Sp.dg l.tail.tail = ds at *
 clear h hr1 hr2 hr3 hr4 hds
 go_loopw [6] (fun n wr => ∃ (k : Nat) (m : Int), k ≤ ds.length ∧ n = .int .i64 m ∧ 0 ≤ m ∧ m ≤ 1000000 ∧ wr = w5.iter ⟨ds.toArray⟩ k ∧ Sp.exNum ds 0 = Sp.exNum (ds.drop k) m) (fun _ wr => ds.length - wr.iterPos w5.heap.size)
 case atStart => exact ⟨0, 0, by omega, rfl, by omega, by omega, rfl, rfl⟩
 case round =>
  obtain ⟨k, m, hk, rfl, hm0, hm1, rfl, he⟩ := hrel
  have HE := hide he
  clear he
  by_cases hlt : k < ds.length
  ·have hlt2 : k < (⟨ds.toArray⟩ : ByteArray).size := by rw [bs_size]; exact hlt
   have hc := unhide hall ds[k] (List.getElem_mem hlt)
   have hbyte : ((⟨ds.toArray⟩ : ByteArray)[k]'hlt2) = ds[k] := by simp [ByteArray.getElem_eq_getElem_data]
   have hnext : ∀ ty, (Instr.next (.pointer (some ⟨w5.heap.size, 0, none⟩)) true ty).run Tryz.prog (w5.iter ⟨ds.toArray⟩ k) = .ok (.tuple #[.bool true, .int .i64 k, .int .i32 ds[k].toNat]) (w5.iter ⟨ds.toArray⟩ (k + 1)) := fun ty => by
    have := run_next_ascii (P := Tryz.prog) w5 ⟨ds.toArray⟩ k ty hlt2 (by rw [hbyte]; omega)
    rw [hbyte] at this; exact this
   have hstep : Hid (Sp.exNum (ds.drop k) m = Sp.exNum (ds.drop (k + 1)) (min (10 * m + ((ds[k].toNat : Int) - 48)) 1000000)) := by
    unfold Hid; rw [List.drop_eq_getElem_cons hlt]; rfl
   generalize hcc : ds[k].toNat = c at *
   have HC := hide hcc
   clear hcc hbyte
   go_wp2_with (fail)
   go_roundw
   case rel => exact ⟨k + 1, _, by omega, rfl, by omega, by omega, rfl, (unhide HE).trans (unhide hstep)⟩
   case measure => rw [iterPos_iter, iterPos_iter]; omega
  ·have hnext : ∀ ty, (Instr.next (.pointer (some ⟨w5.heap.size, 0, none⟩)) true ty).run Tryz.prog (w5.iter ⟨ds.toArray⟩ k) = .ok (.tuple #[.bool false]) (w5.iter ⟨ds.toArray⟩ k) := fun ty =>
    run_next_end (P := Tryz.prog) w5 ⟨ds.toArray⟩ k ty (by rw [bs_size]; exact hlt)
   go_wp2_with (fail)
   have hkz : KeptX R w (w5.iter ⟨ds.toArray⟩ k) := hkk.alloc _
   have hrz : RD (w5.iter ⟨ds.toArray⟩ k) R t (Sp.dgR l.tail.tail) tw dp fr := hr5.alloc _
   have hmz : Sp.exNum ds 0 = m := by rw [unhide HE, List.drop_eq_nil_of_le (by omega)]; rfl
   go_ret2
   refine ⟨hkz, ?_⟩
   cases b with
   | false => exact Or.inl ⟨_, _, by rw [unhide hE, if_neg (by intro h; rw [h] at hem; cases hem), hmz], rfl, hrz⟩
   | true => exact Or.inr ⟨by rw [unhide hE, if_pos (by simpa using hem)], _, _, rfl, hrz⟩
set_option maxHeartbeats 2000000 in
theorem exp_f3 {w : World} {R : Nat} {t : ByteArray} {l : Sp.By} {tw : Bool} {dp fr : Int} (h : RD w R t l tw dp fr) (k0 : Sp.tk l 101 = false) (k1 : Sp.tk l 69 = true) (k2 : Sp.tk l.tail 45 = false) (k3 : Sp.tk l.tail 43 = false) :
  Calls Tryz.prog 224 #[.pointer (some ⟨R, 0, none⟩)] w fun e w' => KeptX R w w' ∧ expEnd (Sp.expo l) e w' R t tw dp fr := by
 have K0 := hide k0
 have K1 := hide k1
 have K2 := hide k2
 have K3 := hide k3
 have hE : Hid (Sp.expo l = if Sp.dg l.tail = [] then none else some (Sp.exNum (Sp.dg l.tail) 0, Sp.dgR l.tail)) := by
  unfold Hid Sp.expo; simp [k0, k1, k2, k3]
 obtain ⟨b, hem⟩ : ∃ b, (Sp.dg l.tail).isEmpty = b := ⟨_, rfl⟩
 have hall := hide (dg_all l.tail)
 clear k0 k1 k2 k3
 go_enter Tryz.func224, Tryz.ntmps224
 go_wp2_with (fail)
 refine (takeN 101 _ rfl h (unhide K0)).mono ?_
 rintro e w1 ⟨rfl, hr1, hk1⟩
 go_wp2_with (fail)
 refine (take_yes 69 _ rfl hr1 (unhide K1)).mono ?_
 rintro e w2 ⟨rfl, hr2, hk2⟩
 go_wp2_with (fail)
 refine (takeN 45 _ rfl hr2 (unhide K2)).mono ?_
 rintro e w3 ⟨rfl, hr3, hk3⟩
 go_wp2_with (fail)
 refine (takeN 43 _ rfl hr3 (unhide K3)).mono ?_
 rintro e w4 ⟨rfl, hr4, hk4⟩
 go_wp2_with (fail)
 refine (digits_any hr4).mono ?_
 rintro e w5 ⟨rfl, hr5, hk5⟩
 have hkk := ((((hk1.trans hk2).trans hk3).trans hk4).trans hk5)
 go_wp2_with (fail)
 generalize hds : Sp.dg l.tail = ds at *
 clear h hr1 hr2 hr3 hr4 hds
 go_loopw [6] (fun n wr => ∃ (k : Nat) (m : Int), k ≤ ds.length ∧ n = .int .i64 m ∧ 0 ≤ m ∧ m ≤ 1000000 ∧ wr = w5.iter ⟨ds.toArray⟩ k ∧ Sp.exNum ds 0 = Sp.exNum (ds.drop k) m) (fun _ wr => ds.length - wr.iterPos w5.heap.size)
 case atStart => exact ⟨0, 0, by omega, rfl, by omega, by omega, rfl, rfl⟩
 case round =>
  obtain ⟨k, m, hk, rfl, hm0, hm1, rfl, he⟩ := hrel
  have HE := hide he
  clear he
  by_cases hlt : k < ds.length
  ·have hlt2 : k < (⟨ds.toArray⟩ : ByteArray).size := by rw [bs_size]; exact hlt
   have hc := unhide hall ds[k] (List.getElem_mem hlt)
   have hbyte : ((⟨ds.toArray⟩ : ByteArray)[k]'hlt2) = ds[k] := by simp [ByteArray.getElem_eq_getElem_data]
   have hnext : ∀ ty, (Instr.next (.pointer (some ⟨w5.heap.size, 0, none⟩)) true ty).run Tryz.prog (w5.iter ⟨ds.toArray⟩ k) = .ok (.tuple #[.bool true, .int .i64 k, .int .i32 ds[k].toNat]) (w5.iter ⟨ds.toArray⟩ (k + 1)) := fun ty => by
    have := run_next_ascii (P := Tryz.prog) w5 ⟨ds.toArray⟩ k ty hlt2 (by rw [hbyte]; omega)
    rw [hbyte] at this; exact this
   have hstep : Hid (Sp.exNum (ds.drop k) m = Sp.exNum (ds.drop (k + 1)) (min (10 * m + ((ds[k].toNat : Int) - 48)) 1000000)) := by
    unfold Hid; rw [List.drop_eq_getElem_cons hlt]; rfl
   generalize hcc : ds[k].toNat = c at *
   have HC := hide hcc
   clear hcc hbyte
   go_wp2_with (fail)
   go_roundw
   case rel => exact ⟨k + 1, _, by omega, rfl, by omega, by omega, rfl, (unhide HE).trans (unhide hstep)⟩
   case measure => rw [iterPos_iter, iterPos_iter]; omega
  ·have hnext : ∀ ty, (Instr.next (.pointer (some ⟨w5.heap.size, 0, none⟩)) true ty).run Tryz.prog (w5.iter ⟨ds.toArray⟩ k) = .ok (.tuple #[.bool false]) (w5.iter ⟨ds.toArray⟩ k) := fun ty =>
    run_next_end (P := Tryz.prog) w5 ⟨ds.toArray⟩ k ty (by rw [bs_size]; exact hlt)
   go_wp2_with (fail)
   have hkz : KeptX R w (w5.iter ⟨ds.toArray⟩ k) := hkk.alloc _
   have hrz : RD (w5.iter ⟨ds.toArray⟩ k) R t (Sp.dgR l.tail) tw dp fr := hr5.alloc _
   have hmz : Sp.exNum ds 0 = m := by rw [unhide HE, List.drop_eq_nil_of_le (by omega)]; rfl
   go_ret2
   refine ⟨hkz, ?_⟩
   cases b with
   | false => exact Or.inl ⟨_, _, by rw [unhide hE, if_neg (by intro h; rw [h] at hem; cases hem), hmz], rfl, hrz⟩
   | true => exact Or.inr ⟨by rw [unhide hE, if_pos (by simpa using hem)], _, _, rfl, hrz⟩
set_option maxHeartbeats 1000000 in
theorem exp_none {w : World} {R : Nat} {t : ByteArray} {l : Sp.By} {tw : Bool} {dp fr : Int} (h : RD w R t l tw dp fr) (k0 : Sp.tk l 101 = false) (k1 : Sp.tk l 69 = false) :
  Calls Tryz.prog 224 #[.pointer (some ⟨R, 0, none⟩)] w fun e w' => KeptX R w w' ∧ expEnd (Sp.expo l) e w' R t tw dp fr := by
 have hE : Hid (Sp.expo l = some (0, l)) := by unfold Hid Sp.expo; simp [k0, k1]
 have K0 := hide k0
 have K1 := hide k1
 clear k0 k1
 go_enter Tryz.func224, Tryz.ntmps224
 go_wp2_with (fail)
 refine (takeN 101 _ rfl h (unhide K0)).mono ?_
 rintro e w1 ⟨rfl, hr1, hk1⟩
 go_wp2_with (fail)
 refine (takeN 69 _ rfl hr1 (unhide K1)).mono ?_
 rintro e w2 ⟨rfl, hr2, hk2⟩
 go_wp2_with (fail)
 go_ret2
 exact ⟨hk1.trans hk2, Or.inl ⟨0, l, unhide hE, rfl, hr2⟩⟩
theorem exponent_any {w : World} {R : Nat} {t : ByteArray} {l : Sp.By} {tw : Bool} {dp fr : Int} (h : RD w R t l tw dp fr) :
  Calls Tryz.prog 224 #[.pointer (some ⟨R, 0, none⟩)] w fun e w' => KeptX R w w' ∧ expEnd (Sp.expo l) e w' R t tw dp fr := by
 by_cases k0 : Sp.tk l 101 = true
 ·by_cases k2 : Sp.tk l.tail 45 = true
  ·exact exp_e1 h k0 k2
  ·by_cases k3 : Sp.tk l.tail 43 = true
   ·exact exp_e2 h k0 (tk_false k2) k3
   ·exact exp_e3 h k0 (tk_false k2) (tk_false k3)
 ·by_cases k1 : Sp.tk l 69 = true
  ·by_cases k2 : Sp.tk l.tail 45 = true
   ·exact exp_f1 h (tk_false k0) k1 k2
   ·by_cases k3 : Sp.tk l.tail 43 = true
    ·exact exp_f2 h (tk_false k0) k1 (tk_false k2) k3
    ·exact exp_f3 h (tk_false k0) k1 (tk_false k2) (tk_false k3)
  ·exact exp_none h (tk_false k0) (tk_false k1)
end Go.Proofs.YtdpomdelmdofmaaGreatDoor

namespace Go.Proofs.YtdpomdelmdofmaaGreatDoor
open Go.RowKit
def numV (n : Sp.Nm) : Value := .agg #[.bool n.1, .string ⟨n.2.1.toArray⟩, .int .i64 n.2.2]
theorem Clone_any (s : ByteArray) (w : World) (hlim : s.size ≤ 281474976710656) :
  Calls Tryz.prog 265 #[.string s] w fun e w' => e = .returned (.string s) ∧ Below w.heap.size w w' := by
 go_enter Tryz.func265, Tryz.ntmps265
 go_wp2_with (fail)
 refine (Tryz.stringslite_Clone s _ hlim).mono ?_
 rintro e w1 ⟨rfl, hb⟩
 go_wp2_with (fail)
 go_ret
 exact ⟨rfl, hb⟩
theorem trimL_len (l : Sp.By) (c : UInt8) : (Lib.trimLeftB l c).length ≤ l.length := by
 unfold Lib.trimLeftB; exact (List.dropWhile_sublist _).length_le
theorem trimR_len (l : Sp.By) (c : UInt8) : (Lib.trimRightB l c).length ≤ l.length := by
 unfold Lib.trimRightB; rw [List.length_reverse]; exact Nat.le_trans (List.dropWhile_sublist _).length_le (by simp)
set_option maxHeartbeats 2000000 in
theorem MakeNumber_any (ng : Bool) (ds : Sp.By) (ex : Int) (w : World) (h0 : -10000000 ≤ ex) (h1 : ex ≤ 10000000) (hl : ds.length ≤ 4000) :
  Calls Tryz.prog 225 #[.bool ng, .string ⟨ds.toArray⟩, .int .i64 ex] w fun e w' => e = .returned (numV (Sp.mkNm ng ds ex)) ∧ Below w.heap.size w w' := by
 have hq : Hid (Sp.mkNm ng ds ex = if Lib.trimRightB (Lib.trimLeftB ds 48) 48 = [] then (false, [], 0) else (ng, Lib.trimRightB (Lib.trimLeftB ds 48) 48, ex + (Lib.trimLeftB ds 48).length - (Lib.trimRightB (Lib.trimLeftB ds 48) 48).length)) := rfl
 have l1 := trimL_len ds 48
 have l2 := trimR_len (Lib.trimLeftB ds 48) 48
 have cL : ∀ W : World, Calls Tryz.prog 263 #[.string ⟨ds.toArray⟩, .string ⟨#[48]⟩] W fun e w' => e = .returned (.string ⟨(Lib.trimLeftB ds 48).toArray⟩) ∧ w' = W := fun W => Tryz.strings_TrimLeft_one ⟨ds.toArray⟩ 48 (by decide) W
 have cR : ∀ W : World, Calls Tryz.prog 264 #[.string ⟨(Lib.trimLeftB ds 48).toArray⟩, .string ⟨#[48]⟩] W fun e w' => e = .returned (.string ⟨(Lib.trimRightB (Lib.trimLeftB ds 48) 48).toArray⟩) ∧ w' = W := fun W => Tryz.strings_TrimRight_one ⟨(Lib.trimLeftB ds 48).toArray⟩ 48 (by decide) W (by rw [bs_size]; omega)
 generalize Lib.trimRightB (Lib.trimLeftB ds 48) 48 = wl at *
 generalize Lib.trimLeftB ds 48 = dl at *
 have CL := hide cL
 have CR := hide cR
 clear cL cR
 by_cases hw : wl = []
 ·have hr : Hid (Sp.mkNm ng ds ex = (false, [], 0)) := by rw [Hid, unhide hq, if_pos hw]
  clear hq
  subst hw
  go_enter Tryz.func225, Tryz.ntmps225
  go_wp2_with (fail)
  refine (unhide CL _).mono ?_
  rintro e w' ⟨rfl, rfl⟩
  go_wp2_with (fail)
  refine (unhide CR _).mono ?_
  rintro e w' ⟨rfl, rfl⟩
  go_wp2_with (fail)
  rw [unhide hr]
  refine bodyPost_ret (v := numV (false, [], 0)) (by simp [results, Tryz.results225, go_sem, numV]) rfl ⟨rfl, ?_⟩
  exact (Below.refl _ _).alloc (Nat.le_refl _) _
 ·have he := empty_no hw
  have hr : Hid (Sp.mkNm ng ds ex = (ng, wl, ex + dl.length - wl.length)) := by rw [Hid, unhide hq, if_neg hw]
  clear hq hw
  go_enter Tryz.func225, Tryz.ntmps225
  go_wp2_with (fail)
  refine (unhide CL _).mono ?_
  rintro e w' ⟨rfl, rfl⟩
  go_wp2_with (fail)
  refine (unhide CR _).mono ?_
  rintro e w' ⟨rfl, rfl⟩
  go_wp2_with (fail)
  refine (Clone_any _ _ (by rw [bs_size]; omega)).mono ?_
  rintro e w2 ⟨rfl, hb⟩
  have g0 : w2.cell? ⟨w.heap.size, 0, none⟩ = some (.bool false) := (hb.cell (p := ⟨w.heap.size, 0, none⟩) (by simp)).trans (by simp)
  have g1 : w2.cell? ⟨w.heap.size, 1, none⟩ = some (.string ⟨#[]⟩) := (hb.cell (p := ⟨w.heap.size, 1, none⟩) (by simp)).trans (by simp)
  have g2 : w2.cell? ⟨w.heap.size, 2, none⟩ = some (.int .i64 0) := (hb.cell (p := ⟨w.heap.size, 2, none⟩) (by simp)).trans (by simp)
  have hf : ∀ j, w2.frozen? ⟨w.heap.size, j, none⟩ = (w.alloc (.cells #[.bool false, .string ⟨#[]⟩, .int .i64 0] 108)).frozen? ⟨w.heap.size, j, none⟩ := fun j => hb.frozen (p := ⟨w.heap.size, j, none⟩) (by simp)
  go_wp2_with (fail)
  rw [unhide hr]
  refine bodyPost_ret (v := numV (ng, wl, ex + dl.length - wl.length)) (by simp [results, Tryz.results225, go_sem, numV, g0, g1, g2]) rfl ⟨rfl, ?_⟩
  exact ((((Below.refl w.heap.size w).alloc (Nat.le_refl _) _).trans (hb.mono (by simp))).setCell (by simp) _ |>.setCell (by simp) _).setCell (by simp) _
end Go.Proofs.YtdpomdelmdofmaaGreatDoor

namespace Go.Proofs.YtdpomdelmdofmaaGreatDoor
open Go.RowKit
theorem expo_bd {l : Sp.By} {n : Int} {r : Sp.By} (h : Sp.expo l = some (n, r)) : -1000000 ≤ n ∧ n ≤ 1000000 := by
 unfold Sp.expo at h
 have b := fun l' => exNum_bd (Sp.dg l') (dg_all l') 0 (by omega) (by omega)
 have b1 := b l.tail
 have b2 := b l.tail.tail
 split at h
 ·split at h
  ·split at h
   ·cases h
   ·injection h with h; injection h with h h'; omega
  ·split at h
   ·split at h
    ·cases h
    ·injection h with h; injection h with h h'; omega
   ·split at h
    ·cases h
    ·injection h with h; injection h with h h'; omega
 ·injection h with h; injection h with h h'; omega
def numEnd (o : Option (Sp.Nm × Sp.By)) (e : Ending) (w' : World) (R : Nat) (t : ByteArray) (tw : Bool) (dp fr : Int) : Prop :=
 (∃ n l', o = some (n, l') ∧ e = .returned (.tuple #[numV n, .bool true]) ∧ RD w' R t l' tw dp (max (max fr n.2.2) (-n.2.2))) ∨
  (o = none ∧ e = .returned (.tuple #[numV (false, [], 0), .bool false]) ∧ ∃ l', RD w' R t l' tw dp fr)
theorem dg_cons {l : Sp.By} {d : UInt8} {ds : Sp.By} (h : Sp.dg l = d :: ds) (c : UInt8) : Sp.tk l c = (d == c) := by
 cases l with
 | nil => simp [Sp.dg] at h
 | cons a r =>
  unfold Sp.dg at h
  split at h
  ·injection h with h1 h2; subst h1; rfl
  ·cases h
theorem first48 (d : UInt8) (ds : Sp.By) (h : 0 < (⟨(d :: ds).toArray⟩ : ByteArray).size) : (((⟨(d :: ds).toArray⟩ : ByteArray)[0]'h).toNat : Int) = (d.toNat : Int) := by
 simp [ByteArray.getElem_eq_getElem_data]
theorem first_pos (d : UInt8) (ds : Sp.By) : 0 < (⟨(d :: ds).toArray⟩ : ByteArray).size := by rw [bs_size]; simp
theorem frac_len {l f r : Sp.By} (h : Sp.frac l = some (f, r)) : f.length + r.length ≤ l.length := by
 unfold Sp.frac at h
 have b := dg_len l.tail
 split at h
 ·rename_i k
  have := tk_cons k
  split at h
  ·cases h
  ·injection h with h; injection h with h h'; subst h h'; omega
 ·injection h with h; injection h with h h'; subst h h'; simp
theorem num_fin {w : World} {R q : Nat} {t : ByteArray} {tw : Bool} {dp fr : Int} (h : RP w R t q tw dp fr) (o : Obj) (v v' : Int) (x y z : Value) (b : Nat) (hb : b ≠ R) (hv : v = v') :
  RP ((((((w.alloc o).setCell ⟨R, 4, none⟩ (.int .i64 v)).setCell ⟨b, 0, none⟩ x).setCell ⟨b, 1, none⟩ y).setCell ⟨b, 2, none⟩ z).drew) R t q tw dp v' := by
 subst hv
 have h1 := (h.alloc o).set4 v
 exact ((h1.kept ((((KeptX.refl b _).setCell (p := ⟨b, 0, none⟩) rfl x).setCell (p := ⟨b, 1, none⟩) rfl y).setCell (p := ⟨b, 2, none⟩) rfl z) (by omega))).drew
theorem mkNm_bd (ng : Bool) (ds : Sp.By) (e : Int) : (Sp.mkNm ng ds e).2.2 = 0 ∨ (e ≤ (Sp.mkNm ng ds e).2.2 ∧ (Sp.mkNm ng ds e).2.2 ≤ e + ds.length) := by
 unfold Sp.mkNm
 have h1 := trimL_len ds 48
 have h2 := trimR_len (Lib.trimLeftB ds 48) 48
 simp only
 split
 ·left; rfl
 ·right; simp only; omega
def Slot (w : World) (b : Nat) : Prop := w.heap[b]? = some (.cells #[.bool false, .string ⟨#[]⟩, .int .i64 0] 108 (0, 0))
section
variable {w : World} {b : Nat}
theorem Slot.c0 (h : Slot w b) : w.cell? ⟨b, 0, none⟩ = some (.bool false) := by simp [World.cell?, show w.heap[b]? = _ from h]
theorem Slot.c1 (h : Slot w b) : w.cell? ⟨b, 1, none⟩ = some (.string ⟨#[]⟩) := by simp [World.cell?, show w.heap[b]? = _ from h]
theorem Slot.c2 (h : Slot w b) : w.cell? ⟨b, 2, none⟩ = some (.int .i64 0) := by simp [World.cell?, show w.heap[b]? = _ from h]
theorem Slot.fz (h : Slot w b) (o : Nat) : w.frozen? ⟨b, o, none⟩ = false := by simp [World.frozen?, show w.heap[b]? = _ from h]
theorem Slot.kept {X : Nat} {w' : World} (h : Slot w b) (hk : KeptX X w w') (hx : b ≠ X) : Slot w' b := (hk.block b (Array.getElem?_eq_some_iff.1 h).1 hx).trans h
theorem Slot.new (w : World) : Slot (w.alloc (.cells #[.bool false, .string ⟨#[]⟩, .int .i64 0] 108)) w.heap.size := by
 show (w.heap.push _)[w.heap.size]? = _
 simp
end
end Go.Proofs.YtdpomdelmdofmaaGreatDoor
