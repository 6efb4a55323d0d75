/-
  Walk of the reference's (*Reading).told: a number's digits without noughts at both ends.
-/
import Derived.Test.YtdpomdelmdofmaaGreatDoorPart34
import Derived.BigRegion
import Derived.Deep.DeepCutAuto
namespace Go.Proofs.YtdpomdelmdofmaaGreatDoor
open Go.RowKit
theorem RB.drewN {w : World} {R : Nat} {t : ByteArray} {mo : Int} {tw far : Bool} (h : RB w R t mo tw far) (n : Nat) : RB (w.drewN n) R t mo tw far := h
def ToldEnd (all : ByteArray) (ng : Bool) (ex mo : Int) (tw far : Bool) (t : ByteArray) (V R : Nat) (w : World) (e : Ending) (w' : World) : Prop :=
 e = .returned (.tuple #[]) ∧ ∃ (W : World) (ds : ByteArray) (ng' : Bool) (x : Int), ds.data.toList = Lib.trimLeftB (Lib.trimRightB all.data.toList 48) 48 ∧ x = Sp.rmk all.data.toList ex ∧ ng' = (if ds.data.toList = [] then false else ng) ∧
  KeptX V w W ∧ VN w' V ng' ds x ∧ RB w' R t mo tw (far || (decide (x < -mo) || decide (mo < x))) ∧ KeptX R W w'
theorem VN.other {w : World} {V R : Nat} {ng : Bool} {ds : ByteArray} {ex : Int} (h : VN w V ng ds ex) (hVR : V ≠ R) (b : Bool) : VN (w.setCell ⟨R, 3, none⟩ (.bool b)) V ng ds ex := (Below.heap_setCell _ _ _ _ hVR).trans h
theorem nil_of {X : ByteArray} (h : X.size = 0) : X.data.toList = [] := by have := Lib.size_eq X; rw [h] at this; exact List.length_eq_zero_iff.1 this.symm
theorem VN.drewN {w : World} {V : Nat} {ng : Bool} {ds : ByteArray} {ex : Int} (h : VN w V ng ds ex) (n : Nat) : VN (w.drewN n) V ng ds ex := h
set_option maxRecDepth 100000 in
set_option maxHeartbeats 8000000 in
theorem rTold_one {w : World} {V R : Nat} {t : ByteArray} {mo : Int} {tw far ng : Bool} {ex : Int} (hv : VN w V ng ⟨#[]⟩ ex) (hr : RB w R t mo tw far) (hVR : V ≠ R) (all : ByteArray) (hs : all.size ≤ 4000) (hex : -2000000000 ≤ ex ∧ ex ≤ 2000000000) (hmo : 0 ≤ mo ∧ mo ≤ 400) :
  Calls Tryz.prog 171 #[.pointer (some ⟨R, 0, none⟩), .pointer (some ⟨V, 0, none⟩), .string all] w fun e w' => ToldEnd all ng ex mo tw far t V R w e w' := by
 have HV := hide hv
 have HR := hide hr
 clear hv hr
 go_enter Tryz.func171, Tryz.ntmps171
 go_wp2_with (fail)
 go_loopw [2] (fun a wr => ∃ (X : ByteArray) (x : Int), a = .string X ∧ Lib.trimRightB X.data.toList 48 = Lib.trimRightB all.data.toList 48 ∧ X.size ≤ all.size ∧ x = ex + (all.size : Int) - (X.size : Int) ∧ VN wr V ng ⟨#[]⟩ x ∧ KeptX V w wr) (fun a _ => match a with | .string X => X.size | _ => 0)
 case atStart => exact ⟨all, ex, rfl, rfl, Nat.le_refl _, by omega, unhide HV, KeptX.refl _ _⟩
 case round =>
  obtain ⟨X, x, rfl, htr, hle, hx, hvn, hk⟩ := hrel
  have HTR := hide htr
  have HX := hide hx
  have HVN := hide hvn
  have HK := hide hk
  have c3 := hvn.c3
  have z3 := hvn.fz 3
  have hxb : -2000004000 ≤ x ∧ x ≤ 2000004000 := by omega
  clear htr hx hvn hk
  by_cases hX : X.size = 0
  ·have hE := emp_t hX
   go_wp2_with (fail)
   have c1 := (unhide HVN).c1
   have z1 := (unhide HVN).fz 1
   have c2 := (unhide HVN).c2
   have z2 := (unhide HVN).fz 2
   have HRB := hide ((unhide HR).kept (unhide HK) (Ne.symm hVR))
   have r1 := (unhide HRB).c1
   have r3 := (unhide HRB).c3
   have y3 := (unhide HRB).fz 3
   go_loopw [2] (fun a wt => ∃ (Y : ByteArray), a = .string Y ∧ Lib.trimLeftB Y.data.toList 48 = Lib.trimLeftB X.data.toList 48 ∧ Y.size ≤ X.size ∧ wt = wr) (fun a _ => match a with | .string Y => Y.size | _ => 0)
   case atStart => exact ⟨X, rfl, rfl, Nat.le_refl _, rfl⟩
   case round =>
    obtain ⟨Y, rfl, hly, hley, rfl⟩ := hrel
    have HLY := hide hly
    clear hly
    have hY : Y.size = 0 := by omega
    ·have hEY := emp_t hY
     go_wp2_with (fail)
     obtain ⟨W, hW⟩ : ∃ W, W = (((wr.setCell ⟨V, 2, none⟩ (.string Y)).setCell ⟨V, 3, none⟩ (.int .i64 0)).setCell ⟨V, 1, none⟩ (.bool false)) := ⟨_, rfl⟩
     have hvf : VN W V false Y 0 := by rw [hW]; exact (((unhide HVN).set2 Y).set3 0).set1 false
     have hkf : KeptX V w W := by rw [hW]; exact (((unhide HK).setCell rfl _).setCell rfl _).setCell rfl _
     have hrf : RB W R t mo tw far := (unhide HR).kept hkf (Ne.symm hVR)
     have HVf := hide hvf
     have HRf := hide hrf
     have HKf := hide hkf
     have v3 := hvf.c3
     have q1 := hrf.c1
     have q3 := hrf.c3
     have qz3 := hrf.fz 3
     have hwn : wrap64 (-mo) = -mo := by unfold wrap64; omega
     clear hvf hrf hkf c1 z1 c2 z2 c3 z3 r1 r3 y3
     rw [← hW]
     clear hW
     have hempty : Lib.trimLeftB (Lib.trimRightB all.data.toList 48) 48 = [] := by
      have h1 := unhide HLY
      have h2 := unhide HTR
      rw [nil_of hY] at h1
      rw [nil_of hX] at h1 h2
      rw [← h2]; rfl
     have hds : Y.data.toList = Lib.trimLeftB (Lib.trimRightB all.data.toList 48) 48 := by rw [hempty, nil_of hY]
     have hxe : (0 : Int) = Sp.rmk all.data.toList ex := by unfold Sp.rmk; simp only; rw [if_pos hempty]
     have hng : false = (if Y.data.toList = [] then false else ng) := by rw [if_pos (nil_of hY)]
     have HXE := hide hxe
     have HDS := hide hds
     have HNG := hide hng
     clear hxe hds hng
     cases far with
     | true =>
      have HFV : Hid ((true || (decide (0 < -mo) || decide (mo < 0))) = true) := rfl
      go_big_region
      all_goals (
       go_wp2_with (fail)
       go_end0
       refine ⟨rfl, W, Y, _, _, unhide HDS, unhide HXE, unhide HNG, unhide HKf, ?_, ?_, ?_⟩
       ·exact (VN.other (unhide HVf) hVR true).drewN _
       ·rw [unhide HFV]; exact ((unhide HRf).set3 true).drewN _
       ·exact ((KeptX.refl R W).setCell rfl _).drewN _)
     | false =>
      by_cases hx1 : 0 < -mo
      ·exact absurd hx1 (by omega)
      ·have d1 : decide (0 < -mo) = false := decide_eq_false hx1
       by_cases hx2 : mo < 0
       ·exact absurd hx2 (by omega)
       ·have d2 : decide (mo < 0) = false := decide_eq_false hx2
        have HFV : Hid ((false || (decide (0 < -mo) || decide (mo < 0))) = false) := by unfold Hid; rw [d1, d2]; rfl
        go_big_region
        all_goals (
         go_wp2_with (fail)
         go_end0
         refine ⟨rfl, W, Y, _, _, unhide HDS, unhide HXE, unhide HNG, unhide HKf, ?_, ?_, ?_⟩
         ·exact (VN.other (unhide HVf) hVR false).drewN _
         ·rw [unhide HFV]; exact ((unhide HRf).set3 false).drewN _
         ·exact ((KeptX.refl R W).setCell rfl _).drewN _)
  ·obtain ⟨k, hkx⟩ : ∃ k, X.size = k + 1 := ⟨X.size - 1, by omega⟩
   have hE := emp_f hkx
   have hlt : k < X.size := by omega
   have hw1 : wrap64 ((X.size : Int) - 1) = (k : Int) := by unfold wrap64; omega
   by_cases h48 : X[k].toNat = 48
   ·have h48' : ((X[k].toNat : Int) == 48) = true := by simp; omega
    go_wp2_with (fail)
    have hxe : (X.extract 0 k).data.toList = X.data.toList.dropLast := by
     have := ext_init X; rw [hkx, Nat.add_sub_cancel] at this; exact this
    have hxz : (X.extract 0 k).size = k := by rw [ByteArray.size_extract]; omega
    refine ⟨⟨X.extract 0 k, x + 1, rfl, ?_, by omega, ?_, (unhide HVN).set3 _, (unhide HK).setCell rfl _⟩, ?_⟩
    ·rw [hxe, ← trimR_zero (by rw [last_at hkx, u8_48 h48]), unhide HTR]
    ·have := unhide HX; omega
    ·show (X.extract 0 k).size < X.size; omega
   ·have h48' : ((X[k].toNat : Int) == 48) = false := by simp; omega
    have HTX := hide (trimR_id (l := X.data.toList) (by rw [last_at hkx]; intro e; injection e with e; exact h48 (by rw [e]; rfl)))
    go_wp2_with (fail)
    have c1 := (unhide HVN).c1
    have z1 := (unhide HVN).fz 1
    have c2 := (unhide HVN).c2
    have z2 := (unhide HVN).fz 2
    have HRB := hide ((unhide HR).kept (unhide HK) (Ne.symm hVR))
    have r1 := (unhide HRB).c1
    have r3 := (unhide HRB).c3
    have y3 := (unhide HRB).fz 3
    go_loopw [2] (fun a wt => ∃ (Y : ByteArray), a = .string Y ∧ Lib.trimLeftB Y.data.toList 48 = Lib.trimLeftB X.data.toList 48 ∧ Y.size ≤ X.size ∧ wt = wr) (fun a _ => match a with | .string Y => Y.size | _ => 0)
    case atStart => exact ⟨X, rfl, rfl, Nat.le_refl _, rfl⟩
    case round =>
     obtain ⟨Y, rfl, hly, hley, rfl⟩ := hrel
     have HLY := hide hly
     clear hly
     by_cases hY : Y.size = 0
     ·have hEY := emp_t hY
      go_wp2_with (fail)
      obtain ⟨W, hW⟩ : ∃ W, W = (((wr.setCell ⟨V, 2, none⟩ (.string Y)).setCell ⟨V, 3, none⟩ (.int .i64 0)).setCell ⟨V, 1, none⟩ (.bool false)) := ⟨_, rfl⟩
      have hvf : VN W V false Y 0 := by rw [hW]; exact (((unhide HVN).set2 Y).set3 0).set1 false
      have hkf : KeptX V w W := by rw [hW]; exact (((unhide HK).setCell rfl _).setCell rfl _).setCell rfl _
      have hrf : RB W R t mo tw far := (unhide HR).kept hkf (Ne.symm hVR)
      have HVf := hide hvf
      have HRf := hide hrf
      have HKf := hide hkf
      have v3 := hvf.c3
      have q1 := hrf.c1
      have q3 := hrf.c3
      have qz3 := hrf.fz 3
      have hwn : wrap64 (-mo) = -mo := by unfold wrap64; omega
      clear hvf hrf hkf c1 z1 c2 z2 c3 z3 r1 r3 y3
      rw [← hW]
      clear hW
      have htl : Lib.trimLeftB X.data.toList 48 = Lib.trimLeftB (Lib.trimRightB all.data.toList 48) 48 := by rw [← unhide HTR, unhide HTX]
      have hempty : Lib.trimLeftB (Lib.trimRightB all.data.toList 48) 48 = [] := by
       rw [← htl, ← unhide HLY, nil_of hY]; rfl
      have hds : Y.data.toList = Lib.trimLeftB (Lib.trimRightB all.data.toList 48) 48 := by rw [hempty, nil_of hY]
      have hxe : (0 : Int) = Sp.rmk all.data.toList ex := by unfold Sp.rmk; simp only; rw [if_pos hempty]
      have hng : false = (if Y.data.toList = [] then false else ng) := by rw [if_pos (nil_of hY)]
      have HXE := hide hxe
      have HDS := hide hds
      have HNG := hide hng
      clear hxe hds hng
      cases far with
      | true =>
       have HFV : Hid ((true || (decide (0 < -mo) || decide (mo < 0))) = true) := rfl
       go_big_region
       all_goals (
        go_wp2_with (fail)
        go_end0
        refine ⟨rfl, W, Y, _, _, unhide HDS, unhide HXE, unhide HNG, unhide HKf, ?_, ?_, ?_⟩
        ·exact (VN.other (unhide HVf) hVR true).drewN _
        ·rw [unhide HFV]; exact ((unhide HRf).set3 true).drewN _
        ·exact ((KeptX.refl R W).setCell rfl _).drewN _)
      | false =>
       by_cases hx1 : 0 < -mo
       ·exact absurd hx1 (by omega)
       ·have d1 : decide (0 < -mo) = false := decide_eq_false hx1
        by_cases hx2 : mo < 0
        ·exact absurd hx2 (by omega)
        ·have d2 : decide (mo < 0) = false := decide_eq_false hx2
         have HFV : Hid ((false || (decide (0 < -mo) || decide (mo < 0))) = false) := by unfold Hid; rw [d1, d2]; rfl
         go_big_region
         all_goals (
          go_wp2_with (fail)
          go_end0
          refine ⟨rfl, W, Y, _, _, unhide HDS, unhide HXE, unhide HNG, unhide HKf, ?_, ?_, ?_⟩
          ·exact (VN.other (unhide HVf) hVR false).drewN _
          ·rw [unhide HFV]; exact ((unhide HRf).set3 false).drewN _
          ·exact ((KeptX.refl R W).setCell rfl _).drewN _)
     ·obtain ⟨m, hmy⟩ : ∃ m, Y.size = m + 1 := ⟨Y.size - 1, by omega⟩
      have hEY := emp_f hmy
      have hlty : 0 < Y.size := by omega
      by_cases h48y : Y[0].toNat = 48
      ·have h48y' : ((Y[0].toNat : Int) == 48) = true := by simp; omega
       have hone : 1 ≤ Y.size := by omega
       go_wp2_with (fail)
       have hye : (Y.extract 1 (m + 1)).data.toList = Y.data.toList.tail := by
        have := ext_tail Y; rw [hmy] at this; exact this
       have hyz : (Y.extract 1 (m + 1)).size = m := by rw [ByteArray.size_extract]; omega
       refine ⟨⟨Y.extract 1 (m + 1), rfl, ?_, by omega, trivial⟩, ?_⟩
       ·rw [hye, ← trimL_zero (by rw [head_at hmy, u8_48 h48y]), unhide HLY]
       ·show (Y.extract 1 (m + 1)).size < Y.size; omega
      ·have h48y' : ((Y[0].toNat : Int) == 48) = false := by simp; omega
       go_wp2_with (fail)
       obtain ⟨W, hW⟩ : ∃ W, W = wr.setCell ⟨V, 2, none⟩ (.string Y) := ⟨_, rfl⟩
       have hvf : VN W V ng Y x := by rw [hW]; exact (unhide HVN).set2 Y
       have hkf : KeptX V w W := by rw [hW]; exact (unhide HK).setCell rfl _
       have hrf : RB W R t mo tw far := (unhide HR).kept hkf (Ne.symm hVR)
       have HVf := hide hvf
       have HRf := hide hrf
       have HKf := hide hkf
       have v3 := hvf.c3
       have q1 := hrf.c1
       have q3 := hrf.c3
       have qz3 := hrf.fz 3
       have hwn : wrap64 (-mo) = -mo := by unfold wrap64; omega
       clear hvf hrf hkf c1 z1 c2 z2 c3 z3 r1 r3 y3
       rw [← hW]
       clear hW
       have htl : Lib.trimLeftB X.data.toList 48 = Lib.trimLeftB (Lib.trimRightB all.data.toList 48) 48 := by rw [← unhide HTR, unhide HTX]
       have hyl : Lib.trimLeftB Y.data.toList 48 = Y.data.toList := trimL_id (by rw [head_at hmy]; intro e; injection e with e; exact h48y (by rw [e]; rfl))
       have hds : Y.data.toList = Lib.trimLeftB (Lib.trimRightB all.data.toList 48) 48 := by rw [← htl, ← unhide HLY, hyl]
       have hyn : Y.data.toList ≠ [] := fun e => by have h := Lib.size_eq Y; rw [e] at h; rw [hmy] at h; cases h
       have hxe : x = Sp.rmk all.data.toList ex := by
        unfold Sp.rmk
        simp only
        rw [if_neg (by rw [← hds]; exact hyn), ← unhide HTR, unhide HTX, unhide HX, Lib.size_eq X, Lib.size_eq all]
       have hng : ng = (if Y.data.toList = [] then false else ng) := by rw [if_neg hyn]
       have HXE := hide hxe
       have HDS := hide hds
       have HNG := hide hng
       clear hxe hds hng
       cases far with
       | true =>
        have HFV : Hid ((true || (decide (x < -mo) || decide (mo < x))) = true) := rfl
        go_big_region
        all_goals (
         go_wp2_with (fail)
         go_end0
         refine ⟨rfl, W, Y, _, _, unhide HDS, unhide HXE, unhide HNG, unhide HKf, ?_, ?_, ?_⟩
         ·exact (VN.other (unhide HVf) hVR true).drewN _
         ·rw [unhide HFV]; exact ((unhide HRf).set3 true).drewN _
         ·exact ((KeptX.refl R W).setCell rfl _).drewN _)
       | false =>
        by_cases hx1 : x < -mo
        ·have d1 : decide (x < -mo) = true := decide_eq_true hx1
         have HFV : Hid ((false || (decide (x < -mo) || decide (mo < x))) = true) := by unfold Hid; rw [d1]; rfl
         go_big_region
         all_goals (
          go_wp2_with (fail)
          go_end0
          refine ⟨rfl, W, Y, _, _, unhide HDS, unhide HXE, unhide HNG, unhide HKf, ?_, ?_, ?_⟩
          ·exact (VN.other (unhide HVf) hVR true).drewN _
          ·rw [unhide HFV]; exact ((unhide HRf).set3 true).drewN _
          ·exact ((KeptX.refl R W).setCell rfl _).drewN _)
        ·have d1 : decide (x < -mo) = false := decide_eq_false hx1
         by_cases hx2 : mo < x
         ·have d2 : decide (mo < x) = true := decide_eq_true hx2
          have HFV : Hid ((false || (decide (x < -mo) || decide (mo < x))) = true) := by unfold Hid; rw [d1, d2]; rfl
          go_big_region
          all_goals (
           go_wp2_with (fail)
           go_end0
           refine ⟨rfl, W, Y, _, _, unhide HDS, unhide HXE, unhide HNG, unhide HKf, ?_, ?_, ?_⟩
           ·exact (VN.other (unhide HVf) hVR true).drewN _
           ·rw [unhide HFV]; exact ((unhide HRf).set3 true).drewN _
           ·exact ((KeptX.refl R W).setCell rfl _).drewN _)
         ·have d2 : decide (mo < x) = false := decide_eq_false hx2
          have HFV : Hid ((false || (decide (x < -mo) || decide (mo < x))) = false) := by unfold Hid; rw [d1, d2]; rfl
          go_big_region
          all_goals (
           go_wp2_with (fail)
           go_end0
           refine ⟨rfl, W, Y, _, _, unhide HDS, unhide HXE, unhide HNG, unhide HKf, ?_, ?_, ?_⟩
           ·exact (VN.other (unhide HVf) hVR false).drewN _
           ·rw [unhide HFV]; exact ((unhide HRf).set3 false).drewN _
           ·exact ((KeptX.refl R W).setCell rfl _).drewN _)
end Go.Proofs.YtdpomdelmdofmaaGreatDoor

namespace Go.Proofs.YtdpomdelmdofmaaGreatDoor
open Go.RowKit
theorem trimR_cons (a : UInt8) (r : Sp.By) : Lib.trimRightB (a :: r) 48 = if Lib.trimRightB r 48 = [] then (if a = 48 then [] else [a]) else a :: Lib.trimRightB r 48 := by
 unfold Lib.trimRightB
 rw [List.reverse_cons, List.dropWhile_append]
 by_cases h : r.reverse.dropWhile (· == 48) = []
 ·simp only [h, List.isEmpty_nil, if_true, List.reverse_nil, List.dropWhile_cons, List.dropWhile_nil]
  by_cases ha : a = 48
  ·simp [ha]
  ·simp [ha]
 ·have h2 : (r.reverse.dropWhile (· == 48)).isEmpty = false := by simpa using h
  simp [h, h2]
theorem trim_comm (l : Sp.By) : Lib.trimLeftB (Lib.trimRightB l 48) 48 = Lib.trimRightB (Lib.trimLeftB l 48) 48 := by
 induction l with
 | nil => rfl
 | cons a r ih =>
  by_cases ha : a = 48
  ·subst ha
   have e1 : Lib.trimLeftB (48 :: r) 48 = Lib.trimLeftB r 48 := trimL_zero rfl
   rw [e1, ← ih, trimR_cons]
   by_cases h : Lib.trimRightB r 48 = []
   ·rw [if_pos h, if_pos rfl, h]
   ·rw [if_neg h]; exact trimL_zero rfl
  ·have e1 : Lib.trimLeftB (a :: r) 48 = a :: r := trimL_id (by simpa using ha)
   rw [e1, trimR_cons]
   by_cases h : Lib.trimRightB r 48 = []
   ·rw [if_pos h, if_neg ha]; exact trimL_id (by simpa using ha)
   ·rw [if_neg h]; exact trimL_id (by simpa using ha)
theorem dg_take (l : Sp.By) : l.take (Sp.dg l).length = Sp.dg l := by
 induction l with
 | nil => rfl
 | cons c r ih =>
  unfold Sp.dg
  split
  ·simp [ih]
  ·rfl
theorem dg_drop (l : Sp.By) : l.drop (Sp.dg l).length = Sp.dgR l := by
 induction l with
 | nil => rfl
 | cons c r ih =>
  unfold Sp.dg Sp.dgR
  split
  ·simpa using ih
  ·rfl
theorem At.dg {t : ByteArray} {p : Nat} {l : Sp.By} (h : At t p l) : At t (p + (Sp.dg l).length) (Sp.dgR l) := by
 have := h.add (Sp.dg l).length (by have := dg_len l; omega)
 rwa [dg_drop] at this
theorem ext_list (t : ByteArray) (p n : Nat) : (t.extract p (p + n)).data.toList = (t.data.toList.drop p).take n := by
 simp [List.take_drop]
theorem At.dgx {t : ByteArray} {p : Nat} {l : Sp.By} (h : At t p l) : (t.extract p (p + (Sp.dg l).length)).data.toList = Sp.dg l := by
 rw [ext_list, h.eq, dg_take]
theorem At.tail {t : ByteArray} {p : Nat} {l : Sp.By} {c : UInt8} (h : At t p l) (hk : Sp.tk l c = true) : At t (p + 1) l.tail := by
 cases l with
 | nil => cases hk
 | cons a r => exact h.next
theorem KeptX.via {R V : Nat} {w a b : World} (h : KeptX R w a) (k : KeptX V a b) (hV : w.heap.size ≤ V) : KeptX R w b :=
 ⟨k.os.trans h.os, k.tape.trans h.tape, k.output.trans h.output, Nat.le_trans h.size k.size, fun i hi hx => (k.block i (Nat.lt_of_lt_of_le hi h.size) (by omega)).trans (h.block i hi hx)⟩
theorem grt_bd (l : Sp.By) (hd : ∀ c ∈ l, 48 ≤ c.toNat ∧ c.toNat ≤ 57) : ∀ n : Int, 0 ≤ n → n ≤ 1000000000 → 0 ≤ Sp.grt l n ∧ Sp.grt l n ≤ 1000000000 := by
 induction l with
 | nil => intro n h0 h1; exact ⟨h0, h1⟩
 | cons c r ih =>
  intro n h0 h1
  have := hd c (by simp)
  exact ih (fun x hx => hd x (by simp [hx])) _ (by omega) (by omega)
theorem rexp_bd (l : Sp.By) : -1000000000 ≤ Sp.rexp l ∧ Sp.rexp l ≤ 1000000000 := by
 have h1 := grt_bd (Sp.dg l.tail.tail) (dg_all _) 0 (by omega) (by omega)
 have h2 := grt_bd (Sp.dg l.tail) (dg_all _) 0 (by omega) (by omega)
 unfold Sp.rexp
 repeat' split
 all_goals omega
def NumEnd (o : Option (Sp.Nm × Sp.By)) (x : Int) (t : ByteArray) (R : Nat) (mo : Int) (tw far : Bool) (w : World) (e : Ending) (w' : World) : Prop :=
 KeptX R w w' ∧ ((∃ (n : Sp.Nm) (r : Sp.By) (V q : Nat) (ds : ByteArray), o = some (n, r) ∧ e = .returned (.tuple #[.pointer (some ⟨V, 0, none⟩), .int .i64 q]) ∧ At t q r ∧ w.heap.size ≤ V ∧ ds.data.toList = n.2.1 ∧ VN w' V n.1 ds x ∧ RB w' R t mo tw (far || (decide (x < -mo) || decide (mo < x)))) ∨
  (o = none ∧ e = .returned (.tuple #[.pointer none, .int .i64 0]) ∧ RB w' R t mo tw far))
theorem NumEnd.fail {o : Option (Sp.Nm × Sp.By)} {x : Int} {t : ByteArray} {R V : Nat} {mo : Int} {tw far : Bool} {w w1 W : World} (h : o = none) (hr : RB w1 R t mo tw far) (hk1 : KeptX R w w1) (hk : KeptX V w1 W) (hV : w.heap.size ≤ V) (hVR : V ≠ R) :
  NumEnd o x t R mo tw far w (.returned (.tuple #[.pointer none, .int .i64 0])) W :=
 ⟨hk1.via hk hV, Or.inr ⟨h, rfl, hr.kept hk (Ne.symm hVR)⟩⟩
theorem VN.eq {w : World} {V : Nat} {ng : Bool} {ds : ByteArray} {x y : Int} (h : VN w V ng ds x) (e : x = y) : VN w V ng ds y := e ▸ h
theorem num_f {ng : Bool} {l : Sp.By} (h : (decide (Sp.dg l = []) || (Sp.tk l 48 && decide (1 < (Sp.dg l).length))) = false) (hf : Sp.frac (Sp.dgR l) = none) : Sp.numB ng l = none := by
 unfold Sp.numB
 rw [if_neg (by rw [h]; decide), hf]
theorem num_e {ng : Bool} {l f r : Sp.By} (h : (decide (Sp.dg l = []) || (Sp.tk l 48 && decide (1 < (Sp.dg l).length))) = false) (hf : Sp.frac (Sp.dgR l) = some (f, r)) :
  Sp.numB ng l = (Sp.expo r).map fun x => (Sp.mkNm ng (Sp.dg l ++ f) (x.1 - f.length), x.2) := by
 unfold Sp.numB
 rw [if_neg (by rw [h]; decide), hf]
 simp only
 cases Sp.expo r <;> rfl
theorem app_list (a b : ByteArray) : (a ++ b).data.toList = a.data.toList ++ b.data.toList := by simp
theorem mk_w (ng : Bool) (ds : Sp.By) (e : Int) : (Sp.mkNm ng ds e).1 = (if Lib.trimLeftB (Lib.trimRightB ds 48) 48 = [] then false else ng) ∧ (Sp.mkNm ng ds e).2.1 = Lib.trimLeftB (Lib.trimRightB ds 48) 48 := by
 unfold Sp.mkNm
 simp only
 rw [trim_comm]
 by_cases h : Lib.trimRightB (Lib.trimLeftB ds 48) 48 = []
 ·rw [if_pos h, if_pos h]; exact ⟨rfl, h.symm⟩
 ·rw [if_neg h, if_neg h]; exact ⟨rfl, rfl⟩
set_option maxRecDepth 100000 in
set_option maxHeartbeats 8000000 in
theorem rNumber_any {w : World} {R : Nat} {t : ByteArray} {p : Nat} {l : Sp.By} {mo : Int} {tw far : Bool} (hr : RB w R t mo tw far) (ha : At t p l) (hmo : 0 ≤ mo ∧ mo ≤ 400) :
  Calls Tryz.prog 127 #[.pointer (some ⟨R, 0, none⟩), .int .i64 p] w fun e w' => NumEnd (Sp.num l) (Sp.rex l) t R mo tw far w e w' := by
 obtain ⟨w1, hw1⟩ : ∃ w1, w1 = w.alloc (.cells #[.string ⟨#[110, 117, 109, 98, 101, 114]⟩, .bool false, .string ⟨#[]⟩, .int .i64 0, .string ⟨#[]⟩, .slice none 0 0, .slice none 0 0] 91) := ⟨_, rfl⟩
 have hv1 : VN w1 w.heap.size false ⟨#[]⟩ 0 := by rw [hw1]; exact heap_new _ _ _ rfl
 have hr1 : RB w1 R t mo tw far := by rw [hw1]; exact (Below.heap_alloc _ _ _ hr.lt).trans hr
 have hk1 : KeptX R w w1 := by rw [hw1]; exact (KeptX.refl R w).alloc _
 have hVR : w.heap.size ≠ R := by have := hr.lt; omega
 have HV1 := hide hv1
 have HR1 := hide hr1
 have HK1 := hide hk1
 have HA := hide ha
 have hsz := ha.small
 have hpl := ha.le
 have z1 := hv1.fz 1
 have c1 := hv1.c1
 clear hr hv1 hr1 hk1 ha
 go_enter Tryz.func127, Tryz.ntmps127
 go_wp2_with (fail)
 rw [← hw1]
 have HW1 := hide hw1
 clear hw1
 refine (rIs_any (unhide HR1).rs (unhide HA) 45 _ rfl).mono ?_
 rintro e w' ⟨rfl, rfl⟩
 go_upto_if 15 with (fail)
 go_cut [1] (fun s1 wx => ∃ (ng : Bool) (l' : Sp.By) (p' : Nat), s1 = .int .i64 p' ∧ At t p' l' ∧ Sp.num l = Sp.numB ng l' ∧ Sp.rex l = Sp.rexB l' ∧ VN wx w.heap.size ng ⟨#[]⟩ 0 ∧ KeptX w.heap.size w' wx)
 case first =>
  cases hk : Sp.tk l 45 with
  | true =>
   have HK := hide hk
   have hlt : p < t.size := by have := ((unhide HA).tail hk).le; omega
   clear hk
   go_wp2_with (fail)
   go_meet
   exact ⟨true, l.tail, p + 1, by go_num, (unhide HA).tail (unhide HK), by unfold Sp.num; rw [if_pos (unhide HK)], by unfold Sp.rex; rw [if_pos (unhide HK)], (unhide HV1).set1 true, KeptX.setCell (p := ⟨w.heap.size, 1, none⟩) (KeptX.refl _ _) rfl _⟩
  | false =>
   have HK := hide hk
   clear hk
   go_wp2_with (fail)
   go_meet
   exact ⟨false, l, p, rfl, unhide HA, by unfold Sp.num; rw [if_neg (by rw [unhide HK]; decide)], by unfold Sp.rex; rw [if_neg (by rw [unhide HK]; decide)], unhide HV1, KeptX.refl _ _⟩
 case rest =>
 obtain ⟨ng, l', p', rfl, ha', hn, hx, hv, hk⟩ := hcut
 have HN := hide hn
 have HX := hide hx
 have HV := hide hv
 have HK := hide hk
 have HA' := hide ha'
 have HR := hide ((unhide HR1).kept hk (Ne.symm hVR))
 have hpl' := ha'.le
 clear hn hx hv hk ha' z1 c1
 go_wp2_with (fail)
 refine (rDigits_any (unhide HR).rs (unhide HA')).mono ?_
 rintro e w2 ⟨rfl, rfl⟩
 obtain ⟨q, hq⟩ : ∃ q, q = p' + (Sp.dg l').length := ⟨_, rfl⟩
 rw [← hq]
 have hat := (unhide HA').dg
 have hex := (unhide HA').dgx
 rw [← hq] at hat hex
 have hql := hat.le
 have HAQ := hide hat
 have HEX := hide hex
 have HQ := hide hq
 have hpq : p' ≤ q := by omega
 clear hat hex hq
 go_upto_region 6 with (fail)
 go_cut [37] (fun s37 wx => s37 = .bool (decide (Sp.dg l' = []) || (Sp.tk l' 48 && decide (1 < (Sp.dg l').length))) ∧ wx = w2)
 case first =>
  by_cases h0 : Sp.dg l' = []
  ·have e0 : ((q : Int) == (p' : Int)) = true := by have := unhide HQ; rw [this, h0]; exact beq_self_eq_true _
   have HB := hide (show (decide (Sp.dg l' = []) || (Sp.tk l' 48 && decide (1 < (Sp.dg l').length))) = true by rw [decide_eq_true h0]; rfl)
   clear h0
   go_wp2_with (fail)
   go_meet
   exact ⟨by rw [unhide HB], rfl⟩
  ·have hne : 0 < (Sp.dg l').length := List.length_pos_iff.2 h0
   have e0 : ((q : Int) == (p' : Int)) = false := by
    rw [beq_eq_false_iff_ne]; intro h; have := Int.ofNat.inj h; have := unhide HQ; omega
   have HB := hide (show (decide (Sp.dg l' = []) || (Sp.tk l' 48 && decide (1 < (Sp.dg l').length))) = (Sp.tk l' 48 && decide (1 < (Sp.dg l').length)) by rw [decide_eq_false h0]; rfl)
   clear h0
   go_wp2_with (fail)
   refine (rIs_any (unhide HR).rs (unhide HA') 48 _ rfl).mono ?_
   rintro e w3 ⟨rfl, rfl⟩
   cases hk : Sp.tk l' 48 with
   | false =>
    have HK0 := hide hk
    clear hk
    go_wp2_with (fail)
    go_meet
    exact ⟨by rw [unhide HB, unhide HK0]; rfl, rfl⟩
   | true =>
    have HK0 := hide hk
    clear hk
    by_cases h1 : 1 < (Sp.dg l').length
    ·have e1 : decide ((p' : Int) + 1 < (q : Int)) = true := by have := unhide HQ; exact decide_eq_true (by omega)
     have H1 := hide h1
     clear h1
     go_wp2_with (fail)
     go_meet
     exact ⟨by rw [unhide HB, unhide HK0, decide_eq_true (unhide H1)]; rfl, rfl⟩
    ·have e1 : decide ((p' : Int) + 1 < (q : Int)) = false := by have := unhide HQ; exact decide_eq_false (by omega)
     have H1 := hide h1
     clear h1
     go_wp2_with (fail)
     go_meet
     exact ⟨by rw [unhide HB, unhide HK0, decide_eq_false (unhide H1)]; rfl, rfl⟩
 case rest =>
 obtain ⟨rfl, rfl⟩ := hcut
 cases hb : (decide (Sp.dg l' = []) || (Sp.tk l' 48 && decide (1 < (Sp.dg l').length))) with
 | true =>
  have HB := hide hb
  clear hb
  go_wp2_with (fail)
  go_ret2
  exact NumEnd.fail (by rw [unhide HN]; unfold Sp.numB; rw [if_pos (unhide HB)]) (unhide HR1) (unhide HK1) (unhide HK) (Nat.le_refl _) hVR
 | false =>
 have HNF := hide hb
 have rs0 := (unhide HR).rs
 unfold RS at rs0
 clear hb
 go_wp2_with (fail)
 refine (rIs_any (unhide HR).rs (unhide HAQ) 46 _ rfl).mono ?_
 rintro e w3 ⟨rfl, rfl⟩
 have c3 := (unhide HV).c3
 have z3 := (unhide HV).fz 3
 go_upto_if 48 with (fail)
 go_cut [1, 7, 8] (fun s1 s7 s8 wx => ∃ (f r1 : Sp.By) (q1 : Nat) (al : ByteArray), s1 = .int .i64 q1 ∧ s8 = .string al ∧ Sp.frac (Sp.dgR l') = some (f, r1) ∧ At t q1 r1 ∧ al.data.toList = Sp.dg l' ++ f ∧ f.length ≤ 2000 ∧ VN wx w.heap.size ng ⟨#[]⟩ (-(f.length : Int)) ∧ KeptX w.heap.size w3 wx)
 case first =>
  cases hk : Sp.tk (Sp.dgR l') 46 with
  | false =>
   have HK0 := hide hk
   clear hk
   go_wp2_with (fail)
   go_meet
   exact ⟨[], Sp.dgR l', q, t.extract p' q, rfl, rfl, by unfold Sp.frac; rw [if_neg (by rw [unhide HK0]; decide)], unhide HAQ, by rw [unhide HEX]; simp, by simp, unhide HV, KeptX.refl _ _⟩
  | true =>
   have hat1 := (unhide HAQ).tail hk
   have HK0 := hide hk
   have HAT1 := hide hat1
   have hq1l := hat1.le
   clear hk hat1
   go_wp2_with (fail)
   refine (rDigits_any (unhide HR).rs (unhide HAT1)).mono ?_
   rintro e w4 ⟨rfl, rfl⟩
   obtain ⟨q2, hq2⟩ : ∃ q2, q2 = q + 1 + (Sp.dg (Sp.dgR l').tail).length := ⟨_, rfl⟩
   rw [← hq2]
   have hat2 := (unhide HAT1).dg
   have hex2 := (unhide HAT1).dgx
   rw [← hq2] at hat2 hex2
   have hql2 := hat2.le
   have HAT2 := hide hat2
   have HEX2 := hide hex2
   clear hat2 hex2
   by_cases hd : Sp.dg (Sp.dgR l').tail = []
   ·have e0 : ((q2 : Int) == (q : Int) + 1) = true := by rw [hq2, hd]; simp
    have HF := hide (show Sp.frac (Sp.dgR l') = none by unfold Sp.frac; rw [if_pos (unhide HK0), if_pos hd])
    clear hd hq2
    go_wp2_with (fail)
    go_ret2
    exact NumEnd.fail (by rw [unhide HN]; exact num_f (unhide HNF) (unhide HF)) (unhide HR1) (unhide HK1) (unhide HK) (Nat.le_refl _) hVR
   ·have hne : 0 < (Sp.dg (Sp.dgR l').tail).length := List.length_pos_iff.2 hd
    have e0 : ((q2 : Int) == (q : Int) + 1) = false := by rw [beq_eq_false_iff_ne]; omega
    have HF := hide (show Sp.frac (Sp.dgR l') = some (Sp.dg (Sp.dgR l').tail, Sp.dgR (Sp.dgR l').tail) by unfold Sp.frac; rw [if_pos (unhide HK0), if_neg hd])
    have HFL := hide (show -((q2 : Int) - (q : Int) - 1) = -(((Sp.dg (Sp.dgR l').tail).length : Nat) : Int) by omega)
    have hle2 : q + 1 ≤ q2 := by omega
    have hs1 : (t.extract p' q).size ≤ 2000 := by rw [ByteArray.size_extract]; omega
    have hs2 : (t.extract (q + 1) q2).size ≤ 2000 := by rw [ByteArray.size_extract]; omega
    have hfl : (Sp.dg (Sp.dgR l').tail).length ≤ 2000 := by omega
    clear hd hq2 hne
    go_wp2_with (fail)
    go_meet
    exact ⟨_, _, q2, t.extract p' q ++ t.extract (q + 1) q2, rfl, rfl, unhide HF, unhide HAT2, by rw [app_list, unhide HEX, unhide HEX2], hfl, VN.eq ((unhide HV).set3 _) (unhide HFL), KeptX.setCell (p := ⟨w.heap.size, 3, none⟩) (KeptX.refl _ _) rfl _⟩
 case rest =>
 obtain ⟨f, r1, q1, al, rfl, rfl, hfr, hat1, hal, hfl, hv2, hk2⟩ := hcut
 have HFR := hide hfr
 have HAT1 := hide hat1
 have HAL := hide hal
 have HV2 := hide hv2
 have HK2 := hide hk2
 have HR3 := hide ((unhide HR).kept hk2 (Ne.symm hVR))
 have rs1 := (unhide HR3).rs
 unfold RS at rs1
 have hq1l := hat1.le
 have d3 := hv2.c3
 have y3 := hv2.fz 3
 clear hfr hat1 hal hv2 hk2 c3 z3 rs0
 go_upto_region 17 with (fail)
 go_cut [83] (fun s83 wx => s83 = .bool (Sp.tk r1 101 || Sp.tk r1 69) ∧ wx = wc)
 case first =>
  go_wp2_with (fail)
  refine (rIs_any (unhide HR3).rs (unhide HAT1) 101 _ rfl).mono ?_
  rintro e w4 ⟨rfl, rfl⟩
  cases hk : Sp.tk r1 101 with
  | true =>
   go_wp2_with (fail)
   go_meet
   exact ⟨by rw [hk]; rfl, rfl⟩
  | false =>
   go_wp2_with (fail)
   refine (rIs_any (unhide HR3).rs (unhide HAT1) 69 _ rfl).mono ?_
   rintro e w5 ⟨rfl, rfl⟩
   go_wp2_with (fail)
   go_meet
   exact ⟨by rw [hk]; rfl, rfl⟩
 case rest =>
 obtain ⟨rfl, rfl⟩ := hcut
 go_upto_if 83 with (fail)
 go_cut [1, 7, 9, 10] (fun s1 s7 s9 s10 wx => ∃ (ev : Int) (r2 : Sp.By) (q3 : Nat), s1 = .int .i64 q3 ∧ Sp.expo r1 = some (ev, r2) ∧ At t q3 r2 ∧ VN wx w.heap.size ng ⟨#[]⟩ (Sp.rexp r1 - (f.length : Int)) ∧ KeptX w.heap.size wc wx)
 case first =>
  cases hb : (Sp.tk r1 101 || Sp.tk r1 69) with
  | false =>
   have HB := hide hb
   clear hb
   go_wp2_with (fail)
   go_meet
   exact ⟨0, r1, q1, rfl, by unfold Sp.expo; rw [unhide HB]; rfl, unhide HAT1, VN.eq (unhide HV2) (by unfold Sp.rexp; rw [unhide HB]; simp), KeptX.refl _ _⟩
  | true =>
   have HB := hide hb
   have hat2 : At t (q1 + 1) r1.tail := by
    rcases Bool.or_eq_true _ _ ▸ hb with h | h
    ·exact (unhide HAT1).tail h
    ·exact (unhide HAT1).tail h
   have HAT2 := hide hat2
   have hq2l := hat2.le
   clear hb hat2
   go_wp2_with (fail)
   refine (rIs_any (unhide HR3).rs (unhide HAT2) 45 _ rfl).mono ?_
   rintro e w4 ⟨rfl, rfl⟩
   cases hk : Sp.tk r1.tail 45 with
   | true =>
    have hat4 := (unhide HAT2).tail hk
    have hq4l := hat4.le
    have HAT4 := hide hat4
    have HK0 := hide hk
    have hpxx : ((q1 + 1 + 1 : Nat) : Int) = (q1 : Int) + 1 + 1 := by omega
    clear hk hat4
    go_wp2_with (fail)
    refine (rDigits_any (unhide HR3).rs (unhide HAT4)).mono ?_
    rintro e w6 ⟨rfl, rfl⟩
    obtain ⟨q3, hq3⟩ : ∃ q3, q3 = (q1 + 1 + 1) + (Sp.dg r1.tail.tail).length := ⟨_, rfl⟩
    rw [← hq3]
    have hat3 := (unhide HAT4).dg
    have hex3 := (unhide HAT4).dgx
    rw [← hq3] at hat3 hex3
    have hql3 := hat3.le
    have hpx := (unhide HAT4).le
    have HAT3 := hide hat3
    have HEX3 := hide hex3
    clear hat3 hex3
    by_cases hd : Sp.dg r1.tail.tail = []
    ·have hq0 : q3 = (q1 + 1 + 1) := by rw [hq3, hd]; rfl
     have e0 : ((q3 : Int) == ((q1 + 1 + 1) : Nat)) = true := by rw [hq0]; exact beq_self_eq_true _
     have hE : Sp.expo r1 = none := by unfold Sp.expo; rw [if_pos (unhide HB), if_pos (unhide HK0)]; rw [if_pos hd]
     have HE := hide hE
     rw [hpxx] at e0
     clear hE hd hq3
     go_wp2_with (fail)
     go_ret2
     exact NumEnd.fail (by rw [unhide HN, num_e (unhide HNF) (unhide HFR), unhide HE]; rfl) (unhide HR1) (unhide HK1) ((unhide HK).trans (unhide HK2)) (Nat.le_refl _) hVR
    ·have hne : 0 < (Sp.dg r1.tail.tail).length := List.length_pos_iff.2 hd
     have e0 : ((q3 : Int) == ((q1 + 1 + 1) : Nat)) = false := by rw [beq_eq_false_iff_ne]; intro h; have : q3 = (q1 + 1 + 1) := Int.ofNat.inj h; omega
     have hle3 : (q1 + 1 + 1) ≤ q3 := by omega
     have hE : Sp.expo r1 = some (-(Sp.exNum (Sp.dg r1.tail.tail) 0), Sp.dgR r1.tail.tail) := by unfold Sp.expo; rw [if_pos (unhide HB), if_pos (unhide HK0)]; rw [if_neg hd]
     have hRX : Sp.rexp r1 = -(Sp.grt (Sp.dg r1.tail.tail) 0) := by unfold Sp.rexp; rw [if_pos (unhide HB), if_pos (unhide HK0)]
     have hgb := grt_bd (Sp.dg r1.tail.tail) (dg_all _) 0 (by omega) (by omega)
     obtain ⟨g, hg⟩ : ∃ g, g = Sp.grt (Sp.dg r1.tail.tail) 0 := ⟨_, rfl⟩
     rw [← hg] at hRX hgb
     obtain ⟨hg0, hg1⟩ := hgb
     have HG := hide (show Sp.grt (t.extract (q1 + 1 + 1) q3).data.toList 0 = g by rw [unhide HEX3, hg])
     have hss : (t.extract (q1 + 1 + 1) q3).size ≤ 2000 := by rw [ByteArray.size_extract]; omega
     have HDG := hide (show ∀ c ∈ (t.extract (q1 + 1 + 1) q3).data.toList, Sp.isD c = true by rw [unhide HEX3]; intro c hc; exact (isD_iff c).2 (dg_all _ c hc))
     have HSS := hide hss
     have HE := hide hE
     have HRX := hide hRX
     rw [hpxx] at e0
     clear hE hRX hd hq3 hne hg hss
     go_wp2_with (fail)
     refine (rGreat_any (t.extract (q1 + 1 + 1) q3) (unhide HSS) (unhide HDG) _).mono ?_
     rintro e w7 ⟨rfl, rfl⟩
     rw [unhide HG]
     go_wp2_with (fail)
     go_meet
     exact ⟨_, _, q3, rfl, unhide HE, unhide HAT3, by rw [unhide HRX]; exact VN.eq ((unhide HV2).set3 _) (by omega), KeptX.setCell (p := ⟨w.heap.size, 3, none⟩) (KeptX.refl _ _) rfl _⟩
   | false =>
    have HK0 := hide hk
    clear hk
    go_wp2_with (fail)
    refine (rIs_any (unhide HR3).rs (unhide HAT2) 43 _ rfl).mono ?_
    rintro e w5 ⟨rfl, rfl⟩
    cases hk : Sp.tk r1.tail 43 with
    | true =>
     have hat4 := (unhide HAT2).tail hk
     have hq4l := hat4.le
     have HAT4 := hide hat4
     have HK4 := hide hk
     have hpxx : ((q1 + 1 + 1 : Nat) : Int) = (q1 : Int) + 1 + 1 := by omega
     clear hk hat4
     go_wp2_with (fail)
     refine (rDigits_any (unhide HR3).rs (unhide HAT4)).mono ?_
     rintro e w6 ⟨rfl, rfl⟩
     obtain ⟨q3, hq3⟩ : ∃ q3, q3 = (q1 + 1 + 1) + (Sp.dg r1.tail.tail).length := ⟨_, rfl⟩
     rw [← hq3]
     have hat3 := (unhide HAT4).dg
     have hex3 := (unhide HAT4).dgx
     rw [← hq3] at hat3 hex3
     have hql3 := hat3.le
     have hpx := (unhide HAT4).le
     have HAT3 := hide hat3
     have HEX3 := hide hex3
     clear hat3 hex3
     by_cases hd : Sp.dg r1.tail.tail = []
     ·have hq0 : q3 = (q1 + 1 + 1) := by rw [hq3, hd]; rfl
      have e0 : ((q3 : Int) == ((q1 + 1 + 1) : Nat)) = true := by rw [hq0]; exact beq_self_eq_true _
      have hE : Sp.expo r1 = none := by unfold Sp.expo; rw [if_pos (unhide HB), if_neg (by rw [unhide HK0]; decide), if_pos (unhide HK4)]; rw [if_pos hd]
      have HE := hide hE
      rw [hpxx] at e0
      clear hE hd hq3
      go_wp2_with (fail)
      go_ret2
      exact NumEnd.fail (by rw [unhide HN, num_e (unhide HNF) (unhide HFR), unhide HE]; rfl) (unhide HR1) (unhide HK1) ((unhide HK).trans (unhide HK2)) (Nat.le_refl _) hVR
     ·have hne : 0 < (Sp.dg r1.tail.tail).length := List.length_pos_iff.2 hd
      have e0 : ((q3 : Int) == ((q1 + 1 + 1) : Nat)) = false := by rw [beq_eq_false_iff_ne]; intro h; have : q3 = (q1 + 1 + 1) := Int.ofNat.inj h; omega
      have hle3 : (q1 + 1 + 1) ≤ q3 := by omega
      have hE : Sp.expo r1 = some ((Sp.exNum (Sp.dg r1.tail.tail) 0), Sp.dgR r1.tail.tail) := by unfold Sp.expo; rw [if_pos (unhide HB), if_neg (by rw [unhide HK0]; decide), if_pos (unhide HK4)]; rw [if_neg hd]
      have hRX : Sp.rexp r1 = (Sp.grt (Sp.dg r1.tail.tail) 0) := by unfold Sp.rexp; rw [if_pos (unhide HB), if_neg (by rw [unhide HK0]; decide), if_pos (unhide HK4)]
      have hgb := grt_bd (Sp.dg r1.tail.tail) (dg_all _) 0 (by omega) (by omega)
      obtain ⟨g, hg⟩ : ∃ g, g = Sp.grt (Sp.dg r1.tail.tail) 0 := ⟨_, rfl⟩
      rw [← hg] at hRX hgb
      obtain ⟨hg0, hg1⟩ := hgb
      have HG := hide (show Sp.grt (t.extract (q1 + 1 + 1) q3).data.toList 0 = g by rw [unhide HEX3, hg])
      have hss : (t.extract (q1 + 1 + 1) q3).size ≤ 2000 := by rw [ByteArray.size_extract]; omega
      have HDG := hide (show ∀ c ∈ (t.extract (q1 + 1 + 1) q3).data.toList, Sp.isD c = true by rw [unhide HEX3]; intro c hc; exact (isD_iff c).2 (dg_all _ c hc))
      have HSS := hide hss
      have HE := hide hE
      have HRX := hide hRX
      rw [hpxx] at e0
      clear hE hRX hd hq3 hne hg hss
      go_wp2_with (fail)
      refine (rGreat_any (t.extract (q1 + 1 + 1) q3) (unhide HSS) (unhide HDG) _).mono ?_
      rintro e w7 ⟨rfl, rfl⟩
      rw [unhide HG]
      go_wp2_with (fail)
      go_meet
      exact ⟨_, _, q3, rfl, unhide HE, unhide HAT3, by rw [unhide HRX]; exact VN.eq ((unhide HV2).set3 _) (by omega), KeptX.setCell (p := ⟨w.heap.size, 3, none⟩) (KeptX.refl _ _) rfl _⟩
    | false =>
     have HK4 := hide hk
     have hpxx : ((q1 + 1 : Nat) : Int) = (q1 : Int) + 1 := by omega
     clear hk
     go_wp2_with (fail)
     refine (rDigits_any (unhide HR3).rs (unhide HAT2)).mono ?_
     rintro e w6 ⟨rfl, rfl⟩
     obtain ⟨q3, hq3⟩ : ∃ q3, q3 = (q1 + 1) + (Sp.dg r1.tail).length := ⟨_, rfl⟩
     rw [← hq3]
     have hat3 := (unhide HAT2).dg
     have hex3 := (unhide HAT2).dgx
     rw [← hq3] at hat3 hex3
     have hql3 := hat3.le
     have hpx := (unhide HAT2).le
     have HAT3 := hide hat3
     have HEX3 := hide hex3
     clear hat3 hex3
     by_cases hd : Sp.dg r1.tail = []
     ·have hq0 : q3 = (q1 + 1) := by rw [hq3, hd]; rfl
      have e0 : ((q3 : Int) == ((q1 + 1) : Nat)) = true := by rw [hq0]; exact beq_self_eq_true _
      have hE : Sp.expo r1 = none := by unfold Sp.expo; rw [if_pos (unhide HB), if_neg (by rw [unhide HK0]; decide), if_neg (by rw [unhide HK4]; decide)]; rw [if_pos hd]
      have HE := hide hE
      rw [hpxx] at e0
      clear hE hd hq3
      go_wp2_with (fail)
      go_ret2
      exact NumEnd.fail (by rw [unhide HN, num_e (unhide HNF) (unhide HFR), unhide HE]; rfl) (unhide HR1) (unhide HK1) ((unhide HK).trans (unhide HK2)) (Nat.le_refl _) hVR
     ·have hne : 0 < (Sp.dg r1.tail).length := List.length_pos_iff.2 hd
      have e0 : ((q3 : Int) == ((q1 + 1) : Nat)) = false := by rw [beq_eq_false_iff_ne]; intro h; have : q3 = (q1 + 1) := Int.ofNat.inj h; omega
      have hle3 : (q1 + 1) ≤ q3 := by omega
      have hE : Sp.expo r1 = some ((Sp.exNum (Sp.dg r1.tail) 0), Sp.dgR r1.tail) := by unfold Sp.expo; rw [if_pos (unhide HB), if_neg (by rw [unhide HK0]; decide), if_neg (by rw [unhide HK4]; decide)]; rw [if_neg hd]
      have hRX : Sp.rexp r1 = (Sp.grt (Sp.dg r1.tail) 0) := by unfold Sp.rexp; rw [if_pos (unhide HB), if_neg (by rw [unhide HK0]; decide), if_neg (by rw [unhide HK4]; decide)]
      have hgb := grt_bd (Sp.dg r1.tail) (dg_all _) 0 (by omega) (by omega)
      obtain ⟨g, hg⟩ : ∃ g, g = Sp.grt (Sp.dg r1.tail) 0 := ⟨_, rfl⟩
      rw [← hg] at hRX hgb
      obtain ⟨hg0, hg1⟩ := hgb
      have HG := hide (show Sp.grt (t.extract (q1 + 1) q3).data.toList 0 = g by rw [unhide HEX3, hg])
      have hss : (t.extract (q1 + 1) q3).size ≤ 2000 := by rw [ByteArray.size_extract]; omega
      have HDG := hide (show ∀ c ∈ (t.extract (q1 + 1) q3).data.toList, Sp.isD c = true by rw [unhide HEX3]; intro c hc; exact (isD_iff c).2 (dg_all _ c hc))
      have HSS := hide hss
      have HE := hide hE
      have HRX := hide hRX
      rw [hpxx] at e0
      clear hE hRX hd hq3 hne hg hss
      go_wp2_with (fail)
      refine (rGreat_any (t.extract (q1 + 1) q3) (unhide HSS) (unhide HDG) _).mono ?_
      rintro e w7 ⟨rfl, rfl⟩
      rw [unhide HG]
      go_wp2_with (fail)
      go_meet
      exact ⟨_, _, q3, rfl, unhide HE, unhide HAT3, by rw [unhide HRX]; exact VN.eq ((unhide HV2).set3 _) (by omega), KeptX.setCell (p := ⟨w.heap.size, 3, none⟩) (KeptX.refl _ _) rfl _⟩
 case rest =>
 obtain ⟨ev, r2, q3, rfl, hex2, hat3, hv3, hk3⟩ := hcut
 have HEX2 := hide hex2
 have HAT3 := hide hat3
 have HV3 := hide hv3
 have HK3 := hide hk3
 have HR4 := hide ((unhide HR3).kept hk3 (Ne.symm hVR))
 have hrx := rexp_bd r1
 have HTOLD := hide (rTold_one (all := al) hv3 (unhide HR4) hVR (by rw [Lib.size_eq, unhide HAL, List.length_append]; have := unhide HQ; omega) (by omega) hmo)
 clear hex2 hat3 hv3 hk3 rs1 d3 y3
 go_wp2_with (fail)
 refine (unhide HTOLD).mono ?_
 rintro e w9 ⟨rfl, W, ds, ng', x, hds, hx, hng, hkW, hvn, hrb, hkR⟩
 have hmk := mk_w ng (Sp.dg l' ++ f) (ev - f.length)
 have hnum : Sp.num l = some (Sp.mkNm ng (Sp.dg l' ++ f) (ev - f.length), r2) := by rw [unhide HN, num_e (unhide HNF) (unhide HFR), unhide HEX2]; rfl
 have hrex : x = Sp.rex l := by rw [hx, unhide HX, unhide HAL]; unfold Sp.rexB; rw [unhide HFR]
 have hng2 : ng' = (Sp.mkNm ng (Sp.dg l' ++ f) (ev - f.length)).1 := by rw [hng, hmk.1, hds, unhide HAL]
 have hds2 : ds.data.toList = (Sp.mkNm ng (Sp.dg l' ++ f) (ev - f.length)).2.1 := by rw [hds, hmk.2, unhide HAL]
 rw [hrex, hng2] at hvn
 rw [hrex] at hrb
 have HFIN := hide (show NumEnd (Sp.num l) (Sp.rex l) t R mo tw far w (.returned (.tuple #[.pointer (some ⟨w.heap.size, 0, none⟩), .int .i64 q3])) w9 from
  ⟨((unhide HK1).via ((((unhide HK).trans (unhide HK2)).trans (unhide HK3)).trans hkW) (Nat.le_refl _)).trans hkR, Or.inl ⟨_, r2, w.heap.size, q3, ds, hnum, rfl, unhide HAT3, Nat.le_refl _, hds2, hvn, hrb⟩⟩)
 clear hds hx hng hkW hvn hrb hkR hmk hnum hrex hng2 hds2
 go_wp2_with (fail)
 go_ret2
 exact unhide HFIN
end Go.Proofs.YtdpomdelmdofmaaGreatDoor

namespace Go.Proofs.YtdpomdelmdofmaaGreatDoor
open Go.RowKit
def Sp.faO (mo : Int) : Nat → Sp.O → Bool
 | 0, _ => false
 | f + 1, d => match d with
  | .agg [.lit (.bool _), .lit (.string _), .lit (.int _ _), .lit (.int _ x)] => decide (x < -mo) || decide (mo < x)
  | .slice es _ => es.any (Sp.faO mo f)
  | .map es => es.any (fun p => Sp.faO mo f p.2)
  | _ => false
def OB (w : World) (b : Nat) (k : Sp.By) (ng : Bool) (ds : Sp.By) (x : Int) (s : Sp.By) (ks vs : Value) : Prop :=
 w.heap[b]? = some (.cells #[.string ⟨k.toArray⟩, .bool ng, .string ⟨ds.toArray⟩, .int .i64 x, .string ⟨s.toArray⟩, ks, vs] 91 (0, 0))
def Sp.kdN : Sp.By := [110, 117, 109, 98, 101, 114]
def Sp.kdS : Sp.By := [115, 116, 114, 105, 110, 103]
def Sp.kdA : Sp.By := [97, 114, 114, 97, 121]
def Sp.kdO : Sp.By := [111, 98, 106, 101, 99, 116]
abbrev nilS : Value := .slice none 0 0
def strV (s : Sp.By) : Value := .string ⟨s.toArray⟩
section
variable {w : World} {b : Nat} {k : Sp.By} {ng : Bool} {ds : Sp.By} {x : Int} {s : Sp.By} {ks vs : Value}
theorem OB.lt (h : OB w b k ng ds x s ks vs) : b < w.heap.size := (Array.getElem?_eq_some_iff.1 h).1
theorem OB.c0 (h : OB w b k ng ds x s ks vs) : w.cell? ⟨b, 0, none⟩ = some (.string ⟨k.toArray⟩) := by simp [World.cell?, show w.heap[b]? = _ from h]
theorem OB.c1 (h : OB w b k ng ds x s ks vs) : w.cell? ⟨b, 1, none⟩ = some (.bool ng) := by simp [World.cell?, show w.heap[b]? = _ from h]
theorem OB.c2 (h : OB w b k ng ds x s ks vs) : w.cell? ⟨b, 2, none⟩ = some (.string ⟨ds.toArray⟩) := by simp [World.cell?, show w.heap[b]? = _ from h]
theorem OB.c3 (h : OB w b k ng ds x s ks vs) : w.cell? ⟨b, 3, none⟩ = some (.int .i64 x) := by simp [World.cell?, show w.heap[b]? = _ from h]
theorem OB.c4 (h : OB w b k ng ds x s ks vs) : w.cell? ⟨b, 4, none⟩ = some (.string ⟨s.toArray⟩) := by simp [World.cell?, show w.heap[b]? = _ from h]
theorem OB.c5 (h : OB w b k ng ds x s ks vs) : w.cell? ⟨b, 5, none⟩ = some ks := by simp [World.cell?, show w.heap[b]? = _ from h]
theorem OB.c6 (h : OB w b k ng ds x s ks vs) : w.cell? ⟨b, 6, none⟩ = some vs := by simp [World.cell?, show w.heap[b]? = _ from h]
theorem OB.fz (h : OB w b k ng ds x s ks vs) (o : Nat) : w.frozen? ⟨b, o, none⟩ = false := by simp [World.frozen?, show w.heap[b]? = _ from h]
theorem OB.kept (h : OB w b k ng ds x s ks vs) {w' : World} (hk : w'.heap[b]? = w.heap[b]?) : OB w' b k ng ds x s ks vs := hk.trans h
theorem OB.set5 (h : OB w b k ng ds x s ks vs) (u : Value) : OB (w.setCell ⟨b, 5, none⟩ u) b k ng ds x s u vs := by unfold OB at h ⊢; rw [row_set h]; rfl
theorem OB.set6 (h : OB w b k ng ds x s ks vs) (u : Value) : OB (w.setCell ⟨b, 6, none⟩ u) b k ng ds x s ks u := by unfold OB at h ⊢; rw [row_set h]; rfl
end
theorem VN.ob {w : World} {V : Nat} {ng : Bool} {ds : ByteArray} {x : Int} {l : Sp.By} (h : VN w V ng ds x) (e : ds.data.toList = l) : OB w V Sp.kdN ng l x [] nilS nilS := by
 have : ds = ⟨l.toArray⟩ := by rw [← e, Array.toArray_toList]
 subst this
 exact h
def ORep : Nat → (Nat → Prop) → World → Value → Sp.O → Prop
 | 0, _, _, _, _ => False
 | f + 1, F, w, v, o => ∃ b, v = .pointer (some ⟨b, 0, none⟩) ∧ F b ∧
  ((∃ k : Nat, k < 3 ∧ o = Sp.oWord k ∧ OB w b (Sp.words.getD k []) false [] 0 [] nilS nilS) ∨
   (∃ n x, o = Sp.oNum n x ∧ OB w b Sp.kdN n.1 n.2.1 x [] nilS nilS) ∨
   (∃ s, o = Sp.oStr s ∧ OB w b Sp.kdS false [] 0 s nilS nilS) ∨
   (∃ es sl ps, o = Sp.oArr es ∧ OB w b Sp.kdA false [] 0 [] nilS sl ∧ w.ownsRow 0 66 1 sl ps.length ps ∧ (∀ g, sl.ownBlock = some g → F g) ∧ Al (ORep f F w) ps es) ∨
   (∃ (es : Sp.Ms) (kl sl : Value) (ps : List Value), o = Sp.oObj es ∧ OB w b Sp.kdO false [] 0 [] kl sl ∧ w.ownsRow 0 9 1 kl es.length (es.map fun p => strV p.1) ∧ (∀ g, kl.ownBlock = some g → F g) ∧
    w.ownsRow 0 66 1 sl ps.length ps ∧ (∀ g, sl.ownBlock = some g → F g) ∧ Al (ORep f F w) ps (es.map (·.2))))
theorem ORep.move {F F' : Nat → Prop} {w w' : World} (hF : ∀ k, F k → k < w.heap.size → w'.heap[k]? = w.heap[k]? ∧ F' k) : ∀ {f : Nat} {v : Value} {o : Sp.O}, ORep f F w v o → ORep f F' w' v o := by
 intro f
 induction f with
 | zero => intro v o h; exact h
 | succ f ih =>
  intro v o h
  obtain ⟨b, hv, hb, h⟩ := h
  rcases h with ⟨k, hk, hd, h⟩ | ⟨n, x, hd, h⟩ | ⟨s, hd, h⟩ | ⟨es, sl, ps, hd, h, ho, hs, ha⟩ | ⟨es, kl, sl, ps, hd, h, ho, hs, ho2, hs2, ha⟩
  ·have g := hF b hb h.lt
   exact ⟨b, hv, g.2, Or.inl ⟨k, hk, hd, h.kept g.1⟩⟩
  ·have g := hF b hb h.lt
   exact ⟨b, hv, g.2, Or.inr (Or.inl ⟨n, x, hd, h.kept g.1⟩)⟩
  ·have g := hF b hb h.lt
   exact ⟨b, hv, g.2, Or.inr (Or.inr (Or.inl ⟨s, hd, h.kept g.1⟩))⟩
  ·have g := hF b hb h.lt
   exact ⟨b, hv, g.2, Or.inr (Or.inr (Or.inr (Or.inl ⟨es, sl, ps, hd, h.kept g.1, owns_kept ho (fun g' hg => (hF g' (hs g' hg) (owns_lt ho g' hg).1).1), fun g' hg => (hF g' (hs g' hg) (owns_lt ho g' hg).1).2, ha.mono (fun _ _ => ih)⟩)))⟩
  ·have g := hF b hb h.lt
   exact ⟨b, hv, g.2, Or.inr (Or.inr (Or.inr (Or.inr ⟨es, kl, sl, ps, hd, h.kept g.1, owns_kept ho (fun g' hg => (hF g' (hs g' hg) (owns_lt ho g' hg).1).1), fun g' hg => (hF g' (hs g' hg) (owns_lt ho g' hg).1).2,
    owns_kept ho2 (fun g' hg => (hF g' (hs2 g' hg) (owns_lt ho2 g' hg).1).1), fun g' hg => (hF g' (hs2 g' hg) (owns_lt ho2 g' hg).1).2, ha.mono (fun _ _ => ih)⟩)))⟩
theorem ORep.ptr {f : Nat} {F : Nat → Prop} {w : World} {v : Value} {o : Sp.O} (h : ORep f F w v o) : ∃ b, v = .pointer (some ⟨b, 0, none⟩) ∧ b < w.heap.size ∧ F b := by
 cases f with
 | zero => exact h.elim
 | succ f =>
  obtain ⟨b, hv, hb, h⟩ := h
  refine ⟨b, hv, ?_, hb⟩
  rcases h with ⟨k, hk, hd, h⟩ | ⟨n, x, hd, h⟩ | ⟨s, hd, h⟩ | ⟨es, sl, ps, hd, h, ho, hs, ha⟩ | ⟨es, kl, sl, ps, hd, h, ho, hs, ho2, hs2, ha⟩
  all_goals exact h.lt
theorem o_ptr : (Tryz.prog.info? 66).map (fun i => (i.zero, i.size, i.bytes)) = some (some (.pointer none), 1, 8) := by kernel_rfl
theorem o_str : (Tryz.prog.info? 9).map (fun i => (i.zero, i.size, i.bytes)) = some (some (.string ⟨#[]⟩), 1, 16) := by kernel_rfl
theorem owns_cell {w : World} {B e n : Nat} {v : Value} {xs : List Value} (h : w.ownsRow B e 1 v n xs) (hpos : 0 < n) : ∃ g cap, v = .slice (some ⟨g, 0, none⟩) n cap ∧ n ≤ cap ∧ cap ≤ maxLen ∧ g < w.heap.size ∧ ∀ k (hk : k < xs.length), w.cell? ⟨g, k, none⟩ = some xs[k] := by
 obtain ⟨hlen, h⟩ := h
 rcases h with ⟨_, h0⟩ | ⟨g, cap, cur, h1, _, h3, h4, h5, h6, h7⟩
 ·omega
 ·refine ⟨g, cap, h1, h4, h5, (Array.getElem?_eq_some_iff.1 h3).1, fun k hk => ?_⟩
  have hkc : k < cur.size := by rw [h6]; omega
  have e : w.cell? ⟨g, k, none⟩ = cur[k]? := by simp [World.cell?, h3]
  rw [e, Array.getElem?_eq_getElem hkc]
  congr 1
  have h8 : xs[k]? = some cur[k] := by
   rw [← h7, List.getElem?_take, if_pos (by omega)]
   simp
  rw [List.getElem?_eq_getElem hk] at h8
  exact (Option.some.inj h8).symm
end Go.Proofs.YtdpomdelmdofmaaGreatDoor
