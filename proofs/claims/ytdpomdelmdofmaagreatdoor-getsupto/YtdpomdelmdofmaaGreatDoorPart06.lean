/-
  Four bits more behind an int32: or is the sum there.
-/
import Derived.WalkKit
import Derived.Test.YtdpomdelmdofmaaGreatDoorPart05
namespace Go.Proofs.YtdpomdelmdofmaaGreatDoor
open Go.RowKit
theorem i32_wrap_small (n : Nat) (h : n < 2147483648) : IntKind.i32.wrap (n : Int) = (n : Int) := by
 simp only [IntKind.wrap, IntKind.bits, IntKind.signed]
 simp
 omega
theorem ofInt_32 (a : Nat) (ha : a < 4294967296) : (BitVec.ofInt 32 (a : Int)).toNat = a := by
 rw [BitVec.ofInt_natCast, BitVec.toNat_ofNat]; exact Nat.mod_eq_of_lt (by omega)
theorem i32_or_nat (a b : Nat) (ha : a < 2147483648) (hb : b < 2147483648) : bits .or .i32 (a : Int) (b : Int) = ((a ||| b : Nat) : Int) := by
 have hor : a ||| b < 2147483648 := Nat.or_lt_two_pow (n := 31) ha hb
 show IntKind.i32.wrap ((BitVec.ofInt 32 (a : Int) ||| BitVec.ofInt 32 (b : Int)).toNat : Int) = _
 rw [BitVec.toNat_or, ofInt_32 a (by omega), ofInt_32 b (by omega)]
 exact i32_wrap_small _ hor
theorem hex_or (m d : Nat) (hm : m < 65536) (hd : d < 16) : bits .or .i32 (wrap32 ((m : Int) * 16)) (d : Int) = ((m * 16 + d : Nat) : Int) := by
 have e : wrap32 ((m : Int) * 16) = ((m * 16 : Nat) : Int) := by unfold wrap32; omega
 rw [e, i32_or_nat _ _ (by omega) (by omega)]
 have := Nat.shiftLeft_add_eq_or_of_lt (i := 4) (b := d) (by omega) m
 rw [Nat.shiftLeft_eq] at this
 rw [show m * 16 = m * 2 ^ 4 from rfl, this]
end Go.Proofs.YtdpomdelmdofmaaGreatDoor

namespace Go.Proofs.YtdpomdelmdofmaaGreatDoor
open Go.RowKit
set_option maxHeartbeats 1000000 in
theorem fourDigits_any {w : World} {R : Nat} {t : ByteArray} {l : Sp.By} {tw : Bool} {dp fr : Int} (h : RD w R t l tw dp fr) :
  Calls Tryz.prog 312 #[.pointer (some ⟨R, 0, none⟩)] w fun e w' => KeptX R w w' ∧ ∃ l', RD w' R t l' tw dp fr ∧
   ((∃ n, Sp.hexs 4 0 l = some (n, l') ∧ e = .returned (.tuple #[.int .i32 n, .bool true])) ∨ (Sp.hexs 4 0 l = none ∧ e = .returned (.tuple #[.int .i32 0, .bool false]))) := by
 go_enter Tryz.func312, Tryz.ntmps312
 go_wp2_with (fail)
 go_loopw [4, 7] (fun n i wr => ∃ (k m : Nat) (l' : Sp.By), k ≤ 4 ∧ i = .int .i64 k ∧ n = .int .i32 m ∧ m < 16 ^ k ∧ RD wr R t l' tw dp fr ∧ Sp.hexs 4 0 l = Sp.hexs (4 - k) m l' ∧ KeptX R w wr) (fun _ i _ => 4 - (intOf i).toNat)
 case atStart => exact ⟨0, 0, l, by omega, rfl, rfl, by omega, h, rfl, KeptX.refl R w⟩
 case round =>
  obtain ⟨k, m, l', hk4, rfl, rfl, hm, hr, he, hk⟩ := hrel
  have HE := hide he
  clear he h
  by_cases hlt : k < 4
  ·have h5 : ∃ j, 4 - k = j + 1 := ⟨3 - k, by omega⟩
   cases hd : Sp.hexd (Sp.pk l') with
   | none =>
    have HD := hide hd
    clear hd
    go_wp2_with (fail)
    refine (peekK hr).mono ?_
    rintro e w1 ⟨rfl, hr1, hk1⟩
    go_wp2_with (fail)
    refine (hex_none _ _ (pk_lt l') (unhide HD)).mono ?_
    rintro e w2 ⟨rfl, rfl⟩
    go_wp2_with (fail)
    go_ret2
    refine ⟨hk.trans hk1, l', hr1, Or.inr ⟨?_, rfl⟩⟩
    obtain ⟨j, hj⟩ := h5
    rw [unhide HE, hj, Sp.hexs, unhide HD]
   | some d =>
    have HD := hide hd
    have hdl := hexd_lt hd
    clear hd
    go_wp2_with (fail)
    refine (peekK hr).mono ?_
    rintro e w1 ⟨rfl, hr1, hk1⟩
    go_wp2_with (fail)
    refine (hex_some _ d _ (unhide HD)).mono ?_
    rintro e w2 ⟨rfl, rfl⟩
    obtain ⟨q, ha, hq⟩ := hr1
    have c1 := hq.c1
    have f1 := hq.fz 1
    have hs := ha.small
    have hq9 := ha.le
    have HQ := hide hq
    have HA1 := hide ha
    clear hq ha hr
    go_wp2_with (fail)
    go_roundw
    case rel =>
     obtain ⟨j, hj⟩ := h5
     have hp3 : (16 : Nat) ^ k ≤ 16 ^ 3 := Nat.pow_le_pow_right (by omega) (by omega)
     have hone : 1 ≤ l'.length := by
      have := unhide HD
      cases l' with
      | nil => simp [Sp.pk, Sp.hexd] at this
      | cons c r => simp
     refine ⟨k + 1, m * 16 + d, l'.tail, by omega, by go_num, by rw [hex_or m d (by omega) hdl], by rw [Nat.pow_succ]; omega, ⟨q + 1, by simpa using (unhide HA1).add 1 hone, (unhide HQ).set1 (q + 1)⟩, ?_, (hk.trans hk1).setCell rfl _⟩
     rw [unhide HE, hj, Sp.hexs, unhide HD, show 4 - (k + 1) = j by omega]
    case measure => simp [intOf]; omega
  ·go_wp2_with (fail)
   go_ret2
   refine ⟨hk, l', hr, Or.inl ⟨m, ?_, rfl⟩⟩
   rw [unhide HE, show 4 - k = 0 by omega, Sp.hexs]
end Go.Proofs.YtdpomdelmdofmaaGreatDoor

namespace Go.Proofs.YtdpomdelmdofmaaGreatDoor
open Go.RowKit
theorem tk_false {l : Sp.By} {c : UInt8} (h : ¬ Sp.tk l c = true) : Sp.tk l c = false := by simpa using h
theorem skB_yes {l : Sp.By} {c : UInt8} (h : Sp.tk l c = true) (hc : Sp.isB c = true) : Sp.skB l = Sp.skB l.tail ∧ l.tail.length < l.length := by
 cases l with
 | nil => simp [Sp.tk] at h
 | cons d r =>
  have : d = c := by simpa [Sp.tk] using h
  subst this
  simp [Sp.skB, hc]
theorem skB_no {l : Sp.By} (h1 : Sp.tk l 32 = false) (h2 : Sp.tk l 9 = false) (h3 : Sp.tk l 10 = false) (h4 : Sp.tk l 13 = false) : Sp.skB l = l := by
 cases l with
 | nil => rfl
 | cons d r =>
  simp [Sp.tk] at h1 h2 h3 h4
  simp [Sp.skB, Sp.isB, h1, h2, h3, h4]
set_option maxHeartbeats 1000000 in
theorem blanks_any {w : World} {R : Nat} {t : ByteArray} {l : Sp.By} {tw : Bool} {dp fr : Int} (h : RD w R t l tw dp fr) :
  Calls Tryz.prog 136 #[.pointer (some ⟨R, 0, none⟩)] w fun e w' => e = .returned (.tuple #[]) ∧ RD w' R t (Sp.skB l) tw dp fr ∧ KeptX R w w' := by
 go_enter Tryz.func136, Tryz.ntmps136
 go_wp2_with (fail)
 go_loopw [2] (fun _ wr => ∃ l', RD wr R t l' tw dp fr ∧ Sp.skB l = Sp.skB l' ∧ KeptX R w wr) (fun _ wr => left wr R)
 case atStart => exact ⟨l, h, rfl, KeptX.refl R w⟩
 case round =>
  obtain ⟨l', hr, he, hk⟩ := hrel
  have HE := hide he
  have HL := hide hr.left
  clear he h
  by_cases k1 : Sp.tk l' 32 = true
  ·go_wp2_with (fail)
   refine (take_yes 32 _ rfl hr k1).mono ?_
   rintro e w' ⟨rfl, hr', hk'⟩
   go_wp2_with (fail)
   go_roundw
   case rel => exact ⟨l'.tail, hr', (unhide HE).trans (skB_yes k1 rfl).1, hk.trans hk'⟩
   case measure => rw [hr'.left, unhide HL]; exact (skB_yes k1 rfl).2
  ·have k1 := hide (tk_false k1)
   go_wp2_with (fail)
   refine (takeN 32 _ rfl hr (unhide k1)).mono ?_
   rintro e w1 ⟨rfl, hr1, hk1⟩
   have hk1 := hk.trans hk1
   by_cases k2 : Sp.tk l' 9 = true
   ·go_wp2_with (fail)
    refine (take_yes 9 _ rfl hr1 k2).mono ?_
    rintro e w' ⟨rfl, hr', hk'⟩
    go_wp2_with (fail)
    go_roundw
    case rel => exact ⟨l'.tail, hr', (unhide HE).trans (skB_yes k2 rfl).1, hk1.trans hk'⟩
    case measure => rw [hr'.left, unhide HL]; exact (skB_yes k2 rfl).2
   ·have k2 := hide (tk_false k2)
    go_wp2_with (fail)
    refine (takeN 9 _ rfl hr1 (unhide k2)).mono ?_
    rintro e w2 ⟨rfl, hr2, hk2⟩
    have hk2 := hk1.trans hk2
    by_cases k3 : Sp.tk l' 10 = true
    ·go_wp2_with (fail)
     refine (take_yes 10 _ rfl hr2 k3).mono ?_
     rintro e w' ⟨rfl, hr', hk'⟩
     go_wp2_with (fail)
     go_roundw
     case rel => exact ⟨l'.tail, hr', (unhide HE).trans (skB_yes k3 rfl).1, hk2.trans hk'⟩
     case measure => rw [hr'.left, unhide HL]; exact (skB_yes k3 rfl).2
    ·have k3 := hide (tk_false k3)
     go_wp2_with (fail)
     refine (takeN 10 _ rfl hr2 (unhide k3)).mono ?_
     rintro e w3 ⟨rfl, hr3, hk3⟩
     have hk3 := hk2.trans hk3
     by_cases k4 : Sp.tk l' 13 = true
     ·go_wp2_with (fail)
      refine (take_yes 13 _ rfl hr3 k4).mono ?_
      rintro e w' ⟨rfl, hr', hk'⟩
      go_wp2_with (fail)
      go_roundw
      case rel => exact ⟨l'.tail, hr', (unhide HE).trans (skB_yes k4 rfl).1, hk3.trans hk'⟩
      case measure => rw [hr'.left, unhide HL]; exact (skB_yes k4 rfl).2
     ·have k4 := hide (tk_false k4)
      go_wp2_with (fail)
      refine (takeN 13 _ rfl hr3 (unhide k4)).mono ?_
      rintro e w4 ⟨rfl, hr4, hk4⟩
      have hk4 := hk3.trans hk4
      go_wp2_with (fail)
      have hq := skB_no (unhide k1) (unhide k2) (unhide k3) (unhide k4)
      go_end0
      refine ⟨rfl, ?_, hk4⟩
      rw [unhide HE, hq]
      exact hr4
end Go.Proofs.YtdpomdelmdofmaaGreatDoor
