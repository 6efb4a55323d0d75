/-
  Walks of the reader's smallest functions: peek and take.
-/
import Derived.Test.YtdpomdelmdofmaaGreatDoorPart01
import Derived.WalkKit
namespace Go.Proofs.YtdpomdelmdofmaaGreatDoor
open Go.RowKit
set_option maxHeartbeats 400000 in
theorem peek_any {w : World} {R : Nat} {t : ByteArray} {l : Sp.By} {tw : Bool} {dp fr : Int} (h : RD w R t l tw dp fr) :
  Calls Tryz.prog 179 #[.pointer (some ⟨R, 0, none⟩)] w fun e w' => e = .returned (.int .u8 (Sp.pk l)) ∧ ∃ n, w' = w.drewN n := by
 obtain ⟨p, ha, h⟩ := h
 have c0 := h.c0
 have c1 := h.c1
 clear h
 cases l with
 | cons c l =>
  have hlt := ha.lt
  have hne : ((p : Int) == (t.size : Int)) = false := by simp; omega
  have hpk : Hid (Sp.pk (c :: l) = t[p].toNat) := by rw [ha.byte]; rfl
  clear ha
  go_enter Tryz.func179, Tryz.ntmps179
  go_wp2_with (fail)
  go_quiet (fail)
  go_wp2_with (fail)
  go_quiet (fail)
  go_wp2_with (fail)
  rw [hpk.out]
  go_ret
  exact ⟨rfl, _, drewN_two _ _ _⟩
 | nil =>
  have hp := ha.nil
  have hne : ((p : Int) == (t.size : Int)) = true := by simp; omega
  clear ha hp
  go_enter Tryz.func179, Tryz.ntmps179
  go_wp2_with (fail)
  go_quiet (fail)
  go_wp2_with (fail)
  go_ret
  exact ⟨rfl, _, rfl⟩
set_option maxHeartbeats 400000 in
theorem take_no {w : World} {R : Nat} {t : ByteArray} {l : Sp.By} {tw : Bool} {dp fr : Int} (u : UInt8) (c : Int) (hc : c = u.toNat) (h : RD w R t l tw dp fr) (hk : Sp.tk l u = false) :
  Calls Tryz.prog 178 #[.pointer (some ⟨R, 0, none⟩), .int .u8 c] w fun e w' => e = .returned (.bool false) ∧ ∃ n, w' = w.drewN n := by
 obtain ⟨p, ha, h⟩ := h
 have c0 := h.c0
 have c1 := h.c1
 clear h
 cases l with
 | cons d l =>
  have hlt := ha.lt
  have hne : ((p : Int) == (t.size : Int)) = false := by simp; omega
  have hne2 : ((t[p].toNat : Int) == c) = false := by
   rw [ha.byte, hc]
   simp [Sp.tk] at hk ⊢
   intro h; exact hk (UInt8.toNat_inj.1 (by exact_mod_cast h))
  have hne3 : ((t[p].toNat : Int) != c) = true := by rw [bne, hne2]; rfl
  clear hk ha hc
  go_enter Tryz.func178, Tryz.ntmps178
  go_wp2_with (fail)
  go_quiet (fail)
  go_wp2_with (fail)
  go_ret
  exact ⟨rfl, _, rfl⟩
 | nil =>
  have hp := ha.nil
  have hne : ((p : Int) == (t.size : Int)) = true := by simp; omega
  clear hk ha hp hc
  go_enter Tryz.func178, Tryz.ntmps178
  go_wp2_with (fail)
  go_quiet (fail)
  go_wp2_with (fail)
  go_ret
  exact ⟨rfl, _, rfl⟩
set_option maxHeartbeats 400000 in
theorem take_yes {w : World} {R : Nat} {t : ByteArray} {l : Sp.By} {tw : Bool} {dp fr : Int} (u : UInt8) (c : Int) (hc : c = u.toNat) (h : RD w R t l tw dp fr) (hk : Sp.tk l u = true) :
  Calls Tryz.prog 178 #[.pointer (some ⟨R, 0, none⟩), .int .u8 c] w fun e w' => e = .returned (.bool true) ∧ RD w' R t l.tail tw dp fr ∧ KeptX R w w' := by
 obtain ⟨p, ha, h⟩ := h
 cases l with
 | nil => simp [Sp.tk] at hk
 | cons d l =>
  have hlt := ha.lt
  have hne : ((p : Int) == (t.size : Int)) = false := by simp; omega
  have hp9 : (p : Int) < 2000 := by have := ha.small; omega
  have hne2 : ((t[p].toNat : Int) == c) = true := by rw [ha.byte, hc]; simp [Sp.tk] at hk ⊢; rw [hk]
  have hne3 : ((t[p].toNat : Int) != c) = false := by rw [bne, hne2]; rfl
  have HF : Hid (∀ n, RD ((w.drewN n).setCell ⟨R, 1, none⟩ (.int .i64 ((p + 1 : Nat) : Int))) R t l tw dp fr) := hide fun n => ⟨p + 1, ha.next, (h.drewN n).set1 (p + 1)⟩
  have HK : Hid (∀ n v, KeptX R w ((w.drewN n).setCell ⟨R, 1, none⟩ v)) := hide fun n v => ((KeptX.refl R w).drewN n).setCell rfl v
  have c0 := h.c0
  have c1 := h.c1
  have f1 := h.fz 1
  clear hk h ha hc
  go_enter Tryz.func178, Tryz.ntmps178
  go_wp2_with (fail)
  go_quiet (fail)
  go_wp2_with (fail)
  go_ret
  exact ⟨rfl, unhide HF _, unhide HK _ _⟩
end Go.Proofs.YtdpomdelmdofmaaGreatDoor

namespace Go.Proofs.YtdpomdelmdofmaaGreatDoor
open Go.RowKit
def isDn (n : Nat) : Bool := decide (48 ≤ n) && decide (n ≤ 57)
set_option maxHeartbeats 400000 in
theorem isDigit_any (n : Nat) (w : World) (hn : n < 256) :
  Calls Tryz.prog 183 #[.int .u8 n] w fun e w' => e = .returned (.bool (isDn n)) ∧ w' = w := by
 have hd : Hid (isDn n = (decide (48 ≤ (n : Int)) && decide ((n : Int) ≤ 57))) := by
  simp only [isDn, Hid]
  rw [Bool.eq_iff_iff]; simp; omega
 by_cases h1 : 48 ≤ n
 ·have e1 : decide ((48 : Int) ≤ (n : Int)) = true := by simp; omega
  go_enter Tryz.func183, Tryz.ntmps183
  go_wp2_with (fail)
  rw [hd.out]
  go_ret
  exact ⟨by simp [e1], rfl⟩
 ·have e1 : decide ((48 : Int) ≤ (n : Int)) = false := by simp; omega
  go_enter Tryz.func183, Tryz.ntmps183
  go_wp2_with (fail)
  rw [hd.out]
  go_ret
  exact ⟨by simp [e1], rfl⟩
theorem peekK {w : World} {R : Nat} {t : ByteArray} {l : Sp.By} {tw : Bool} {dp fr : Int} (h : RD w R t l tw dp fr) :
  Calls Tryz.prog 179 #[.pointer (some ⟨R, 0, none⟩)] w fun e w' => e = .returned (.int .u8 (Sp.pk l)) ∧ RD w' R t l tw dp fr ∧ KeptX R w w' :=
 (peek_any h).mono fun _ _ ⟨he, n, hw⟩ => ⟨he, hw ▸ h.drewN n, hw ▸ (KeptX.refl R w).drewN n⟩
theorem takeN {w : World} {R : Nat} {t : ByteArray} {l : Sp.By} {tw : Bool} {dp fr : Int} (u : UInt8) (c : Int) (hc : c = u.toNat) (h : RD w R t l tw dp fr) (hk : Sp.tk l u = false) :
  Calls Tryz.prog 178 #[.pointer (some ⟨R, 0, none⟩), .int .u8 c] w fun e w' => e = .returned (.bool false) ∧ RD w' R t l tw dp fr ∧ KeptX R w w' :=
 (take_no u c hc h hk).mono fun _ _ ⟨he, n, hw⟩ => ⟨he, hw ▸ h.drewN n, hw ▸ (KeptX.refl R w).drewN n⟩
theorem pk_lt (l : Sp.By) : Sp.pk l < 256 := by
 cases l with
 | nil => simp [Sp.pk]
 | cons c r => simpa [Sp.pk] using c.toNat_lt
end Go.Proofs.YtdpomdelmdofmaaGreatDoor

namespace Go.Proofs.YtdpomdelmdofmaaGreatDoor
open Go.RowKit
set_option maxHeartbeats 1000000 in
theorem hex_a (n : Nat) (w : World) (h1 : 48 ≤ n) (h2 : n ≤ 57) :
  Calls Tryz.prog 319 #[.int .u8 n] w fun e w' => e = .returned (.tuple #[.int .i32 ((n : Int) - 48), .bool true]) ∧ w' = w := by
 have hd : isDn n = true := by simp [isDn, h1, h2]
 have HD := hide hd
 clear hd
 go_enter Tryz.func319, Tryz.ntmps319
 go_wp2_with (fail)
 refine (isDigit_any n _ (by omega)).mono ?_
 rintro e w2 ⟨rfl, rfl⟩
 rw [unhide HD]
 go_wp2_with (fail)
 go_ret2
 exact ⟨rfl, rfl⟩
set_option maxHeartbeats 1000000 in
theorem hex_b (n : Nat) (w : World) (h1 : 97 ≤ n) (h2 : n ≤ 102) :
  Calls Tryz.prog 319 #[.int .u8 n] w fun e w' => e = .returned (.tuple #[.int .i32 ((n : Int) - 97 + 10), .bool true]) ∧ w' = w := by
 have hd : isDn n = false := by simp [isDn]; omega
 have HD := hide hd
 have e1 : decide ((97 : Int) ≤ (n : Int)) = true := by simp; omega
 have e2 : decide ((n : Int) ≤ 102) = true := by simp; omega
 clear hd
 go_enter Tryz.func319, Tryz.ntmps319
 go_wp2_with (fail)
 refine (isDigit_any n _ (by omega)).mono ?_
 rintro e w2 ⟨rfl, rfl⟩
 rw [unhide HD]
 go_wp2_with (fail)
 go_ret2
 exact ⟨rfl, rfl⟩
set_option maxHeartbeats 1000000 in
theorem hex_c (n : Nat) (w : World) (h1 : 65 ≤ n) (h2 : n ≤ 70) :
  Calls Tryz.prog 319 #[.int .u8 n] w fun e w' => e = .returned (.tuple #[.int .i32 ((n : Int) - 65 + 10), .bool true]) ∧ w' = w := by
 have hd : isDn n = false := by simp [isDn]; omega
 have HD := hide hd
 have e1 : decide ((97 : Int) ≤ (n : Int)) = false := by simp; omega
 have e2 : decide ((65 : Int) ≤ (n : Int)) = true := by simp; omega
 have e3 : decide ((n : Int) ≤ 70) = true := by simp; omega
 clear hd
 go_enter Tryz.func319, Tryz.ntmps319
 go_wp2_with (fail)
 refine (isDigit_any n _ (by omega)).mono ?_
 rintro e w2 ⟨rfl, rfl⟩
 rw [unhide HD]
 go_wp2_with (fail)
 go_ret2
 exact ⟨rfl, rfl⟩
set_option maxHeartbeats 1000000 in
theorem hex_d (n : Nat) (w : World) (h0 : n < 256) (h1 : ¬ (48 ≤ n ∧ n ≤ 57)) (h2 : ¬ (97 ≤ n ∧ n ≤ 102)) (h3 : ¬ (65 ≤ n ∧ n ≤ 70)) :
  Calls Tryz.prog 319 #[.int .u8 n] w fun e w' => e = .returned (.tuple #[.int .i32 0, .bool false]) ∧ w' = w := by
 have hd : isDn n = false := by simp [isDn]; omega
 have HD := hide hd
 have hc : (n < 65) ∨ (70 < n ∧ n < 97) ∨ (102 < n) := by omega
 clear hd h1 h2 h3
 rcases hc with a | ⟨a, b⟩ | a
 ·have e1 : decide ((97 : Int) ≤ (n : Int)) = false := by simp; omega
  have e2 : decide ((65 : Int) ≤ (n : Int)) = false := by simp; omega
  go_enter Tryz.func319, Tryz.ntmps319
  go_wp2_with (fail)
  refine (isDigit_any n _ (by omega)).mono ?_
  rintro e w2 ⟨rfl, rfl⟩
  rw [unhide HD]
  go_wp2_with (fail)
  go_ret2
  exact ⟨rfl, rfl⟩
 ·have e1 : decide ((97 : Int) ≤ (n : Int)) = false := by simp; omega
  have e2 : decide ((65 : Int) ≤ (n : Int)) = true := by simp; omega
  have e3 : decide ((n : Int) ≤ 70) = false := by simp; omega
  go_enter Tryz.func319, Tryz.ntmps319
  go_wp2_with (fail)
  refine (isDigit_any n _ (by omega)).mono ?_
  rintro e w2 ⟨rfl, rfl⟩
  rw [unhide HD]
  go_wp2_with (fail)
  go_ret2
  exact ⟨rfl, rfl⟩
 ·have e1 : decide ((97 : Int) ≤ (n : Int)) = true := by simp; omega
  have e2 : decide ((n : Int) ≤ 102) = false := by simp; omega
  have e3 : decide ((65 : Int) ≤ (n : Int)) = true := by simp; omega
  have e4 : decide ((n : Int) ≤ 70) = false := by simp; omega
  go_enter Tryz.func319, Tryz.ntmps319
  go_wp2_with (fail)
  refine (isDigit_any n _ (by omega)).mono ?_
  rintro e w2 ⟨rfl, rfl⟩
  rw [unhide HD]
  go_wp2_with (fail)
  go_ret2
  exact ⟨rfl, rfl⟩
theorem hex_some (n d : Nat) (w : World) (h : Sp.hexd n = some d) :
  Calls Tryz.prog 319 #[.int .u8 n] w fun e w' => e = .returned (.tuple #[.int .i32 d, .bool true]) ∧ w' = w := by
 unfold Sp.hexd at h
 split at h
 ·rename_i a; injection h with h; subst h
  exact (hex_a n w a.1 a.2).mono fun e w' he => ⟨by rw [he.1, Int.ofNat_sub a.1]; rfl, he.2⟩
 ·split at h
  ·rename_i a; injection h with h; subst h
   exact (hex_b n w a.1 a.2).mono fun e w' he => ⟨by rw [he.1, Int.natCast_add, Int.ofNat_sub a.1]; rfl, he.2⟩
  ·split at h
   ·rename_i a; injection h with h; subst h
    exact (hex_c n w a.1 a.2).mono fun e w' he => ⟨by rw [he.1, Int.natCast_add, Int.ofNat_sub a.1]; rfl, he.2⟩
   ·cases h
theorem hex_none (n : Nat) (w : World) (h0 : n < 256) (h : Sp.hexd n = none) :
  Calls Tryz.prog 319 #[.int .u8 n] w fun e w' => e = .returned (.tuple #[.int .i32 0, .bool false]) ∧ w' = w := by
 unfold Sp.hexd at h
 split at h
 ·cases h
 ·split at h
  ·cases h
  ·split at h
   ·cases h
   ·rename_i a b c
    exact hex_d n w h0 a b c
theorem hexd_lt {n d : Nat} (h : Sp.hexd n = some d) : d < 16 := by
 unfold Sp.hexd at h
 split at h
 ·injection h with h; omega
 ·split at h
  ·injection h with h; omega
  ·split at h
   ·injection h with h; omega
   ·cases h
end Go.Proofs.YtdpomdelmdofmaaGreatDoor
/-
  Four bits more behind an int32: or is the sum there.
-/
namespace Go.Proofs.YtdpomdelmdofmaaGreatDoor
open Go.RowKit
theorem i32_wrap_small (n : Nat) (h : n < 2147483648) : IntKind.i32.wrap (n : Int) = (n : Int) := by
 simp only [IntKind.wrap, IntKind.bits, IntKind.signed]
 simp
 omega
theorem ofInt_32 (a : Nat) (ha : a < 4294967296) : (BitVec.ofInt 32 (a : Int)).toNat = a := by
 rw [BitVec.ofInt_natCast, BitVec.toNat_ofNat]; exact Nat.mod_eq_of_lt (by omega)
theorem i32_or_nat (a b : Nat) (ha : a < 2147483648) (hb : b < 2147483648) : bits .or .i32 (a : Int) (b : Int) = ((a ||| b : Nat) : Int) := by
 have hor : a ||| b < 2147483648 := Nat.or_lt_two_pow (n := 31) ha hb
 show IntKind.i32.wrap ((BitVec.ofInt 32 (a : Int) ||| BitVec.ofInt 32 (b : Int)).toNat : Int) = _
 rw [BitVec.toNat_or, ofInt_32 a (by omega), ofInt_32 b (by omega)]
 exact i32_wrap_small _ hor
theorem hex_or (m d : Nat) (hm : m < 65536) (hd : d < 16) : bits .or .i32 (wrap32 ((m : Int) * 16)) (d : Int) = ((m * 16 + d : Nat) : Int) := by
 have e : wrap32 ((m : Int) * 16) = ((m * 16 : Nat) : Int) := by unfold wrap32; omega
 rw [e, i32_or_nat _ _ (by omega) (by omega)]
 have := Nat.shiftLeft_add_eq_or_of_lt (i := 4) (b := d) (by omega) m
 rw [Nat.shiftLeft_eq] at this
 rw [show m * 16 = m * 2 ^ 4 from rfl, this]
end Go.Proofs.YtdpomdelmdofmaaGreatDoor

namespace Go.Proofs.YtdpomdelmdofmaaGreatDoor
open Go.RowKit
set_option maxHeartbeats 1000000 in
theorem fourDigits_any {w : World} {R : Nat} {t : ByteArray} {l : Sp.By} {tw : Bool} {dp fr : Int} (h : RD w R t l tw dp fr) :
  Calls Tryz.prog 312 #[.pointer (some ⟨R, 0, none⟩)] w fun e w' => KeptX R w w' ∧ ∃ l', RD w' R t l' tw dp fr ∧
   ((∃ n, Sp.hexs 4 0 l = some (n, l') ∧ e = .returned (.tuple #[.int .i32 n, .bool true])) ∨ (Sp.hexs 4 0 l = none ∧ e = .returned (.tuple #[.int .i32 0, .bool false]))) := by
 go_enter Tryz.func312, Tryz.ntmps312
 go_wp2_with (fail)
 go_loopw [4, 7] (fun n i wr => ∃ (k m : Nat) (l' : Sp.By), k ≤ 4 ∧ i = .int .i64 k ∧ n = .int .i32 m ∧ m < 16 ^ k ∧ RD wr R t l' tw dp fr ∧ Sp.hexs 4 0 l = Sp.hexs (4 - k) m l' ∧ KeptX R w wr) (fun _ i _ => 4 - (intOf i).toNat)
 case atStart => exact ⟨0, 0, l, by omega, rfl, rfl, by omega, h, rfl, KeptX.refl R w⟩
 case round =>
  obtain ⟨k, m, l', hk4, rfl, rfl, hm, hr, he, hk⟩ := hrel
  have HE := hide he
  clear he h
  by_cases hlt : k < 4
  ·have h5 : ∃ j, 4 - k = j + 1 := ⟨3 - k, by omega⟩
   cases hd : Sp.hexd (Sp.pk l') with
   | none =>
    have HD := hide hd
    clear hd
    go_wp2_with (fail)
    refine (peekK hr).mono ?_
    rintro e w1 ⟨rfl, hr1, hk1⟩
    go_wp2_with (fail)
    refine (hex_none _ _ (pk_lt l') (unhide HD)).mono ?_
    rintro e w2 ⟨rfl, rfl⟩
    go_wp2_with (fail)
    go_ret2
    refine ⟨hk.trans hk1, l', hr1, Or.inr ⟨?_, rfl⟩⟩
    obtain ⟨j, hj⟩ := h5
    rw [unhide HE, hj, Sp.hexs, unhide HD]
   | some d =>
    have HD := hide hd
    have hdl := hexd_lt hd
    clear hd
    go_wp2_with (fail)
    refine (peekK hr).mono ?_
    rintro e w1 ⟨rfl, hr1, hk1⟩
    go_wp2_with (fail)
    refine (hex_some _ d _ (unhide HD)).mono ?_
    rintro e w2 ⟨rfl, rfl⟩
    obtain ⟨q, ha, hq⟩ := hr1
    have c1 := hq.c1
    have f1 := hq.fz 1
    have hs := ha.small
    have hq9 := ha.le
    have HQ := hide hq
    have HA1 := hide ha
    clear hq ha hr
    go_wp2_with (fail)
    go_roundw
    case rel =>
     obtain ⟨j, hj⟩ := h5
     have hp3 : (16 : Nat) ^ k ≤ 16 ^ 3 := Nat.pow_le_pow_right (by omega) (by omega)
     have hone : 1 ≤ l'.length := by
      have := unhide HD
      cases l' with
      | nil => simp [Sp.pk, Sp.hexd] at this
      | cons c r => simp
     refine ⟨k + 1, m * 16 + d, l'.tail, by omega, by go_num, by rw [hex_or m d (by omega) hdl], by rw [Nat.pow_succ]; omega, ⟨q + 1, by simpa using (unhide HA1).add 1 hone, (unhide HQ).set1 (q + 1)⟩, ?_, (hk.trans hk1).setCell rfl _⟩
     rw [unhide HE, hj, Sp.hexs, unhide HD, show 4 - (k + 1) = j by omega]
    case measure => simp [intOf]; omega
  ·go_wp2_with (fail)
   go_ret2
   refine ⟨hk, l', hr, Or.inl ⟨m, ?_, rfl⟩⟩
   rw [unhide HE, show 4 - k = 0 by omega, Sp.hexs]
end Go.Proofs.YtdpomdelmdofmaaGreatDoor

namespace Go.Proofs.YtdpomdelmdofmaaGreatDoor
open Go.RowKit
theorem tk_false {l : Sp.By} {c : UInt8} (h : ¬ Sp.tk l c = true) : Sp.tk l c = false := by simpa using h
theorem skB_yes {l : Sp.By} {c : UInt8} (h : Sp.tk l c = true) (hc : Sp.isB c = true) : Sp.skB l = Sp.skB l.tail ∧ l.tail.length < l.length := by
 cases l with
 | nil => simp [Sp.tk] at h
 | cons d r =>
  have : d = c := by simpa [Sp.tk] using h
  subst this
  simp [Sp.skB, hc]
theorem skB_no {l : Sp.By} (h1 : Sp.tk l 32 = false) (h2 : Sp.tk l 9 = false) (h3 : Sp.tk l 10 = false) (h4 : Sp.tk l 13 = false) : Sp.skB l = l := by
 cases l with
 | nil => rfl
 | cons d r =>
  simp [Sp.tk] at h1 h2 h3 h4
  simp [Sp.skB, Sp.isB, h1, h2, h3, h4]
set_option maxHeartbeats 1000000 in
theorem blanks_any {w : World} {R : Nat} {t : ByteArray} {l : Sp.By} {tw : Bool} {dp fr : Int} (h : RD w R t l tw dp fr) :
  Calls Tryz.prog 136 #[.pointer (some ⟨R, 0, none⟩)] w fun e w' => e = .returned (.tuple #[]) ∧ RD w' R t (Sp.skB l) tw dp fr ∧ KeptX R w w' := by
 go_enter Tryz.func136, Tryz.ntmps136
 go_wp2_with (fail)
 go_loopw [2] (fun _ wr => ∃ l', RD wr R t l' tw dp fr ∧ Sp.skB l = Sp.skB l' ∧ KeptX R w wr) (fun _ wr => left wr R)
 case atStart => exact ⟨l, h, rfl, KeptX.refl R w⟩
 case round =>
  obtain ⟨l', hr, he, hk⟩ := hrel
  have HE := hide he
  have HL := hide hr.left
  clear he h
  by_cases k1 : Sp.tk l' 32 = true
  ·go_wp2_with (fail)
   refine (take_yes 32 _ rfl hr k1).mono ?_
   rintro e w' ⟨rfl, hr', hk'⟩
   go_wp2_with (fail)
   go_roundw
   case rel => exact ⟨l'.tail, hr', (unhide HE).trans (skB_yes k1 rfl).1, hk.trans hk'⟩
   case measure => rw [hr'.left, unhide HL]; exact (skB_yes k1 rfl).2
  ·have k1 := hide (tk_false k1)
   go_wp2_with (fail)
   refine (takeN 32 _ rfl hr (unhide k1)).mono ?_
   rintro e w1 ⟨rfl, hr1, hk1⟩
   have hk1 := hk.trans hk1
   by_cases k2 : Sp.tk l' 9 = true
   ·go_wp2_with (fail)
    refine (take_yes 9 _ rfl hr1 k2).mono ?_
    rintro e w' ⟨rfl, hr', hk'⟩
    go_wp2_with (fail)
    go_roundw
    case rel => exact ⟨l'.tail, hr', (unhide HE).trans (skB_yes k2 rfl).1, hk1.trans hk'⟩
    case measure => rw [hr'.left, unhide HL]; exact (skB_yes k2 rfl).2
   ·have k2 := hide (tk_false k2)
    go_wp2_with (fail)
    refine (takeN 9 _ rfl hr1 (unhide k2)).mono ?_
    rintro e w2 ⟨rfl, hr2, hk2⟩
    have hk2 := hk1.trans hk2
    by_cases k3 : Sp.tk l' 10 = true
    ·go_wp2_with (fail)
     refine (take_yes 10 _ rfl hr2 k3).mono ?_
     rintro e w' ⟨rfl, hr', hk'⟩
     go_wp2_with (fail)
     go_roundw
     case rel => exact ⟨l'.tail, hr', (unhide HE).trans (skB_yes k3 rfl).1, hk2.trans hk'⟩
     case measure => rw [hr'.left, unhide HL]; exact (skB_yes k3 rfl).2
    ·have k3 := hide (tk_false k3)
     go_wp2_with (fail)
     refine (takeN 10 _ rfl hr2 (unhide k3)).mono ?_
     rintro e w3 ⟨rfl, hr3, hk3⟩
     have hk3 := hk2.trans hk3
     by_cases k4 : Sp.tk l' 13 = true
     ·go_wp2_with (fail)
      refine (take_yes 13 _ rfl hr3 k4).mono ?_
      rintro e w' ⟨rfl, hr', hk'⟩
      go_wp2_with (fail)
      go_roundw
      case rel => exact ⟨l'.tail, hr', (unhide HE).trans (skB_yes k4 rfl).1, hk3.trans hk'⟩
      case measure => rw [hr'.left, unhide HL]; exact (skB_yes k4 rfl).2
     ·have k4 := hide (tk_false k4)
      go_wp2_with (fail)
      refine (takeN 13 _ rfl hr3 (unhide k4)).mono ?_
      rintro e w4 ⟨rfl, hr4, hk4⟩
      have hk4 := hk3.trans hk4
      go_wp2_with (fail)
      have hq := skB_no (unhide k1) (unhide k2) (unhide k3) (unhide k4)
      go_end0
      refine ⟨rfl, ?_, hk4⟩
      rw [unhide HE, hq]
      exact hr4
end Go.Proofs.YtdpomdelmdofmaaGreatDoor
