/-
  Walks of the reader's smallest functions: peek and take.
-/
import Derived.Test.YtdpomdelmdofmaaGreatDoorPart01
namespace Go.Proofs.YtdpomdelmdofmaaGreatDoor
open Go.RowKit
set_option maxHeartbeats 400000 in
theorem peek_any {w : World} {R : Nat} {t : ByteArray} {l : Sp.By} {tw : Bool} {dp fr : Int} (h : RD w R t l tw dp fr) :
  Calls Tryz.prog 179 #[.pointer (some ⟨R, 0, none⟩)] w fun e w' => e = .returned (.int .u8 (Sp.pk l)) ∧ ∃ n, w' = w.drewN n := by
 obtain ⟨p, ha, h⟩ := h
 have c0 := h.c0
 have c1 := h.c1
 clear h
 cases l with
 | cons c l =>
  have hlt := ha.lt
  have hne : ((p : Int) == (t.size : Int)) = false := by simp; omega
  have hpk : Hid (Sp.pk (c :: l) = t[p].toNat) := by rw [ha.byte]; rfl
  clear ha
  go_enter Tryz.func179, Tryz.ntmps179
  go_wp2_with (fail)
  go_quiet (fail)
  go_wp2_with (fail)
  go_quiet (fail)
  go_wp2_with (fail)
  rw [hpk.out]
  go_ret
  exact ⟨rfl, _, drewN_two _ _ _⟩
 | nil =>
  have hp := ha.nil
  have hne : ((p : Int) == (t.size : Int)) = true := by simp; omega
  clear ha hp
  go_enter Tryz.func179, Tryz.ntmps179
  go_wp2_with (fail)
  go_quiet (fail)
  go_wp2_with (fail)
  go_ret
  exact ⟨rfl, _, rfl⟩
set_option maxHeartbeats 400000 in
theorem take_no {w : World} {R : Nat} {t : ByteArray} {l : Sp.By} {tw : Bool} {dp fr : Int} (u : UInt8) (c : Int) (hc : c = u.toNat) (h : RD w R t l tw dp fr) (hk : Sp.tk l u = false) :
  Calls Tryz.prog 178 #[.pointer (some ⟨R, 0, none⟩), .int .u8 c] w fun e w' => e = .returned (.bool false) ∧ ∃ n, w' = w.drewN n := by
 obtain ⟨p, ha, h⟩ := h
 have c0 := h.c0
 have c1 := h.c1
 clear h
 cases l with
 | cons d l =>
  have hlt := ha.lt
  have hne : ((p : Int) == (t.size : Int)) = false := by simp; omega
  have hne2 : ((t[p].toNat : Int) == c) = false := by
   rw [ha.byte, hc]
   simp [Sp.tk] at hk ⊢
   intro h; exact hk (UInt8.toNat_inj.1 (by exact_mod_cast h))
  have hne3 : ((t[p].toNat : Int) != c) = true := by rw [bne, hne2]; rfl
  clear hk ha hc
  go_enter Tryz.func178, Tryz.ntmps178
  go_wp2_with (fail)
  go_quiet (fail)
  go_wp2_with (fail)
  go_ret
  exact ⟨rfl, _, rfl⟩
 | nil =>
  have hp := ha.nil
  have hne : ((p : Int) == (t.size : Int)) = true := by simp; omega
  clear hk ha hp hc
  go_enter Tryz.func178, Tryz.ntmps178
  go_wp2_with (fail)
  go_quiet (fail)
  go_wp2_with (fail)
  go_ret
  exact ⟨rfl, _, rfl⟩
set_option maxHeartbeats 400000 in
theorem take_yes {w : World} {R : Nat} {t : ByteArray} {l : Sp.By} {tw : Bool} {dp fr : Int} (u : UInt8) (c : Int) (hc : c = u.toNat) (h : RD w R t l tw dp fr) (hk : Sp.tk l u = true) :
  Calls Tryz.prog 178 #[.pointer (some ⟨R, 0, none⟩), .int .u8 c] w fun e w' => e = .returned (.bool true) ∧ RD w' R t l.tail tw dp fr ∧ KeptX R w w' := by
 obtain ⟨p, ha, h⟩ := h
 cases l with
 | nil => simp [Sp.tk] at hk
 | cons d l =>
  have hlt := ha.lt
  have hne : ((p : Int) == (t.size : Int)) = false := by simp; omega
  have hp9 : (p : Int) < 2000 := by have := ha.small; omega
  have hne2 : ((t[p].toNat : Int) == c) = true := by rw [ha.byte, hc]; simp [Sp.tk] at hk ⊢; rw [hk]
  have hne3 : ((t[p].toNat : Int) != c) = false := by rw [bne, hne2]; rfl
  have HF : Hid (∀ n, RD ((w.drewN n).setCell ⟨R, 1, none⟩ (.int .i64 ((p + 1 : Nat) : Int))) R t l tw dp fr) := hide fun n => ⟨p + 1, ha.next, (h.drewN n).set1 (p + 1)⟩
  have HK : Hid (∀ n v, KeptX R w ((w.drewN n).setCell ⟨R, 1, none⟩ v)) := hide fun n v => ((KeptX.refl R w).drewN n).setCell rfl v
  have c0 := h.c0
  have c1 := h.c1
  have f1 := h.fz 1
  clear hk h ha hc
  go_enter Tryz.func178, Tryz.ntmps178
  go_wp2_with (fail)
  go_quiet (fail)
  go_wp2_with (fail)
  go_ret
  exact ⟨rfl, unhide HF _, unhide HK _ _⟩
end Go.Proofs.YtdpomdelmdofmaaGreatDoor

namespace Go.Proofs.YtdpomdelmdofmaaGreatDoor
open Go.RowKit
def isDn (n : Nat) : Bool := decide (48 ≤ n) && decide (n ≤ 57)
set_option maxHeartbeats 400000 in
theorem isDigit_any (n : Nat) (w : World) (hn : n < 256) :
  Calls Tryz.prog 183 #[.int .u8 n] w fun e w' => e = .returned (.bool (isDn n)) ∧ w' = w := by
 have hd : Hid (isDn n = (decide (48 ≤ (n : Int)) && decide ((n : Int) ≤ 57))) := by
  simp only [isDn, Hid]
  rw [Bool.eq_iff_iff]; simp; omega
 by_cases h1 : 48 ≤ n
 ·have e1 : decide ((48 : Int) ≤ (n : Int)) = true := by simp; omega
  go_enter Tryz.func183, Tryz.ntmps183
  go_wp2_with (fail)
  rw [hd.out]
  go_ret
  exact ⟨by simp [e1], rfl⟩
 ·have e1 : decide ((48 : Int) ≤ (n : Int)) = false := by simp; omega
  go_enter Tryz.func183, Tryz.ntmps183
  go_wp2_with (fail)
  rw [hd.out]
  go_ret
  exact ⟨by simp [e1], rfl⟩
theorem peekK {w : World} {R : Nat} {t : ByteArray} {l : Sp.By} {tw : Bool} {dp fr : Int} (h : RD w R t l tw dp fr) :
  Calls Tryz.prog 179 #[.pointer (some ⟨R, 0, none⟩)] w fun e w' => e = .returned (.int .u8 (Sp.pk l)) ∧ RD w' R t l tw dp fr ∧ KeptX R w w' :=
 (peek_any h).mono fun _ _ ⟨he, n, hw⟩ => ⟨he, hw ▸ h.drewN n, hw ▸ (KeptX.refl R w).drewN n⟩
theorem takeN {w : World} {R : Nat} {t : ByteArray} {l : Sp.By} {tw : Bool} {dp fr : Int} (u : UInt8) (c : Int) (hc : c = u.toNat) (h : RD w R t l tw dp fr) (hk : Sp.tk l u = false) :
  Calls Tryz.prog 178 #[.pointer (some ⟨R, 0, none⟩), .int .u8 c] w fun e w' => e = .returned (.bool false) ∧ RD w' R t l tw dp fr ∧ KeptX R w w' :=
 (take_no u c hc h hk).mono fun _ _ ⟨he, n, hw⟩ => ⟨he, hw ▸ h.drewN n, hw ▸ (KeptX.refl R w).drewN n⟩
theorem pk_lt (l : Sp.By) : Sp.pk l < 256 := by
 cases l with
 | nil => simp [Sp.pk]
 | cons c r => simpa [Sp.pk] using c.toNat_lt
end Go.Proofs.YtdpomdelmdofmaaGreatDoor

namespace Go.Proofs.YtdpomdelmdofmaaGreatDoor
open Go.RowKit
set_option maxHeartbeats 1000000 in
theorem hex_a (n : Nat) (w : World) (h1 : 48 ≤ n) (h2 : n ≤ 57) :
  Calls Tryz.prog 319 #[.int .u8 n] w fun e w' => e = .returned (.tuple #[.int .i32 ((n : Int) - 48), .bool true]) ∧ w' = w := by
 have hd : isDn n = true := by simp [isDn, h1, h2]
 have HD := hide hd
 clear hd
 go_enter Tryz.func319, Tryz.ntmps319
 go_wp2_with (fail)
 refine (isDigit_any n _ (by omega)).mono ?_
 rintro e w2 ⟨rfl, rfl⟩
 rw [unhide HD]
 go_wp2_with (fail)
 go_ret2
 exact ⟨rfl, rfl⟩
set_option maxHeartbeats 1000000 in
theorem hex_b (n : Nat) (w : World) (h1 : 97 ≤ n) (h2 : n ≤ 102) :
  Calls Tryz.prog 319 #[.int .u8 n] w fun e w' => e = .returned (.tuple #[.int .i32 ((n : Int) - 97 + 10), .bool true]) ∧ w' = w := by
 have hd : isDn n = false := by simp [isDn]; omega
 have HD := hide hd
 have e1 : decide ((97 : Int) ≤ (n : Int)) = true := by simp; omega
 have e2 : decide ((n : Int) ≤ 102) = true := by simp; omega
 clear hd
 go_enter Tryz.func319, Tryz.ntmps319
 go_wp2_with (fail)
 refine (isDigit_any n _ (by omega)).mono ?_
 rintro e w2 ⟨rfl, rfl⟩
 rw [unhide HD]
 go_wp2_with (fail)
 go_ret2
 exact ⟨rfl, rfl⟩
set_option maxHeartbeats 1000000 in
theorem hex_c (n : Nat) (w : World) (h1 : 65 ≤ n) (h2 : n ≤ 70) :
  Calls Tryz.prog 319 #[.int .u8 n] w fun e w' => e = .returned (.tuple #[.int .i32 ((n : Int) - 65 + 10), .bool true]) ∧ w' = w := by
 have hd : isDn n = false := by simp [isDn]; omega
 have HD := hide hd
 have e1 : decide ((97 : Int) ≤ (n : Int)) = false := by simp; omega
 have e2 : decide ((65 : Int) ≤ (n : Int)) = true := by simp; omega
 have e3 : decide ((n : Int) ≤ 70) = true := by simp; omega
 clear hd
 go_enter Tryz.func319, Tryz.ntmps319
 go_wp2_with (fail)
 refine (isDigit_any n _ (by omega)).mono ?_
 rintro e w2 ⟨rfl, rfl⟩
 rw [unhide HD]
 go_wp2_with (fail)
 go_ret2
 exact ⟨rfl, rfl⟩
set_option maxHeartbeats 1000000 in
theorem hex_d (n : Nat) (w : World) (h0 : n < 256) (h1 : ¬ (48 ≤ n ∧ n ≤ 57)) (h2 : ¬ (97 ≤ n ∧ n ≤ 102)) (h3 : ¬ (65 ≤ n ∧ n ≤ 70)) :
  Calls Tryz.prog 319 #[.int .u8 n] w fun e w' => e = .returned (.tuple #[.int .i32 0, .bool false]) ∧ w' = w := by
 have hd : isDn n = false := by simp [isDn]; omega
 have HD := hide hd
 have hc : (n < 65) ∨ (70 < n ∧ n < 97) ∨ (102 < n) := by omega
 clear hd h1 h2 h3
 rcases hc with a | ⟨a, b⟩ | a
 ·have e1 : decide ((97 : Int) ≤ (n : Int)) = false := by simp; omega
  have e2 : decide ((65 : Int) ≤ (n : Int)) = false := by simp; omega
  go_enter Tryz.func319, Tryz.ntmps319
  go_wp2_with (fail)
  refine (isDigit_any n _ (by omega)).mono ?_
  rintro e w2 ⟨rfl, rfl⟩
  rw [unhide HD]
  go_wp2_with (fail)
  go_ret2
  exact ⟨rfl, rfl⟩
 ·have e1 : decide ((97 : Int) ≤ (n : Int)) = false := by simp; omega
  have e2 : decide ((65 : Int) ≤ (n : Int)) = true := by simp; omega
  have e3 : decide ((n : Int) ≤ 70) = false := by simp; omega
  go_enter Tryz.func319, Tryz.ntmps319
  go_wp2_with (fail)
  refine (isDigit_any n _ (by omega)).mono ?_
  rintro e w2 ⟨rfl, rfl⟩
  rw [unhide HD]
  go_wp2_with (fail)
  go_ret2
  exact ⟨rfl, rfl⟩
 ·have e1 : decide ((97 : Int) ≤ (n : Int)) = true := by simp; omega
  have e2 : decide ((n : Int) ≤ 102) = false := by simp; omega
  have e3 : decide ((65 : Int) ≤ (n : Int)) = true := by simp; omega
  have e4 : decide ((n : Int) ≤ 70) = false := by simp; omega
  go_enter Tryz.func319, Tryz.ntmps319
  go_wp2_with (fail)
  refine (isDigit_any n _ (by omega)).mono ?_
  rintro e w2 ⟨rfl, rfl⟩
  rw [unhide HD]
  go_wp2_with (fail)
  go_ret2
  exact ⟨rfl, rfl⟩
theorem hex_some (n d : Nat) (w : World) (h : Sp.hexd n = some d) :
  Calls Tryz.prog 319 #[.int .u8 n] w fun e w' => e = .returned (.tuple #[.int .i32 d, .bool true]) ∧ w' = w := by
 unfold Sp.hexd at h
 split at h
 ·rename_i a; injection h with h; subst h
  exact (hex_a n w a.1 a.2).mono fun e w' he => ⟨by rw [he.1, Int.ofNat_sub a.1]; rfl, he.2⟩
 ·split at h
  ·rename_i a; injection h with h; subst h
   exact (hex_b n w a.1 a.2).mono fun e w' he => ⟨by rw [he.1, Int.natCast_add, Int.ofNat_sub a.1]; rfl, he.2⟩
  ·split at h
   ·rename_i a; injection h with h; subst h
    exact (hex_c n w a.1 a.2).mono fun e w' he => ⟨by rw [he.1, Int.natCast_add, Int.ofNat_sub a.1]; rfl, he.2⟩
   ·cases h
theorem hex_none (n : Nat) (w : World) (h0 : n < 256) (h : Sp.hexd n = none) :
  Calls Tryz.prog 319 #[.int .u8 n] w fun e w' => e = .returned (.tuple #[.int .i32 0, .bool false]) ∧ w' = w := by
 unfold Sp.hexd at h
 split at h
 ·cases h
 ·split at h
  ·cases h
  ·split at h
   ·cases h
   ·rename_i a b c
    exact hex_d n w h0 a b c
theorem hexd_lt {n d : Nat} (h : Sp.hexd n = some d) : d < 16 := by
 unfold Sp.hexd at h
 split at h
 ·injection h with h; omega
 ·split at h
  ·injection h with h; omega
  ·split at h
   ·injection h with h; omega
   ·cases h
end Go.Proofs.YtdpomdelmdofmaaGreatDoor
