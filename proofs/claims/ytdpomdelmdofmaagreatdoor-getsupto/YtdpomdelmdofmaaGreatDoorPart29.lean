/-
  Walk of the reference's own scalar.
-/
import Derived.Test.YtdpomdelmdofmaaGreatDoorPart28
import Derived.Test.YtdpomdelmdofmaaGreatDoorPart27
namespace Go.Proofs.YtdpomdelmdofmaaGreatDoor
open Go.RowKit
theorem sca_long {a : UInt8} {r : Sp.By} {n v0 : Nat} (hl : Sp.lead a.toNat = (n, v0)) (h : ¬ (n = 0 ∨ r.length + 1 < n)) : Sp.sca (a :: r) = match Sp.cnt (n - 1) v0 r with
  | none => (0, 0)
  | some v => if v < Sp.least n ∨ 1114111 < v ∨ (55296 ≤ v ∧ v < 57344) then (0, 0) else (v, n) := by
 unfold Sp.sca
 simp only [hl]
 rw [if_neg h]
 all_goals (cases Sp.cnt (n - 1) v0 r <;> rfl)
theorem cnt_bad {k v : Nat} {c : UInt8} {r : Sp.By} (h : ¬ (128 ≤ c.toNat ∧ c.toNat < 192)) : Sp.cnt (k + 1) v (c :: r) = none := by
 rw [Sp.cnt, if_neg h]
theorem cnt_ok {k v : Nat} {c : UInt8} {r : Sp.By} (h : 128 ≤ c.toNat ∧ c.toNat < 192) : Sp.cnt (k + 1) v (c :: r) = Sp.cnt k (64 * v + c.toNat - 128) r := by
 rw [Sp.cnt, if_pos h]
theorem c_lt {x n : Nat} (h : x < n) : decide ((x : Int) < (n : Int)) = true := decide_eq_true (Int.ofNat_lt.2 h)
theorem c_nlt {x n : Nat} (h : ¬ x < n) : decide ((x : Int) < (n : Int)) = false := decide_eq_false (fun k => h (Int.ofNat_lt.1 k))
theorem c_y2t {x : Nat} (h : 1114111 < x) : decide ((1114111 : Int) < (x : Int)) = true := decide_eq_true (by omega)
theorem c_y2f {x : Nat} (h : ¬ 1114111 < x) : decide ((1114111 : Int) < (x : Int)) = false := decide_eq_false (by omega)
theorem c_y3t {x : Nat} (h : 55296 ≤ x) : decide ((55296 : Int) ≤ (x : Int)) = true := decide_eq_true (by omega)
theorem c_y3f {x : Nat} (h : ¬ 55296 ≤ x) : decide ((55296 : Int) ≤ (x : Int)) = false := decide_eq_false (by omega)
theorem c_y4t {x : Nat} (h : x < 57344) : decide ((x : Int) < 57344) = true := decide_eq_true (by omega)
theorem c_y4f {x : Nat} (h : ¬ x < 57344) : decide ((x : Int) < 57344) = false := decide_eq_false (by omega)
def bdn (n k : Nat) : Nat := (if n = 1 then 128 else if n = 2 then 32 else if n = 3 then 16 else 8) * 64 ^ (k - 1)
theorem bdn_next {n k x d : Nat} (hk : 1 ≤ k) (h : x < bdn n k) (hd : d < 192) : 64 * x + d - 128 < bdn n (k + 1) := by
 have e : bdn n (k + 1) = 64 * bdn n k := by
  unfold bdn
  rw [show k + 1 - 1 = (k - 1) + 1 by omega, Nat.pow_succ, ← Nat.mul_assoc, Nat.mul_comm]
 rw [e]
 omega
theorem bdn_le1 : bdn 1 1 ≤ 2097152 := by decide
theorem bdn_leq : ∀ n : Fin 5, ∀ k : Fin 5, k.val ≤ n.val → 1 ≤ n.val → bdn n.val k.val ≤ 2097152 := by decide
theorem bdn_le {n k : Nat} (h : k ≤ n) (hn : n ≤ 4 := by decide) (h1 : 1 ≤ n := by decide) : bdn n k ≤ 2097152 := bdn_leq ⟨n, by omega⟩ ⟨k, by omega⟩ h h1
def ScaEnd (l : Sp.By) (w : World) (e : Ending) (w' : World) : Prop := e = .returned (.tuple #[.int .i64 ((Sp.sca l).1 : Nat), .int .i64 ((Sp.sca l).2 : Nat)]) ∧ Below w.heap.size w w'
theorem ScaEnd.mk {l : Sp.By} {w w' : World} {a b : Int} (h : Sp.sca l = (a.toNat, b.toNat)) (ha : 0 ≤ a) (hb : 0 ≤ b) (hw : Below w.heap.size w w') : ScaEnd l w (.returned (.tuple #[.int .i64 a, .int .i64 b])) w' := by
 refine ⟨?_, hw⟩
 rw [h]
 simp only
 rw [Int.toNat_of_nonneg ha, Int.toNat_of_nonneg hb]
theorem bel_same {w w' : World} (e : w'.heap = w.heap := by rfl) (e1 : w'.os = w.os := by rfl) (e2 : w'.tape = w.tape := by rfl) (e3 : w'.output = w.output := by rfl) : Below w.heap.size w w' :=
 ⟨e1, e2, e3, by rw [e]; exact Nat.le_refl _, fun k _ => by rw [e]⟩
set_option maxHeartbeats 4000000 in
theorem rScalar_nil {t : ByteArray} {p : Nat} (ha : AtL t p []) (w : World) : Calls Tryz.prog 124 #[.string t, .int .i64 p] w fun e w' => ScaEnd [] w e w' := by
 have hp := ha.nil
 have e1 : t.size ≤ p := by omega
 clear ha hp
 go_enter Tryz.func124, Tryz.ntmps124
 go_wp2_with (fail)
 go_ret2
 exact ScaEnd.mk (a := 0) (b := 0) rfl (by omega) (by omega) bel_same
set_option maxHeartbeats 4000000 in
theorem rScalar_no {t : ByteArray} {p : Nat} {c : UInt8} {r : Sp.By} (ha : AtL t p (c :: r)) (hc : (128 ≤ c.toNat ∧ c.toNat < 192) ∨ 248 ≤ c.toNat) (w : World) :
  Calls Tryz.prog 124 #[.string t, .int .i64 p] w fun e w' => ScaEnd (c :: r) w e w' := by
 have hlt := ha.lt
 have hby : t[p]'hlt = c := ha.byte
 have HS := hide (sca_no (r := r) hc)
 rw [← hby] at hc
 have e1 : ¬ t.size ≤ p := by omega
 have hwr : wrap64 ((t[p]'hlt).toNat : Int) = ((t[p]'hlt).toNat : Int) := by unfold wrap64; have := (t[p]'hlt).toNat_lt; omega
 have f4 : decide ((128 : Int) ≤ (t[p].toNat : Int)) = true := by simp; omega
 clear ha hby
 rcases hc with ⟨h1, h2⟩ | h1
 ·have f1 : decide ((240 : Int) ≤ (t[p].toNat : Int)) = false := by simp; omega
  have f2 : decide ((224 : Int) ≤ (t[p].toNat : Int)) = false := by simp; omega
  have f3 : decide ((192 : Int) ≤ (t[p].toNat : Int)) = false := by simp; omega
  clear h1 h2
  go_enter Tryz.func124, Tryz.ntmps124
  go_wp2_with (fail)
  go_ret2
  exact ScaEnd.mk (a := 0) (b := 0) (unhide HS) (by omega) (by omega) bel_same
 ·have f1 : decide ((240 : Int) ≤ (t[p].toNat : Int)) = true := by simp; omega
  have f5 : decide ((t[p].toNat : Int) < 248) = false := by simp; omega
  have f2 : decide ((224 : Int) ≤ (t[p].toNat : Int)) = true := by simp; omega
  have f6 : decide ((t[p].toNat : Int) < 240) = false := by simp; omega
  have f3 : decide ((192 : Int) ≤ (t[p].toNat : Int)) = true := by simp; omega
  have f7 : decide ((t[p].toNat : Int) < 224) = false := by simp; omega
  clear h1
  go_enter Tryz.func124, Tryz.ntmps124
  go_wp2_with (fail)
  go_ret2
  exact ScaEnd.mk (a := 0) (b := 0) (unhide HS) (by omega) (by omega) bel_same
set_option maxRecDepth 100000 in
set_option maxHeartbeats 8000000 in
theorem rScalar_one {t : ByteArray} {p : Nat} {c : UInt8} {r : Sp.By} (ha : AtL t p (c :: r)) (hc : c.toNat < 128) (w : World) :
  Calls Tryz.prog 124 #[.string t, .int .i64 p] w fun e w' => ScaEnd (c :: r) w e w' := by
 have hlt := ha.lt
 have hby : t[p]'hlt = c := ha.byte
 have hlen := ha.len
 have hsm := ha.small
 have hlead := lead_one hc
 have e1 : ¬ t.size ≤ p := by omega
 have hwr : wrap64 ((t[p]'hlt).toNat : Int) = ((t[p]'hlt).toNat : Int) := by unfold wrap64; have := (t[p]'hlt).toNat_lt; omega
 have HBY := hide hby
 have hc0 := hc
 rw [← hby] at hc
 have f0 : decide ((240 : Int) ≤ (t[p].toNat : Int)) = false := by simp; omega
 have f1 : decide ((224 : Int) ≤ (t[p].toNat : Int)) = false := by simp; omega
 have f2 : decide ((192 : Int) ≤ (t[p].toNat : Int)) = false := by simp; omega
 have f3 : decide ((128 : Int) ≤ (t[p].toNat : Int)) = false := by simp; omega
 have hb8 : t[p].toNat < 256 := (t[p]'hlt).toNat_lt
 clear hby
 by_cases hs : r.length + 1 < 1
 ·have HS := hide (sca_short (a := c) (r := r) (by rw [hlead]; exact hs))
  have e2 : (t.size : Int) < (p : Int) + 1 := by simp at hlen; omega
  clear ha hlead hs hlen hc0
  go_enter Tryz.func124, Tryz.ntmps124
  go_wp2_with (fail)
  go_ret2
  exact ScaEnd.mk (a := 0) (b := 0) (unhide HS) (by omega) (by omega) bel_same
 ·have HS := hide (sca_long (r := r) hlead (by omega))
  have e2 : ¬ (t.size : Int) < (p : Int) + 1 := by simp at hlen; omega
  have HN := hide ha.next
  have hcc : c.toNat = t[p].toNat := by rw [unhide HBY]
  have HCC := hide hcc
  have HCR := hide hc0
  have HRL := hide hs
  clear ha hlead hs hlen hcc hc0
  go_enter Tryz.func124, Tryz.ntmps124
  go_wp2_with (fail)
  go_loopw [8, 9] (fun v i wr => ∃ (k x : Nat) (r' : Sp.By), 1 ≤ k ∧ k ≤ 1 ∧ i = .int .i64 k ∧ v = .int .i64 x ∧ AtL t (p + k) r' ∧ Sp.cnt (1 - 1) c.toNat r = Sp.cnt (1 - k) x r' ∧ x < bdn 1 k ∧ 1 - k ≤ r'.length ∧ wr = w) (fun _ i _ => 1 - (intOf i).toNat)
  case atStart =>
   have hcr := unhide HCR
   have hcc := unhide HCC
   have hrl := unhide HRL
   exact ⟨1, c.toNat, r, by omega, by omega, rfl, congrArg (Value.int .i64) (by omega), unhide HN, rfl, by rw [show bdn 1 1 = 128 by decide]; omega, by omega, rfl⟩
  case round =>
   obtain ⟨k, x, r', hk1, hk2, rfl, rfl, hat, hcnt, hxb, hrl, rfl⟩ := hrel
   have hx : x < 2097152 := Nat.lt_of_lt_of_le hxb (bdn_le hk2)
   by_cases hkn : k < 1
   ·omega
   ·obtain rfl : k = 1 := by omega
    have hsc : Sp.sca (c :: r) = if x < 0 ∨ 1114111 < x ∨ (55296 ≤ x ∧ x < 57344) then (0, 0) else (x, 1) := by
     rw [unhide HS, hcnt, Nat.sub_self]
     rfl
    have HSC := hide hsc
    have hba : Below wr.heap.size wr (wr.alloc (.cells #[.int .i64 0, .int .i64 0, .int .i64 128, .int .i64 2048, .int .i64 65536] 3)) := (Below.refl _ _).alloc (Nat.le_refl _) _
    have HBA := hide hba
    clear hat hcnt hrl hxb hsc hba e2 hwr f0 f1 f2 f3 hb8 e1 hc hkn
    by_cases y1 : x < 0
    ·exact absurd y1 (Nat.not_lt_zero _)
    ·have y1' : decide ((x : Int) < 0) = false := c_nlt y1
     by_cases y2 : 1114111 < x
     ·have y2' : decide ((1114111 : Int) < (x : Int)) = true := c_y2t y2
      go_wp2_with (fail)
      go_ret2
      exact ScaEnd.mk (a := 0) (b := 0) (by rw [unhide HSC, if_pos (Or.inr (Or.inl y2))]; rfl) (by omega) (by omega) (unhide HBA)
     ·have y2' : decide ((1114111 : Int) < (x : Int)) = false := c_y2f y2
      by_cases y3 : 55296 ≤ x
      ·have y3' : decide ((55296 : Int) ≤ (x : Int)) = true := c_y3t y3
       by_cases y4 : x < 57344
       ·have y4' : decide ((x : Int) < 57344) = true := c_y4t y4
        go_wp2_with (fail)
        go_ret2
        exact ScaEnd.mk (a := 0) (b := 0) (by rw [unhide HSC, if_pos (Or.inr (Or.inr ⟨y3, y4⟩))]; rfl) (by omega) (by omega) (unhide HBA)
       ·have y4' : decide ((x : Int) < 57344) = false := c_y4f y4
        go_wp2_with (fail)
        go_ret2
        exact ScaEnd.mk (a := (x : Nat)) (b := 1) (by rw [unhide HSC, if_neg (by omega)]; rfl) (by omega) (by omega) (unhide HBA)
      ·have y3' : decide ((55296 : Int) ≤ (x : Int)) = false := c_y3f y3
       go_wp2_with (fail)
       go_ret2
       exact ScaEnd.mk (a := (x : Nat)) (b := 1) (by rw [unhide HSC, if_neg (by omega)]; rfl) (by omega) (by omega) (unhide HBA)
set_option maxRecDepth 100000 in
set_option maxHeartbeats 8000000 in
theorem rScalar_two {t : ByteArray} {p : Nat} {c : UInt8} {r : Sp.By} (ha : AtL t p (c :: r)) (hc : 192 ≤ c.toNat ∧ c.toNat < 224) (w : World) :
  Calls Tryz.prog 124 #[.string t, .int .i64 p] w fun e w' => ScaEnd (c :: r) w e w' := by
 have hlt := ha.lt
 have hby : t[p]'hlt = c := ha.byte
 have hlen := ha.len
 have hsm := ha.small
 have hlead := lead_two hc
 have e1 : ¬ t.size ≤ p := by omega
 have hwr : wrap64 ((t[p]'hlt).toNat : Int) = ((t[p]'hlt).toNat : Int) := by unfold wrap64; have := (t[p]'hlt).toNat_lt; omega
 have HBY := hide hby
 have hc0 := hc
 rw [← hby] at hc
 have f0 : decide ((240 : Int) ≤ (t[p].toNat : Int)) = false := by simp; omega
 have f1 : decide ((224 : Int) ≤ (t[p].toNat : Int)) = false := by simp; omega
 have f2 : decide ((192 : Int) ≤ (t[p].toNat : Int)) = true := by simp; omega
 have f3 : decide ((t[p].toNat : Int) < 224) = true := by simp; omega
 have hb8 : t[p].toNat < 256 := (t[p]'hlt).toNat_lt
 clear hby
 by_cases hs : r.length + 1 < 2
 ·have HS := hide (sca_short (a := c) (r := r) (by rw [hlead]; exact hs))
  have e2 : (t.size : Int) < (p : Int) + 2 := by simp at hlen; omega
  clear ha hlead hs hlen hc0
  go_enter Tryz.func124, Tryz.ntmps124
  go_wp2_with (fail)
  go_ret2
  exact ScaEnd.mk (a := 0) (b := 0) (unhide HS) (by omega) (by omega) bel_same
 ·have HS := hide (sca_long (r := r) hlead (by omega))
  have e2 : ¬ (t.size : Int) < (p : Int) + 2 := by simp at hlen; omega
  have HN := hide ha.next
  have hcc : c.toNat = t[p].toNat := by rw [unhide HBY]
  have HCC := hide hcc
  have HCR := hide hc0
  have HRL := hide hs
  clear ha hlead hs hlen hcc hc0
  go_enter Tryz.func124, Tryz.ntmps124
  go_wp2_with (fail)
  go_loopw [8, 9] (fun v i wr => ∃ (k x : Nat) (r' : Sp.By), 1 ≤ k ∧ k ≤ 2 ∧ i = .int .i64 k ∧ v = .int .i64 x ∧ AtL t (p + k) r' ∧ Sp.cnt (2 - 1) (c.toNat - 192) r = Sp.cnt (2 - k) x r' ∧ x < bdn 2 k ∧ 2 - k ≤ r'.length ∧ wr = w) (fun _ i _ => 2 - (intOf i).toNat)
  case atStart =>
   have hcr := unhide HCR
   have hcc := unhide HCC
   have hrl := unhide HRL
   exact ⟨1, c.toNat - 192, r, by omega, by omega, rfl, congrArg (Value.int .i64) (by omega), unhide HN, rfl, by rw [show bdn 2 1 = 32 by decide]; omega, by omega, rfl⟩
  case round =>
   obtain ⟨k, x, r', hk1, hk2, rfl, rfl, hat, hcnt, hxb, hrl, rfl⟩ := hrel
   have hx : x < 2097152 := Nat.lt_of_lt_of_le hxb (bdn_le hk2)
   have HAT := hide hat
   have HCN := hide hcnt
   have HXB := hide hxb
   by_cases hkn : k < 2
   ·match r', hat, hcnt, hrl, HAT, HCN with
    | [], _, _, hrl, _, _ => exact absurd hrl (by simp only [List.length_nil]; omega)
    | d :: r'', hat, hcnt, hrl, HAT, HCN =>
     have hq := hat.lt
     obtain ⟨q, hqd⟩ : ∃ q, q = p + k := ⟨_, rfl⟩
     rw [← hqd] at hq
     have hqi : (p : Int) + (k : Int) = (q : Int) := by omega
     have hbq : t[q]'hq = d := by
      have := hat.byte
      simp only [← hqd] at this
      exact this
     have HBQ := hide hbq
     have HQD := hide hqd
     have hq8 : t[q].toNat < 256 := (t[q]'hq).toNat_lt
     have hwq : wrap64 ((t[q]'hq).toNat : Int) = ((t[q]'hq).toNat : Int) := by unfold wrap64; omega
     have HRL2 := hide hrl
     clear hat hcnt hrl hbq hqd hxb e2 hwr f0 f1 f2 f3 hb8 e1 hc
     by_cases g1 : t[q].toNat < 128
     ·have g1' : decide ((t[q].toNat : Int) < 128) = true := decide_eq_true (by exact_mod_cast g1)
      go_wp2_with (fail)
      go_ret2
      refine ScaEnd.mk (a := 0) (b := 0) ?_ (by omega) (by omega) bel_same
      rw [unhide HS, unhide HCN, show 2 - k = 2 - k - 1 + 1 by omega, cnt_bad (by rw [← unhide HBQ]; omega)]
      rfl
     ·have g1' : decide ((t[q].toNat : Int) < 128) = false := decide_eq_false (by exact_mod_cast g1)
      by_cases g2 : 192 ≤ t[q].toNat
      ·have g2' : decide ((192 : Int) ≤ (t[q].toNat : Int)) = true := decide_eq_true (by exact_mod_cast g2)
       go_wp2_with (fail)
       go_ret2
       refine ScaEnd.mk (a := 0) (b := 0) ?_ (by omega) (by omega) bel_same
       rw [unhide HS, unhide HCN, show 2 - k = 2 - k - 1 + 1 by omega, cnt_bad (by rw [← unhide HBQ]; omega)]
       rfl
      ·have g2' : decide ((192 : Int) ≤ (t[q].toNat : Int)) = false := decide_eq_false (by exact_mod_cast g2)
       go_wp2_with (fail)
       have hrl := unhide HRL2
       refine ⟨⟨k + 1, 64 * x + t[q].toNat - 128, r'', by omega, by omega, by go_num, ?_, (unhide HAT).next, ?_, bdn_next hk1 (unhide HXB) (by omega), by rw [List.length_cons] at hrl; omega, trivial⟩, by simp only [intOf]; omega⟩
       ·rw [show (64 * (x : Int) + (t[q].toNat : Int) - 128) = ((64 * x + t[q].toNat - 128 : Nat) : Int) by omega]
       ·rw [unhide HCN, show 2 - k = 2 - (k + 1) + 1 by omega, cnt_ok (by rw [← unhide HBQ]; omega), unhide HBQ]
   ·obtain rfl : k = 2 := by omega
    have hsc : Sp.sca (c :: r) = if x < 128 ∨ 1114111 < x ∨ (55296 ≤ x ∧ x < 57344) then (0, 0) else (x, 2) := by
     rw [unhide HS, hcnt, Nat.sub_self]
     rfl
    have HSC := hide hsc
    have hba : Below wr.heap.size wr (wr.alloc (.cells #[.int .i64 0, .int .i64 0, .int .i64 128, .int .i64 2048, .int .i64 65536] 3)) := (Below.refl _ _).alloc (Nat.le_refl _) _
    have HBA := hide hba
    clear hat hcnt hrl hxb hsc hba e2 hwr f0 f1 f2 f3 hb8 e1 hc hkn
    by_cases y1 : x < 128
    ·have y1' : decide ((x : Int) < 128) = true := c_lt y1
     go_wp2_with (fail)
     go_ret2
     exact ScaEnd.mk (a := 0) (b := 0) (by rw [unhide HSC, if_pos (Or.inl y1)]; rfl) (by omega) (by omega) (unhide HBA)
    ·have y1' : decide ((x : Int) < 128) = false := c_nlt y1
     by_cases y2 : 1114111 < x
     ·have y2' : decide ((1114111 : Int) < (x : Int)) = true := c_y2t y2
      go_wp2_with (fail)
      go_ret2
      exact ScaEnd.mk (a := 0) (b := 0) (by rw [unhide HSC, if_pos (Or.inr (Or.inl y2))]; rfl) (by omega) (by omega) (unhide HBA)
     ·have y2' : decide ((1114111 : Int) < (x : Int)) = false := c_y2f y2
      by_cases y3 : 55296 ≤ x
      ·have y3' : decide ((55296 : Int) ≤ (x : Int)) = true := c_y3t y3
       by_cases y4 : x < 57344
       ·have y4' : decide ((x : Int) < 57344) = true := c_y4t y4
        go_wp2_with (fail)
        go_ret2
        exact ScaEnd.mk (a := 0) (b := 0) (by rw [unhide HSC, if_pos (Or.inr (Or.inr ⟨y3, y4⟩))]; rfl) (by omega) (by omega) (unhide HBA)
       ·have y4' : decide ((x : Int) < 57344) = false := c_y4f y4
        go_wp2_with (fail)
        go_ret2
        exact ScaEnd.mk (a := (x : Nat)) (b := 2) (by rw [unhide HSC, if_neg (by omega)]; rfl) (by omega) (by omega) (unhide HBA)
      ·have y3' : decide ((55296 : Int) ≤ (x : Int)) = false := c_y3f y3
       go_wp2_with (fail)
       go_ret2
       exact ScaEnd.mk (a := (x : Nat)) (b := 2) (by rw [unhide HSC, if_neg (by omega)]; rfl) (by omega) (by omega) (unhide HBA)
set_option maxRecDepth 100000 in
set_option maxHeartbeats 8000000 in
theorem rScalar_three {t : ByteArray} {p : Nat} {c : UInt8} {r : Sp.By} (ha : AtL t p (c :: r)) (hc : 224 ≤ c.toNat ∧ c.toNat < 240) (w : World) :
  Calls Tryz.prog 124 #[.string t, .int .i64 p] w fun e w' => ScaEnd (c :: r) w e w' := by
 have hlt := ha.lt
 have hby : t[p]'hlt = c := ha.byte
 have hlen := ha.len
 have hsm := ha.small
 have hlead := lead_three hc
 have e1 : ¬ t.size ≤ p := by omega
 have hwr : wrap64 ((t[p]'hlt).toNat : Int) = ((t[p]'hlt).toNat : Int) := by unfold wrap64; have := (t[p]'hlt).toNat_lt; omega
 have HBY := hide hby
 have hc0 := hc
 rw [← hby] at hc
 have f0 : decide ((240 : Int) ≤ (t[p].toNat : Int)) = false := by simp; omega
 have f1 : decide ((224 : Int) ≤ (t[p].toNat : Int)) = true := by simp; omega
 have f2 : decide ((t[p].toNat : Int) < 240) = true := by simp; omega
 have hb8 : t[p].toNat < 256 := (t[p]'hlt).toNat_lt
 clear hby
 by_cases hs : r.length + 1 < 3
 ·have HS := hide (sca_short (a := c) (r := r) (by rw [hlead]; exact hs))
  have e2 : (t.size : Int) < (p : Int) + 3 := by simp at hlen; omega
  clear ha hlead hs hlen hc0
  go_enter Tryz.func124, Tryz.ntmps124
  go_wp2_with (fail)
  go_ret2
  exact ScaEnd.mk (a := 0) (b := 0) (unhide HS) (by omega) (by omega) bel_same
 ·have HS := hide (sca_long (r := r) hlead (by omega))
  have e2 : ¬ (t.size : Int) < (p : Int) + 3 := by simp at hlen; omega
  have HN := hide ha.next
  have hcc : c.toNat = t[p].toNat := by rw [unhide HBY]
  have HCC := hide hcc
  have HCR := hide hc0
  have HRL := hide hs
  clear ha hlead hs hlen hcc hc0
  go_enter Tryz.func124, Tryz.ntmps124
  go_wp2_with (fail)
  go_loopw [8, 9] (fun v i wr => ∃ (k x : Nat) (r' : Sp.By), 1 ≤ k ∧ k ≤ 3 ∧ i = .int .i64 k ∧ v = .int .i64 x ∧ AtL t (p + k) r' ∧ Sp.cnt (3 - 1) (c.toNat - 224) r = Sp.cnt (3 - k) x r' ∧ x < bdn 3 k ∧ 3 - k ≤ r'.length ∧ wr = w) (fun _ i _ => 3 - (intOf i).toNat)
  case atStart =>
   have hcr := unhide HCR
   have hcc := unhide HCC
   have hrl := unhide HRL
   exact ⟨1, c.toNat - 224, r, by omega, by omega, rfl, congrArg (Value.int .i64) (by omega), unhide HN, rfl, by rw [show bdn 3 1 = 16 by decide]; omega, by omega, rfl⟩
  case round =>
   obtain ⟨k, x, r', hk1, hk2, rfl, rfl, hat, hcnt, hxb, hrl, rfl⟩ := hrel
   have hx : x < 2097152 := Nat.lt_of_lt_of_le hxb (bdn_le hk2)
   have HAT := hide hat
   have HCN := hide hcnt
   have HXB := hide hxb
   by_cases hkn : k < 3
   ·match r', hat, hcnt, hrl, HAT, HCN with
    | [], _, _, hrl, _, _ => exact absurd hrl (by simp only [List.length_nil]; omega)
    | d :: r'', hat, hcnt, hrl, HAT, HCN =>
     have hq := hat.lt
     obtain ⟨q, hqd⟩ : ∃ q, q = p + k := ⟨_, rfl⟩
     rw [← hqd] at hq
     have hqi : (p : Int) + (k : Int) = (q : Int) := by omega
     have hbq : t[q]'hq = d := by
      have := hat.byte
      simp only [← hqd] at this
      exact this
     have HBQ := hide hbq
     have HQD := hide hqd
     have hq8 : t[q].toNat < 256 := (t[q]'hq).toNat_lt
     have hwq : wrap64 ((t[q]'hq).toNat : Int) = ((t[q]'hq).toNat : Int) := by unfold wrap64; omega
     have HRL2 := hide hrl
     clear hat hcnt hrl hbq hqd hxb e2 hwr f0 f1 f2 hb8 e1 hc
     by_cases g1 : t[q].toNat < 128
     ·have g1' : decide ((t[q].toNat : Int) < 128) = true := decide_eq_true (by exact_mod_cast g1)
      go_wp2_with (fail)
      go_ret2
      refine ScaEnd.mk (a := 0) (b := 0) ?_ (by omega) (by omega) bel_same
      rw [unhide HS, unhide HCN, show 3 - k = 3 - k - 1 + 1 by omega, cnt_bad (by rw [← unhide HBQ]; omega)]
      rfl
     ·have g1' : decide ((t[q].toNat : Int) < 128) = false := decide_eq_false (by exact_mod_cast g1)
      by_cases g2 : 192 ≤ t[q].toNat
      ·have g2' : decide ((192 : Int) ≤ (t[q].toNat : Int)) = true := decide_eq_true (by exact_mod_cast g2)
       go_wp2_with (fail)
       go_ret2
       refine ScaEnd.mk (a := 0) (b := 0) ?_ (by omega) (by omega) bel_same
       rw [unhide HS, unhide HCN, show 3 - k = 3 - k - 1 + 1 by omega, cnt_bad (by rw [← unhide HBQ]; omega)]
       rfl
      ·have g2' : decide ((192 : Int) ≤ (t[q].toNat : Int)) = false := decide_eq_false (by exact_mod_cast g2)
       go_wp2_with (fail)
       have hrl := unhide HRL2
       refine ⟨⟨k + 1, 64 * x + t[q].toNat - 128, r'', by omega, by omega, by go_num, ?_, (unhide HAT).next, ?_, bdn_next hk1 (unhide HXB) (by omega), by rw [List.length_cons] at hrl; omega, trivial⟩, by simp only [intOf]; omega⟩
       ·rw [show (64 * (x : Int) + (t[q].toNat : Int) - 128) = ((64 * x + t[q].toNat - 128 : Nat) : Int) by omega]
       ·rw [unhide HCN, show 3 - k = 3 - (k + 1) + 1 by omega, cnt_ok (by rw [← unhide HBQ]; omega), unhide HBQ]
   ·obtain rfl : k = 3 := by omega
    have hsc : Sp.sca (c :: r) = if x < 2048 ∨ 1114111 < x ∨ (55296 ≤ x ∧ x < 57344) then (0, 0) else (x, 3) := by
     rw [unhide HS, hcnt, Nat.sub_self]
     rfl
    have HSC := hide hsc
    have hba : Below wr.heap.size wr (wr.alloc (.cells #[.int .i64 0, .int .i64 0, .int .i64 128, .int .i64 2048, .int .i64 65536] 3)) := (Below.refl _ _).alloc (Nat.le_refl _) _
    have HBA := hide hba
    clear hat hcnt hrl hxb hsc hba e2 hwr f0 f1 f2 hb8 e1 hc hkn
    by_cases y1 : x < 2048
    ·have y1' : decide ((x : Int) < 2048) = true := c_lt y1
     go_wp2_with (fail)
     go_ret2
     exact ScaEnd.mk (a := 0) (b := 0) (by rw [unhide HSC, if_pos (Or.inl y1)]; rfl) (by omega) (by omega) (unhide HBA)
    ·have y1' : decide ((x : Int) < 2048) = false := c_nlt y1
     by_cases y2 : 1114111 < x
     ·have y2' : decide ((1114111 : Int) < (x : Int)) = true := c_y2t y2
      go_wp2_with (fail)
      go_ret2
      exact ScaEnd.mk (a := 0) (b := 0) (by rw [unhide HSC, if_pos (Or.inr (Or.inl y2))]; rfl) (by omega) (by omega) (unhide HBA)
     ·have y2' : decide ((1114111 : Int) < (x : Int)) = false := c_y2f y2
      by_cases y3 : 55296 ≤ x
      ·have y3' : decide ((55296 : Int) ≤ (x : Int)) = true := c_y3t y3
       by_cases y4 : x < 57344
       ·have y4' : decide ((x : Int) < 57344) = true := c_y4t y4
        go_wp2_with (fail)
        go_ret2
        exact ScaEnd.mk (a := 0) (b := 0) (by rw [unhide HSC, if_pos (Or.inr (Or.inr ⟨y3, y4⟩))]; rfl) (by omega) (by omega) (unhide HBA)
       ·have y4' : decide ((x : Int) < 57344) = false := c_y4f y4
        go_wp2_with (fail)
        go_ret2
        exact ScaEnd.mk (a := (x : Nat)) (b := 3) (by rw [unhide HSC, if_neg (by omega)]; rfl) (by omega) (by omega) (unhide HBA)
      ·have y3' : decide ((55296 : Int) ≤ (x : Int)) = false := c_y3f y3
       go_wp2_with (fail)
       go_ret2
       exact ScaEnd.mk (a := (x : Nat)) (b := 3) (by rw [unhide HSC, if_neg (by omega)]; rfl) (by omega) (by omega) (unhide HBA)
set_option maxRecDepth 100000 in
set_option maxHeartbeats 8000000 in
theorem rScalar_four {t : ByteArray} {p : Nat} {c : UInt8} {r : Sp.By} (ha : AtL t p (c :: r)) (hc : 240 ≤ c.toNat ∧ c.toNat < 248) (w : World) :
  Calls Tryz.prog 124 #[.string t, .int .i64 p] w fun e w' => ScaEnd (c :: r) w e w' := by
 have hlt := ha.lt
 have hby : t[p]'hlt = c := ha.byte
 have hlen := ha.len
 have hsm := ha.small
 have hlead := lead_four hc
 have e1 : ¬ t.size ≤ p := by omega
 have hwr : wrap64 ((t[p]'hlt).toNat : Int) = ((t[p]'hlt).toNat : Int) := by unfold wrap64; have := (t[p]'hlt).toNat_lt; omega
 have HBY := hide hby
 have hc0 := hc
 rw [← hby] at hc
 have f0 : decide ((240 : Int) ≤ (t[p].toNat : Int)) = true := by simp; omega
 have f1 : decide ((t[p].toNat : Int) < 248) = true := by simp; omega
 have hb8 : t[p].toNat < 256 := (t[p]'hlt).toNat_lt
 clear hby
 by_cases hs : r.length + 1 < 4
 ·have HS := hide (sca_short (a := c) (r := r) (by rw [hlead]; exact hs))
  have e2 : (t.size : Int) < (p : Int) + 4 := by simp at hlen; omega
  clear ha hlead hs hlen hc0
  go_enter Tryz.func124, Tryz.ntmps124
  go_wp2_with (fail)
  go_ret2
  exact ScaEnd.mk (a := 0) (b := 0) (unhide HS) (by omega) (by omega) bel_same
 ·have HS := hide (sca_long (r := r) hlead (by omega))
  have e2 : ¬ (t.size : Int) < (p : Int) + 4 := by simp at hlen; omega
  have HN := hide ha.next
  have hcc : c.toNat = t[p].toNat := by rw [unhide HBY]
  have HCC := hide hcc
  have HCR := hide hc0
  have HRL := hide hs
  clear ha hlead hs hlen hcc hc0
  go_enter Tryz.func124, Tryz.ntmps124
  go_wp2_with (fail)
  go_loopw [8, 9] (fun v i wr => ∃ (k x : Nat) (r' : Sp.By), 1 ≤ k ∧ k ≤ 4 ∧ i = .int .i64 k ∧ v = .int .i64 x ∧ AtL t (p + k) r' ∧ Sp.cnt (4 - 1) (c.toNat - 240) r = Sp.cnt (4 - k) x r' ∧ x < bdn 4 k ∧ 4 - k ≤ r'.length ∧ wr = w) (fun _ i _ => 4 - (intOf i).toNat)
  case atStart =>
   have hcr := unhide HCR
   have hcc := unhide HCC
   have hrl := unhide HRL
   exact ⟨1, c.toNat - 240, r, by omega, by omega, rfl, congrArg (Value.int .i64) (by omega), unhide HN, rfl, by rw [show bdn 4 1 = 8 by decide]; omega, by omega, rfl⟩
  case round =>
   obtain ⟨k, x, r', hk1, hk2, rfl, rfl, hat, hcnt, hxb, hrl, rfl⟩ := hrel
   have hx : x < 2097152 := Nat.lt_of_lt_of_le hxb (bdn_le hk2)
   have HAT := hide hat
   have HCN := hide hcnt
   have HXB := hide hxb
   by_cases hkn : k < 4
   ·match r', hat, hcnt, hrl, HAT, HCN with
    | [], _, _, hrl, _, _ => exact absurd hrl (by simp only [List.length_nil]; omega)
    | d :: r'', hat, hcnt, hrl, HAT, HCN =>
     have hq := hat.lt
     obtain ⟨q, hqd⟩ : ∃ q, q = p + k := ⟨_, rfl⟩
     rw [← hqd] at hq
     have hqi : (p : Int) + (k : Int) = (q : Int) := by omega
     have hbq : t[q]'hq = d := by
      have := hat.byte
      simp only [← hqd] at this
      exact this
     have HBQ := hide hbq
     have HQD := hide hqd
     have hq8 : t[q].toNat < 256 := (t[q]'hq).toNat_lt
     have hwq : wrap64 ((t[q]'hq).toNat : Int) = ((t[q]'hq).toNat : Int) := by unfold wrap64; omega
     have HRL2 := hide hrl
     clear hat hcnt hrl hbq hqd hxb e2 hwr f0 f1 hb8 e1 hc
     by_cases g1 : t[q].toNat < 128
     ·have g1' : decide ((t[q].toNat : Int) < 128) = true := decide_eq_true (by exact_mod_cast g1)
      go_wp2_with (fail)
      go_ret2
      refine ScaEnd.mk (a := 0) (b := 0) ?_ (by omega) (by omega) bel_same
      rw [unhide HS, unhide HCN, show 4 - k = 4 - k - 1 + 1 by omega, cnt_bad (by rw [← unhide HBQ]; omega)]
      rfl
     ·have g1' : decide ((t[q].toNat : Int) < 128) = false := decide_eq_false (by exact_mod_cast g1)
      by_cases g2 : 192 ≤ t[q].toNat
      ·have g2' : decide ((192 : Int) ≤ (t[q].toNat : Int)) = true := decide_eq_true (by exact_mod_cast g2)
       go_wp2_with (fail)
       go_ret2
       refine ScaEnd.mk (a := 0) (b := 0) ?_ (by omega) (by omega) bel_same
       rw [unhide HS, unhide HCN, show 4 - k = 4 - k - 1 + 1 by omega, cnt_bad (by rw [← unhide HBQ]; omega)]
       rfl
      ·have g2' : decide ((192 : Int) ≤ (t[q].toNat : Int)) = false := decide_eq_false (by exact_mod_cast g2)
       go_wp2_with (fail)
       have hrl := unhide HRL2
       refine ⟨⟨k + 1, 64 * x + t[q].toNat - 128, r'', by omega, by omega, by go_num, ?_, (unhide HAT).next, ?_, bdn_next hk1 (unhide HXB) (by omega), by rw [List.length_cons] at hrl; omega, trivial⟩, by simp only [intOf]; omega⟩
       ·rw [show (64 * (x : Int) + (t[q].toNat : Int) - 128) = ((64 * x + t[q].toNat - 128 : Nat) : Int) by omega]
       ·rw [unhide HCN, show 4 - k = 4 - (k + 1) + 1 by omega, cnt_ok (by rw [← unhide HBQ]; omega), unhide HBQ]
   ·obtain rfl : k = 4 := by omega
    have hsc : Sp.sca (c :: r) = if x < 65536 ∨ 1114111 < x ∨ (55296 ≤ x ∧ x < 57344) then (0, 0) else (x, 4) := by
     rw [unhide HS, hcnt, Nat.sub_self]
     rfl
    have HSC := hide hsc
    have hba : Below wr.heap.size wr (wr.alloc (.cells #[.int .i64 0, .int .i64 0, .int .i64 128, .int .i64 2048, .int .i64 65536] 3)) := (Below.refl _ _).alloc (Nat.le_refl _) _
    have HBA := hide hba
    clear hat hcnt hrl hxb hsc hba e2 hwr f0 f1 hb8 e1 hc hkn
    by_cases y1 : x < 65536
    ·have y1' : decide ((x : Int) < 65536) = true := c_lt y1
     go_wp2_with (fail)
     go_ret2
     exact ScaEnd.mk (a := 0) (b := 0) (by rw [unhide HSC, if_pos (Or.inl y1)]; rfl) (by omega) (by omega) (unhide HBA)
    ·have y1' : decide ((x : Int) < 65536) = false := c_nlt y1
     by_cases y2 : 1114111 < x
     ·have y2' : decide ((1114111 : Int) < (x : Int)) = true := c_y2t y2
      go_wp2_with (fail)
      go_ret2
      exact ScaEnd.mk (a := 0) (b := 0) (by rw [unhide HSC, if_pos (Or.inr (Or.inl y2))]; rfl) (by omega) (by omega) (unhide HBA)
     ·have y2' : decide ((1114111 : Int) < (x : Int)) = false := c_y2f y2
      by_cases y3 : 55296 ≤ x
      ·have y3' : decide ((55296 : Int) ≤ (x : Int)) = true := c_y3t y3
       by_cases y4 : x < 57344
       ·omega
       ·have y4' : decide ((x : Int) < 57344) = false := c_y4f y4
        go_wp2_with (fail)
        go_ret2
        exact ScaEnd.mk (a := (x : Nat)) (b := 4) (by rw [unhide HSC, if_neg (by omega)]; rfl) (by omega) (by omega) (unhide HBA)
      ·omega
theorem rScalar_anyL {t : ByteArray} {p : Nat} {l : Sp.By} (ha : AtL t p l) (w : World) : Calls Tryz.prog 124 #[.string t, .int .i64 p] w fun e w' => ScaEnd l w e w' := by
 cases l with
 | nil => exact rScalar_nil ha w
 | cons c r =>
  have h8 := c.toNat_lt
  by_cases h1 : c.toNat < 128
  ·exact rScalar_one ha h1 w
  ·by_cases h2 : c.toNat < 192
   ·exact rScalar_no ha (Or.inl ⟨by omega, h2⟩) w
   ·by_cases h3 : c.toNat < 224
    ·exact rScalar_two ha ⟨by omega, h3⟩ w
    ·by_cases h4 : c.toNat < 240
     ·exact rScalar_three ha ⟨by omega, h4⟩ w
     ·by_cases h5 : c.toNat < 248
      ·exact rScalar_four ha ⟨by omega, h5⟩ w
      ·exact rScalar_no ha (Or.inr (by omega)) w
theorem rScalar_any {t : ByteArray} {p : Nat} {l : Sp.By} (ha : At t p l) (w : World) : Calls Tryz.prog 124 #[.string t, .int .i64 p] w fun e w' => ScaEnd l w e w' := rScalar_anyL ha.toL w
end Go.Proofs.YtdpomdelmdofmaaGreatDoor

namespace Go.Proofs.YtdpomdelmdofmaaGreatDoor
open Go.RowKit
theorem trB_take {t : ByteArray} {j : Nat} (h : j < t.size) : Sp.trB (t.data.toList.take (j + 1)) = if t[j] == 92 then Sp.trB (t.data.toList.take j) + 1 else 0 := by
 have hl : j < t.data.toList.length := by simpa using h
 rw [List.take_succ_eq_append_getElem hl, trB_snoc]
 rfl
theorem odd_end (m : Nat) : Ending.returned (.bool ((m : Int) % 2 == 1)) = Ending.returned (.bool (decide ((m + 0) % 2 = 1))) := by
 congr 2
 rw [Bool.eq_iff_iff, beq_iff_eq, decide_eq_true_eq]
 omega
set_option maxHeartbeats 4000000 in
theorem escaped_any (t : ByteArray) (n : Nat) (hn : n ≤ t.size) (hs : t.size ≤ 80000) (w : World) :
  Calls Tryz.prog 20 #[.string t, .int .i64 n] w fun x w' => x = .returned (.bool (decide (Sp.trB (t.data.toList.take n) % 2 = 1))) ∧ Below w.heap.size w w' := by
 go_enter Tryz.func20, Tryz.ntmps20
 go_wp2_with (fail)
 go_loopw [5, 6] (fun k i wr => ∃ (j m : Nat), j ≤ n ∧ m ≤ n ∧ k = .int .i64 m ∧ (j = 0 ∧ i = .int .i64 (-1) ∨ ∃ j', j = j' + 1 ∧ i = .int .i64 (j' : Nat)) ∧ Sp.trB (t.data.toList.take n) = m + Sp.trB (t.data.toList.take j) ∧ m + j = n ∧ ∃ q, wr = w.drewN q) (fun _ i _ => (intOf i + 1).toNat)
 case atStart =>
  refine ⟨n, 0, by omega, by omega, rfl, ?_, by omega, by omega, 0, rfl⟩
  cases n with
  | zero => exact Or.inl ⟨rfl, rfl⟩
  | succ n => exact Or.inr ⟨n, rfl, by go_num⟩
 case round =>
  obtain ⟨j, m, hj, hm, rfl, hi, ht, hmj, q, rfl⟩ := hrel
  have HT := hide ht
  have HM := hide hmj
  clear ht hmj
  rcases hi with ⟨rfl, rfl⟩ | ⟨j', rfl, rfl⟩
  ·go_wp2_with (fail)
   go_ret
   refine ⟨?_, ⟨rfl, rfl, rfl, Nat.le_refl _, fun _ _ => rfl⟩⟩
   rw [unhide HT]
   exact odd_end m
  ·have hlt : j' < t.size := by omega
   have HE := hide (trB_take hlt)
   cases hc : (t[j'] == 92) with
   | true =>
    have e1 : ((t[j'].toNat : Int) == 92) = true := by
     have := eq_of_beq hc; rw [this]; rfl
    have HC := hide hc
    clear hc
    go_wp2_with (fail)
    refine ⟨⟨j', m + 1, by omega, by have := unhide HM; omega, by go_num, ?_, ?_, by have := unhide HM; omega, q, rfl⟩, ?_⟩
    ·cases j' with
     | zero => exact Or.inl ⟨rfl, rfl⟩
     | succ k => exact Or.inr ⟨k, rfl, by go_num⟩
    ·rw [unhide HT, unhide HE, unhide HC, if_pos rfl]; omega
    ·simp only [intOf]; omega
   | false =>
    have e1 : ((t[j'].toNat : Int) == 92) = false := by
     simp at hc ⊢
     intro h; exact hc (UInt8.toNat_inj.1 (by exact_mod_cast h))
    have HC := hide hc
    clear hc
    go_wp2_with (fail)
    go_ret
    refine ⟨?_, ⟨rfl, rfl, rfl, Nat.le_refl _, fun _ _ => rfl⟩⟩
    rw [unhide HT, unhide HE, unhide HC, if_neg (by decide)]
    exact odd_end m
set_option maxHeartbeats 4000000 in
theorem config_any (a b : Int) (ha0 : -9223372036854775808 ≤ a) (ha1 : a ≤ 9223372036854775807) (hb0 : -9223372036854775808 ≤ b) (hb1 : b ≤ 9223372036854775807) (w : World) :
  Calls Tryz.prog 18 #[.int .i64 a, .int .i64 b, .int .i64 0] w fun x w' => (∃ (d e n : Nat), d < 20 ∧ e < 401 ∧ n < 2001 ∧ x = .returned (.agg #[.int .i64 ((d + 1 : Nat) : Int), .int .i64 e, .int .i64 n])) ∧ Below w.heap.size w w' := by
 go_enter Tryz.func18, Tryz.ntmps18
 go_wp2_with (fail)
 refine (pick_any a 20 ha0 ha1 (by omega) (by omega) _).mono ?_
 rintro x w1 ⟨⟨d, hd, rfl⟩, rfl⟩
 go_wp2_with (fail)
 refine (pick_any b 401 hb0 hb1 (by omega) (by omega) _).mono ?_
 rintro x w1 ⟨⟨e, he, rfl⟩, rfl⟩
 go_wp2_with (fail)
 refine (pick_any 0 2001 (by omega) (by omega) (by omega) (by omega) _).mono ?_
 rintro x w1 ⟨⟨n, hn, rfl⟩, rfl⟩
 go_wp2_with (fail)
 refine bodyPost_ret (v := .agg #[.int .i64 ((d + 1 : Nat) : Int), .int .i64 e, .int .i64 n]) (by simp [results, Tryz.results18, go_sem]; omega) rfl ⟨⟨d, e, n, hd, he, hn, rfl⟩, ?_⟩
 exact (Below.refl _ w).alloc (Nat.le_refl _) _
end Go.Proofs.YtdpomdelmdofmaaGreatDoor

namespace Go.Proofs.YtdpomdelmdofmaaGreatDoor
open Go.RowKit
def Sp.dmp (d e : Int) (t : Sp.By) : Nat × Sp.By := match Sp.readTo t d e with
 | (c, some v) => (c, Sp.can top v)
 | (c, none) => (c, [])
theorem run_dmp {d e n : Int} (hc : Sp.cfg d e n = true) (t : Sp.By) : ∃ k, Sp.run d e n none [(1, t, []), (2, [], [])] = [((Sp.dmp d e t).1, 0, []), (k, 0, (Sp.dmp d e t).2)] := by
 have s1 : Sp.step d e n none (1, t, []) = Sp.ldd (Sp.readTo t d e) none := by
  unfold Sp.step; rw [hc, if_pos rfl, if_neg (by simp), if_pos rfl]
 have s2 : ∀ v, Sp.step d e n (some v) (2, [], []) = ((0, 0, Sp.can top v.1), some v) := fun v => by
  unfold Sp.step; rw [hc, if_pos rfl, if_neg (by simp), if_neg (by simp)]; rfl
 have s3 : Sp.step d e n none (2, [], []) = ((3, 0, []), none) := by
  unfold Sp.step; rw [hc, if_pos rfl, if_neg (by simp), if_neg (by simp)]
 simp only [Sp.run, s1]
 unfold Sp.dmp
 match Sp.readTo t d e with
 | (c, some v) => exact ⟨0, by simp only [Sp.ldd, s2]⟩
 | (c, none) => exact ⟨3, by simp only [Sp.ldd, s3]⟩
theorem plain_dmp (t : Sp.By) : Plain [(1, t, []), (2, [], [])] := by
 intro o ho
 simp only [List.mem_cons, List.not_mem_nil, or_false] at ho
 rcases ho with rfl | rfl
 ·exact Or.inl (Or.inl (show (1 : Int) < 3 by decide))
 ·exact Or.inl (Or.inl (show (2 : Int) < 3 by decide))
def dmpCells (t : ByteArray) : Array Value := #[.int .i64 1, .string t, .string ⟨#[]⟩, .int .i64 2, .string ⟨#[]⟩, .string ⟨#[]⟩]
theorem scr_dmp {w : World} {g : Nat} {t : ByteArray} (h : w.heap[g]? = some (.cells (dmpCells t) 49 (0, 0))) : Scr w g 0 [(1, t.data.toList, []), (2, [], [])] := by
 intro i hi
 have hc : ∀ j, w.cell? ⟨g, j, none⟩ = (dmpCells t)[j]? := fun j => by simp [World.cell?, h]
 rw [hc, hc, hc]
 match i, hi with
 | 0, _ => exact ⟨rfl, by simp [dmpCells], rfl⟩
 | 1, _ => exact ⟨rfl, rfl, rfl⟩
theorem bel_any {B : Nat} {a w w' : World} (h : Below B a w) (e : w'.heap = w.heap := by rfl) (e1 : w'.os = w.os := by rfl) (e2 : w'.tape = w.tape := by rfl) (e3 : w'.output = w.output := by rfl) : Below B a w' :=
 ⟨e1.trans h.os, e2.trans h.tape, e3.trans h.output, by rw [e]; exact h.size, fun k hk => by rw [e]; exact h.block k hk⟩
theorem bel_from {B : Nat} {a a' w : World} (h : Below B a w) (e : a.heap = a'.heap := by rfl) (e1 : a.os = a'.os := by rfl) (e2 : a.tape = a'.tape := by rfl) (e3 : a.output = a'.output := by rfl) : Below B a' w :=
 ⟨h.os.trans e1, h.tape.trans e2, h.output.trans e3, by rw [← e]; exact h.size, fun k hk => by rw [← e]; exact h.block k hk⟩
set_option maxRecDepth 100000 in
set_option maxHeartbeats 8000000 in
theorem dumped_any {d e n : Int} (hc : Sp.cfg d e n = true) (t : ByteArray) (w : World) (hT : Laid w) :
  Calls Tryz.prog 19 #[.agg #[.int .i64 d, .int .i64 e, .int .i64 n], .string t] w fun x w' => x = .returned (.tuple #[.string ⟨(Sp.dmp d e t.data.toList).2.toArray⟩, .int .i64 (Sp.dmp d e t.data.toList).1]) ∧ Below w.heap.size w w' := by
 have HT := hide hT
 have hng := hT.ng
 have HC := hide hc
 have hz : (w.alloc (.cells #[.int .i64 d, .int .i64 e, .int .i64 n] 23)).heap[w.heap.size]? = some (.cells #[.int .i64 d, .int .i64 e, .int .i64 n] 23 (0, 0)) := heap_new _ _ _ rfl
 have hba : Below w.heap.size w (w.alloc (.cells #[.int .i64 d, .int .i64 e, .int .i64 n] 23)) := (Below.refl _ _).alloc (Nat.le_refl _) _
 clear hT hc
 go_enter Tryz.func19, Tryz.ntmps19
 go_wp2_with (fail)
 generalize w.alloc (.cells #[.int .i64 d, .int .i64 e, .int .i64 n] 23) = wa at *
 have hsa : w.heap.size < wa.heap.size := (Array.getElem?_eq_some_iff.1 hz).1
 have z0 : wa.cell? ⟨w.heap.size, 0, none⟩ = some (.int .i64 d) := by simp [World.cell?, hz]
 have z1 : wa.cell? ⟨w.heap.size, 1, none⟩ = some (.int .i64 e) := by simp [World.cell?, hz]
 have z2 : wa.cell? ⟨w.heap.size, 2, none⟩ = some (.int .i64 n) := by simp [World.cell?, hz]
 have HZ := hide hz
 have HBA := hide hba
 have HRUN : Hid (∀ (w0 : World) (g : Nat), Below w.heap.size w w0 → w0.heap[g]? = some (.cells (dmpCells t) 49 (0, 0)) → Calls Tryz.prog 24 #[.agg #[.int .i64 d, .int .i64 e, .int .i64 n], .slice (some ⟨g, 0, none⟩) 2 2] w0 fun x w' => RunEnd 2 (Sp.run d e n none [(1, t.data.toList, []), (2, [], [])]) w0 x w') := by
  intro w0 g h0 h1
  exact Run_some (d := d) (e := e) (n := n) (l := [(1, t.data.toList, []), (2, [], [])]) (m := 2) (cap := 2) (scr_dmp h1) (plain_dmp _) rfl (by decide) (by decide) (by decide) (Array.getElem?_eq_some_iff.1 h1).1 ((unhide HT).below (h0.mono hng))
 clear hz hba
 go_region_with (first
  | (go_at_call_of 26 t; refine (kstep_any 1 t _ _).mono ?_; rintro x w1 ⟨rfl, hb1⟩; have y0 := (hb1.cell (p := ⟨w.heap.size, 0, none⟩) hsa).trans z0; have y1 := (hb1.cell (p := ⟨w.heap.size, 1, none⟩) hsa).trans z1; have y2 := (hb1.cell (p := ⟨w.heap.size, 2, none⟩) hsa).trans z2; have hs1 := Nat.lt_of_lt_of_le hsa hb1.size)
  | (go_at_call 26; refine (kstep_any 2 _ _ _).mono ?_; rintro x w2 ⟨rfl, hb2⟩; have x0 := (hb2.cell (p := ⟨w.heap.size, 0, none⟩) hs1).trans y0; have x1 := (hb2.cell (p := ⟨w.heap.size, 1, none⟩) hs1).trans y1; have x2 := (hb2.cell (p := ⟨w.heap.size, 2, none⟩) hs1).trans y2; have hs2 := Nat.lt_of_lt_of_le hs1 hb2.size)
  | (go_at_call 24; refine (unhide HRUN _ _ ?_ ?_).mono ?_; exact bel_any ((((unhide HBA).trans (bel_from (hb1.mono (Nat.le_of_lt hsa)))).trans (bel_from (hb2.mono (Nat.le_of_lt hs1)))).alloc (Nat.le_of_lt hs2) _); exact heap_new _ _ _ rfl; rintro x w3 ⟨A, cs, rfl, hA, hrow, hans, hb3⟩; have hb4 := bel_any ((((unhide HBA).trans (bel_from (hb1.mono (Nat.le_of_lt hsa)))).trans (bel_from (hb2.mono (Nat.le_of_lt hs1)))).alloc (Nat.le_of_lt hs2) _) |>.trans (hb3.mono (Nat.le_trans (Nat.le_of_lt hs2) (by simp)))))
 all_goals (
  replace hb4 : Below w.heap.size w w3 := hb4
  have HB4 := hide hb4
  obtain ⟨k, hk⟩ := run_dmp (unhide HC) t.data.toList
  rw [hk] at hans
  obtain ⟨hsz, hc⟩ := hans
  have q0 := hc 0 (by simp)
  have q1 := hc 1 (by simp)
  simp only [List.getElem_cons_zero, List.getElem_cons_succ] at q0 q1
  have hcell : ∀ j, w3.cell? ⟨A, j, none⟩ = cs[j]? := fun j => by simp [World.cell?, hrow]
  have g00 := (hcell 0).trans q0.1
  have g12 := (hcell 5).trans q1.2.2
  clear q0 q1 hc hcell hrow hsz hb4 hb1 hb2 hb3 hk x0 x1 x2 y0 y1 y2 z0 z1 z2
  go_wp2_with (fail)
  go_quiet (fail)
  go_wp2_with (fail)
  go_ret2
  exact ⟨rfl, bel_any (unhide HB4)⟩)
end Go.Proofs.YtdpomdelmdofmaaGreatDoor
