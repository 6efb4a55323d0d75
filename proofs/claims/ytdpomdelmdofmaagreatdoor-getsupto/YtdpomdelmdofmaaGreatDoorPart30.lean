/-
  Walks of the reference's own utf8 and hex.
-/
import Derived.Test.YtdpomdelmdofmaaGreatDoorPart29
import Derived.Laws.BytesArg
import Derived.Laws.IdiomStrings
namespace Go.Proofs.YtdpomdelmdofmaaGreatDoor
open Go.RowKit
theorem sca_le (l : Sp.By) : (Sp.sca l).2 ≤ l.length := by
 cases l with
 | nil => simp [Sp.sca]
 | cons c r =>
  unfold Sp.sca
  simp only
  split
  ·simp
  ·rename_i h
   split
   ·simp
   ·split
    ·simp
    ·simp only [List.length_cons]; omega
def Sp.u8 (l : Sp.By) : Bool := if _h : l = [] then true else if _h2 : (Sp.sca l).2 = 0 then false else Sp.u8 (l.drop (Sp.sca l).2)
termination_by l.length
decreasing_by
 have : 0 < l.length := List.length_pos_iff.2 _h
 rw [List.length_drop]
 omega
theorem u8_nil : Sp.u8 [] = true := by rw [Sp.u8]; simp
theorem u8_no {l : Sp.By} (h : l ≠ []) (h2 : (Sp.sca l).2 = 0) : Sp.u8 l = false := by rw [Sp.u8]; simp [h, h2]
theorem u8_go {l : Sp.By} (h : l ≠ []) (h2 : ¬ (Sp.sca l).2 = 0) : Sp.u8 l = Sp.u8 (l.drop (Sp.sca l).2) := by
 rw [Sp.u8]; simp [h, h2]
set_option maxRecDepth 100000 in
set_option maxHeartbeats 4000000 in
theorem rUtf8_anyL (t : ByteArray) (hs : t.size ≤ 1048576) (w : World) :
  Calls Tryz.prog 90 #[.string t] w fun e w' => e = .returned (.bool (Sp.u8 t.data.toList)) ∧ Below w.heap.size w w' := by
 have ha : AtL t 0 t.data.toList := ⟨hs, Nat.zero_le _, by simp⟩
 have HA := hide ha
 clear ha
 go_enter Tryz.func90, Tryz.ntmps90
 go_wp2_with (fail)
 go_loopw [3] (fun i wr => ∃ (q : Nat) (l' : Sp.By), i = .int .i64 q ∧ AtL t q l' ∧ Sp.u8 t.data.toList = Sp.u8 l' ∧ Below w.heap.size w wr) (fun i _ => t.size - (intOf i).toNat)
 case atStart => exact ⟨0, _, rfl, unhide HA, rfl, bel_same⟩
 case round =>
  obtain ⟨q, l', rfl, hat, hu, hbel⟩ := hrel
  have HU := hide hu
  have HQ := hide hat
  have HB := hide hbel
  cases l' with
  | nil =>
   have hp := hat.nil
   have e1 : ¬ q < t.size := by omega
   clear hat hu hbel hp
   go_wp2_with (fail)
   go_ret
   exact ⟨by rw [unhide HU, u8_nil]; rfl, bel_any (unhide HB)⟩
  | cons d l' =>
   have e1 := hat.lt
   have hle := sca_le (d :: l')
   have hlen := hat.len
   have hsz := hat.small
   have HLE := hide hle
   have HLN := hide hlen
   clear hat hu hbel hle hlen
   go_wp2_with (fail)
   refine (rScalar_anyL (unhide HQ) _).mono ?_
   rintro x w2 ⟨rfl, hb2⟩
   have HB2 := hide ((unhide HB).trans (hb2.mono (unhide HB).size))
   generalize hsc : Sp.sca (d :: l') = vn at *
   obtain ⟨v, n⟩ := vn
   have HSC := hide hsc
   clear hb2 hsc
   by_cases hn : n = 0
   ·subst hn
    go_wp2_with (fail)
    go_ret
    exact ⟨by rw [unhide HU, u8_no (by simp) (by rw [unhide HSC])]; rfl, bel_any (unhide HB2)⟩
   ·have hn0 : ((n : Int) == 0) = false := by simp; omega
    have hn4 : n ≤ 1048576 := by have h1 := unhide HLE; have h2 := unhide HLN; have : n ≤ (d :: l').length := h1; omega
    have HN := hide hn
    clear hn
    go_wp2_with (fail)
    have h1 := unhide HLE
    have h2 := unhide HLN
    have h3 := unhide HN
    exact ⟨⟨q + n, (d :: l').drop n, by go_num, (unhide HQ).add n h1, by rw [unhide HU, u8_go (by simp) (by rw [unhide HSC]; exact h3), unhide HSC], bel_any (unhide HB2)⟩, by simp only [intOf]; omega⟩
theorem rUtf8_any (t : ByteArray) (hs : t.size ≤ 2000) (w : World) :
  Calls Tryz.prog 90 #[.string t] w fun e w' => e = .returned (.bool (Sp.u8 t.data.toList)) ∧ Below w.heap.size w w' := rUtf8_anyL t (Nat.le_trans hs (by decide)) w
def Sp.hxI (c : Nat) : Int := match Sp.hexd c with
 | some n => (n : Int)
 | none => -1
set_option maxHeartbeats 1000000 in
theorem rHex_0 (c : Nat) (h : 48 ≤ c ∧ c ≤ 57) (w : World) : Calls Tryz.prog 255 #[.int .u8 c] w fun e w' => e = .returned (.int .i64 (Sp.hxI c)) ∧ w' = w := by
 have e : Sp.hxI c = (c : Int) - 48 := by
  unfold Sp.hxI Sp.hexd
  rw [if_pos (by omega)]
  simp only
  omega
 have HE := hide e
 have hw : wrap64 (c : Int) = c := by unfold wrap64; omega
 have f0 : decide ((48 : Int) ≤ (c : Int)) = true := decide_eq_true (by omega)
 have f1 : decide ((c : Int) ≤ 57) = true := decide_eq_true (by omega)
 clear e
 go_enter Tryz.func255, Tryz.ntmps255
 go_wp2_with (fail)
 go_ret
 exact ⟨by rw [unhide HE]; rfl, rfl⟩
set_option maxHeartbeats 1000000 in
theorem rHex_1 (c : Nat) (h : 97 ≤ c ∧ c ≤ 102) (w : World) : Calls Tryz.prog 255 #[.int .u8 c] w fun e w' => e = .returned (.int .i64 (Sp.hxI c)) ∧ w' = w := by
 have e : Sp.hxI c = (c : Int) - 97 + 10 := by
  unfold Sp.hxI Sp.hexd
  rw [if_neg (by omega), if_pos (by omega)]
  simp only
  omega
 have HE := hide e
 have hw : wrap64 (c : Int) = c := by unfold wrap64; omega
 have f0 : decide ((48 : Int) ≤ (c : Int)) = true := decide_eq_true (by omega)
 have f1 : decide ((c : Int) ≤ 57) = false := decide_eq_false (by omega)
 have f2 : decide ((97 : Int) ≤ (c : Int)) = true := decide_eq_true (by omega)
 have f3 : decide ((c : Int) ≤ 102) = true := decide_eq_true (by omega)
 clear e
 go_enter Tryz.func255, Tryz.ntmps255
 go_wp2_with (fail)
 go_ret
 exact ⟨by rw [unhide HE]; rfl, rfl⟩
set_option maxHeartbeats 1000000 in
theorem rHex_2 (c : Nat) (h : 65 ≤ c ∧ c ≤ 70) (w : World) : Calls Tryz.prog 255 #[.int .u8 c] w fun e w' => e = .returned (.int .i64 (Sp.hxI c)) ∧ w' = w := by
 have e : Sp.hxI c = (c : Int) - 65 + 10 := by
  unfold Sp.hxI Sp.hexd
  rw [if_neg (by omega), if_neg (by omega), if_pos (by omega)]
  simp only
  omega
 have HE := hide e
 have hw : wrap64 (c : Int) = c := by unfold wrap64; omega
 have f0 : decide ((48 : Int) ≤ (c : Int)) = true := decide_eq_true (by omega)
 have f1 : decide ((c : Int) ≤ 57) = false := decide_eq_false (by omega)
 have f2 : decide ((97 : Int) ≤ (c : Int)) = false := decide_eq_false (by omega)
 have f3 : decide ((65 : Int) ≤ (c : Int)) = true := decide_eq_true (by omega)
 have f4 : decide ((c : Int) ≤ 70) = true := decide_eq_true (by omega)
 clear e
 go_enter Tryz.func255, Tryz.ntmps255
 go_wp2_with (fail)
 go_ret
 exact ⟨by rw [unhide HE]; rfl, rfl⟩
set_option maxHeartbeats 1000000 in
theorem rHex_3 (c : Nat) (h : c < 48) (w : World) : Calls Tryz.prog 255 #[.int .u8 c] w fun e w' => e = .returned (.int .i64 (Sp.hxI c)) ∧ w' = w := by
 have e : Sp.hxI c = -1 := by
  unfold Sp.hxI Sp.hexd
  rw [if_neg (by omega), if_neg (by omega), if_neg (by omega)]
 have HE := hide e
 have hw : wrap64 (c : Int) = c := by unfold wrap64; omega
 have f0 : decide ((48 : Int) ≤ (c : Int)) = false := decide_eq_false (by omega)
 have f1 : decide ((97 : Int) ≤ (c : Int)) = false := decide_eq_false (by omega)
 have f2 : decide ((65 : Int) ≤ (c : Int)) = false := decide_eq_false (by omega)
 clear e
 go_enter Tryz.func255, Tryz.ntmps255
 go_wp2_with (fail)
 go_ret
 exact ⟨by rw [unhide HE]; rfl, rfl⟩
set_option maxHeartbeats 1000000 in
theorem rHex_4 (c : Nat) (h : 58 ≤ c ∧ c ≤ 64) (w : World) : Calls Tryz.prog 255 #[.int .u8 c] w fun e w' => e = .returned (.int .i64 (Sp.hxI c)) ∧ w' = w := by
 have e : Sp.hxI c = -1 := by
  unfold Sp.hxI Sp.hexd
  rw [if_neg (by omega), if_neg (by omega), if_neg (by omega)]
 have HE := hide e
 have hw : wrap64 (c : Int) = c := by unfold wrap64; omega
 have f0 : decide ((48 : Int) ≤ (c : Int)) = true := decide_eq_true (by omega)
 have f1 : decide ((c : Int) ≤ 57) = false := decide_eq_false (by omega)
 have f2 : decide ((97 : Int) ≤ (c : Int)) = false := decide_eq_false (by omega)
 have f3 : decide ((65 : Int) ≤ (c : Int)) = false := decide_eq_false (by omega)
 clear e
 go_enter Tryz.func255, Tryz.ntmps255
 go_wp2_with (fail)
 go_ret
 exact ⟨by rw [unhide HE]; rfl, rfl⟩
set_option maxHeartbeats 1000000 in
theorem rHex_5 (c : Nat) (h : 71 ≤ c ∧ c ≤ 96) (w : World) : Calls Tryz.prog 255 #[.int .u8 c] w fun e w' => e = .returned (.int .i64 (Sp.hxI c)) ∧ w' = w := by
 have e : Sp.hxI c = -1 := by
  unfold Sp.hxI Sp.hexd
  rw [if_neg (by omega), if_neg (by omega), if_neg (by omega)]
 have HE := hide e
 have hw : wrap64 (c : Int) = c := by unfold wrap64; omega
 have f0 : decide ((48 : Int) ≤ (c : Int)) = true := decide_eq_true (by omega)
 have f1 : decide ((c : Int) ≤ 57) = false := decide_eq_false (by omega)
 have f2 : decide ((97 : Int) ≤ (c : Int)) = false := decide_eq_false (by omega)
 have f3 : decide ((65 : Int) ≤ (c : Int)) = true := decide_eq_true (by omega)
 have f4 : decide ((c : Int) ≤ 70) = false := decide_eq_false (by omega)
 clear e
 go_enter Tryz.func255, Tryz.ntmps255
 go_wp2_with (fail)
 go_ret
 exact ⟨by rw [unhide HE]; rfl, rfl⟩
set_option maxHeartbeats 1000000 in
theorem rHex_6 (c : Nat) (h : 103 ≤ c ∧ c < 256) (w : World) : Calls Tryz.prog 255 #[.int .u8 c] w fun e w' => e = .returned (.int .i64 (Sp.hxI c)) ∧ w' = w := by
 have e : Sp.hxI c = -1 := by
  unfold Sp.hxI Sp.hexd
  rw [if_neg (by omega), if_neg (by omega), if_neg (by omega)]
 have HE := hide e
 have hw : wrap64 (c : Int) = c := by unfold wrap64; omega
 have f0 : decide ((48 : Int) ≤ (c : Int)) = true := decide_eq_true (by omega)
 have f1 : decide ((c : Int) ≤ 57) = false := decide_eq_false (by omega)
 have f2 : decide ((97 : Int) ≤ (c : Int)) = true := decide_eq_true (by omega)
 have f3 : decide ((c : Int) ≤ 102) = false := decide_eq_false (by omega)
 have f4 : decide ((65 : Int) ≤ (c : Int)) = true := decide_eq_true (by omega)
 have f5 : decide ((c : Int) ≤ 70) = false := decide_eq_false (by omega)
 clear e
 go_enter Tryz.func255, Tryz.ntmps255
 go_wp2_with (fail)
 go_ret
 exact ⟨by rw [unhide HE]; rfl, rfl⟩
theorem rHex_any (c : Nat) (hc : c < 256) (w : World) : Calls Tryz.prog 255 #[.int .u8 c] w fun e w' => e = .returned (.int .i64 (Sp.hxI c)) ∧ w' = w := by
 by_cases h0 : 48 ≤ c ∧ c ≤ 57
 ·exact rHex_0 c h0 w
 ·by_cases h1 : 97 ≤ c ∧ c ≤ 102
  ·exact rHex_1 c h1 w
  ·by_cases h2 : 65 ≤ c ∧ c ≤ 70
   ·exact rHex_2 c h2 w
   ·by_cases h3 : c < 48
    ·exact rHex_3 c h3 w
    ·by_cases h4 : c ≤ 64
     ·exact rHex_4 c ⟨by omega, h4⟩ w
     ·by_cases h5 : c ≤ 96
      ·exact rHex_5 c ⟨by omega, h5⟩ w
      ·exact rHex_6 c ⟨by omega, hc⟩ w
end Go.Proofs.YtdpomdelmdofmaaGreatDoor

namespace Go.Proofs.YtdpomdelmdofmaaGreatDoor
open Go.RowKit
def Sp.fourI (l : Sp.By) : Int := if 6 ≤ l.length ∧ Sp.tk l 92 = true ∧ Sp.tk l.tail 117 = true then (match Sp.hexs 4 0 (l.drop 2) with
 | some (n, _) => (n : Int)
 | none => -1) else -1
theorem fourI_no {l : Sp.By} (h : ¬ (6 ≤ l.length ∧ Sp.tk l 92 = true ∧ Sp.tk l.tail 117 = true)) : Sp.fourI l = -1 := by unfold Sp.fourI; rw [if_neg h]
theorem fourI_yes {l : Sp.By} (h : 6 ≤ l.length ∧ Sp.tk l 92 = true ∧ Sp.tk l.tail 117 = true) : Sp.fourI l = match Sp.hexs 4 0 (l.drop 2) with
  | some (n, _) => (n : Int)
  | none => -1 := by unfold Sp.fourI; rw [if_pos h]
theorem tk_byte {t : ByteArray} {p : Nat} {c : UInt8} {r : Sp.By} (ha : At t p (c :: r)) (u : UInt8) : ((t[p]'ha.lt).toNat : Int) == (u.toNat : Int) ↔ Sp.tk (c :: r) u = true := by
 rw [ha.byte, tk_hd, beq_iff_eq, beq_iff_eq]
 constructor
 ·intro h; exact UInt8.toNat_inj.1 (by exact_mod_cast h)
 ·rintro rfl; rfl
theorem hexs_no {k n : Nat} {c : UInt8} {r : Sp.By} (h : Sp.hexd c.toNat = none) : Sp.hexs (k + 1) n (c :: r) = none := by
 rw [Sp.hexs, pk_cons, h]
theorem hexs_yes {k n m : Nat} {c : UInt8} {r : Sp.By} (h : Sp.hexd c.toNat = some m) : Sp.hexs (k + 1) n (c :: r) = Sp.hexs k (n * 16 + m) r := by
 rw [Sp.hexs, pk_cons, h]
 rfl
set_option maxRecDepth 100000 in
set_option maxHeartbeats 8000000 in
theorem rFour_any {w : World} {R : Nat} {t : ByteArray} {p : Nat} {l : Sp.By} (h : RS w R t) (ha : At t p l) :
  Calls Tryz.prog 210 #[.pointer (some ⟨R, 0, none⟩), .int .i64 p] w fun e w' => e = .returned (.int .i64 (Sp.fourI l)) ∧ w' = w := by
 have c0 : w.cell? ⟨R, 0, none⟩ = some (.string t) := h
 have hlen := ha.len
 have hsz := ha.small
 have hple := ha.le
 clear h
 by_cases hs : l.length < 6
 ·have e1 : (t.size : Int) < (p : Int) + 6 := by omega
  have HE := hide (fourI_no (l := l) (fun h => by omega))
  clear ha hlen hs
  go_enter Tryz.func210, Tryz.ntmps210
  go_wp2_with (fail)
  go_ret
  exact ⟨by rw [unhide HE]; rfl, rfl⟩
 ·match l, ha, hlen, hs with
  | a :: b :: l2, ha, hlen, hs =>
   have e1 : ¬ (t.size : Int) < (p : Int) + 6 := by omega
   have hlt := ha.lt
   have hlt1 := ha.next.lt
   have ka := tk_byte ha 92
   have kb := tk_byte ha.next 117
   have HA := hide ha
   have HS := hide hs
   by_cases ta : Sp.tk (a :: b :: l2) 92 = true
   ·have ea : (((t[p]'hlt).toNat : Int) != 92) = false := by rw [bne, show (((t[p]'hlt).toNat : Int) == 92) = true from ka.2 ta]; rfl
    by_cases tb : Sp.tk (b :: l2) 117 = true
    ·have eb : (((t[p + 1]'hlt1).toNat : Int) != 117) = false := by rw [bne, show (((t[p + 1]'hlt1).toNat : Int) == 117) = true from kb.2 tb]; rfl
     have HE := hide (fourI_yes (l := a :: b :: l2) ⟨by omega, ta, tb⟩)
     clear ha hlen hs ka kb ta tb
     go_enter Tryz.func210, Tryz.ntmps210
     go_wp2_with (fail)
     go_loopw [5, 6] (fun v i wr => ∃ (k n : Nat) (r' : Sp.By), 2 ≤ k ∧ k ≤ 6 ∧ i = .int .i64 k ∧ v = .int .i64 n ∧ At t (p + k) r' ∧ Sp.hexs 4 0 l2 = Sp.hexs (6 - k) n r' ∧ n < 16 ^ (k - 2) ∧ 6 - k ≤ r'.length ∧ wr = w) (fun _ i _ => 6 - (intOf i).toNat)
     case atStart => exact ⟨2, 0, l2, by omega, by omega, rfl, rfl, (unhide HA).next.next, rfl, by decide, by have := unhide HS; simp at this; omega, rfl⟩
     case round =>
      obtain ⟨k, n, r', hk1, hk2, rfl, rfl, hat, hcnt, hxb, hrl, rfl⟩ := hrel
      have hx : n < 65536 := Nat.lt_of_lt_of_le hxb (show 16 ^ (k - 2) ≤ 16 ^ 4 from Nat.pow_le_pow_right (by decide) (by omega))
      have HAT := hide hat
      have HCN := hide hcnt
      have HXB := hide hxb
      by_cases hkn : k < 6
      ·match r', hat, hcnt, hrl, HAT, HCN with
       | [], _, _, hrl, _, _ => exact absurd hrl (by simp only [List.length_nil]; omega)
       | d :: r'', hat, hcnt, hrl, HAT, HCN =>
        have hq := hat.lt
        obtain ⟨q, hqd⟩ : ∃ q, q = p + k := ⟨_, rfl⟩
        rw [← hqd] at hq
        have hqi : (p : Int) + (k : Int) = (q : Int) := by omega
        have hbq : t[q]'hq = d := by
         have := hat.byte
         simp only [← hqd] at this
         exact this
        have HBQ := hide hbq
        have HRL := hide hrl
        have HQ8 := hide (t[q]'hq).toNat_lt
        clear hat hcnt hrl hbq hqd hxb e1
        go_wp2_with (fail)
        refine (rHex_any (t[q]'hq).toNat (unhide HQ8) _).mono ?_
        rintro e w' ⟨rfl, rfl⟩
        cases hd : Sp.hexd (t[q]'hq).toNat with
        | none =>
         have hI : Sp.hxI (t[q]'hq).toNat = -1 := by unfold Sp.hxI; rw [hd]
         have HD := hide hd
         clear hd
         go_wp2_with (fail)
         go_ret
         refine ⟨?_, rfl⟩
         rw [unhide HE, List.drop_succ_cons, List.drop_succ_cons, List.drop_zero, unhide HCN, show 6 - k = 6 - k - 1 + 1 by omega, hexs_no (by rw [← unhide HBQ]; exact unhide HD)]
         rfl
        | some m =>
         have hI : Sp.hxI (t[q]'hq).toNat = (m : Int) := by unfold Sp.hxI; rw [hd]
         have hm := hexd_lt hd
         have HD := hide hd
         clear hd
         go_wp2_with (fail)
         have hrl := unhide HRL
         have hxb := unhide HXB
         refine ⟨⟨k + 1, n * 16 + m, r'', by omega, by omega, by go_num, ?_, (unhide HAT).next, ?_, ?_, by rw [List.length_cons] at hrl; omega, trivial⟩, by simp only [intOf]; omega⟩
         ·rw [show (16 * (n : Int) + (m : Int)) = ((n * 16 + m : Nat) : Int) by omega]
         ·rw [unhide HCN, show 6 - k = 6 - (k + 1) + 1 by omega, hexs_yes (by rw [← unhide HBQ]; exact unhide HD)]
         ·rw [show k + 1 - 2 = (k - 2) + 1 by omega, Nat.pow_succ]; omega
      ·obtain rfl : k = 6 := by omega
       have HCN2 := hide (show Sp.hexs 4 0 l2 = some (n, r') from hcnt)
       clear hat hcnt hrl hxb hkn
       go_wp2_with (fail)
       go_ret
       refine ⟨?_, rfl⟩
       rw [unhide HE, List.drop_succ_cons, List.drop_succ_cons, List.drop_zero, unhide HCN2]
       rfl
    ·have eb : (((t[p + 1]'hlt1).toNat : Int) == 117) = false := by
      cases hh : (((t[p + 1]'hlt1).toNat : Int) == 117) with
      | false => rfl
      | true => exact absurd (kb.1 hh) tb
     have nb : (((t[p + 1]'hlt1).toNat : Int) != 117) = true := by rw [bne, eb]; rfl
     have HE := hide (fourI_no (l := a :: b :: l2) (fun h => tb h.2.2))
     clear ha hlen hs ka kb ta tb
     go_enter Tryz.func210, Tryz.ntmps210
     go_wp2_with (fail)
     go_ret
     exact ⟨by rw [unhide HE]; rfl, rfl⟩
   ·have ea : (((t[p]'hlt).toNat : Int) == 92) = false := by
     cases hh : (((t[p]'hlt).toNat : Int) == 92) with
     | false => rfl
     | true => exact absurd (ka.1 hh) ta
    have na : (((t[p]'hlt).toNat : Int) != 92) = true := by rw [bne, ea]; rfl
    have HE := hide (fourI_no (l := a :: b :: l2) (fun h => ta h.2.1))
    clear ha hlen hs ka kb ta
    go_enter Tryz.func210, Tryz.ntmps210
    go_wp2_with (fail)
    go_ret
    exact ⟨by rw [unhide HE]; rfl, rfl⟩
  | [a], _, _, hs => exact absurd (show ([a] : Sp.By).length < 6 by simp) hs
  | [], _, _, hs => exact absurd (show ([] : Sp.By).length < 6 by simp) hs
end Go.Proofs.YtdpomdelmdofmaaGreatDoor

namespace Go.Proofs.YtdpomdelmdofmaaGreatDoor
open Go.RowKit
theorem conv_new (xs : List Int) (W : World) : (convert 117 9 (.slice (some ⟨W.heap.size, 0, none⟩) xs.length xs.length)).run Tryz.prog (W.alloc (.cells (xs.map (Value.int .u8)).toArray 5)) = .ok (.string (strOfNums xs)) (W.alloc (.cells (xs.map (Value.int .u8)).toArray 5)) := by
 refine run_convert_bytes_arg _ 117 5 Tryz.underlying117 Tryz.underlying5 _ 0 xs.length xs.length xs rfl (fun i hi => ?_) 9 Tryz.underlying9
 rw [Nat.zero_add, World.cell?_alloc_mark]
 simp [hi, List.getD]
def CodEnd (v : Nat) (w : World) (e : Ending) (w' : World) : Prop := (∃ s : ByteArray, e = .returned (.string s) ∧ s.data.toList = Sp.encN v) ∧ Below w.heap.size w w'
theorem CodEnd.mk {v : Nat} {w w' : World} {xs : List Int} (h : Lib.encodeRuneZ (v : Int) = xs) (hb : Below w.heap.size w w') : CodEnd v w (.returned (.string (strOfNums xs))) w' := by
 refine ⟨⟨_, rfl, ?_⟩, hb⟩
 rw [strOfNums_data, Sp.encN, Lib.encodeRune, h]
set_option maxRecDepth 100000 in
set_option maxHeartbeats 4000000 in
theorem rCoded_one (v : Nat) (h : v < 128) (w : World) : Calls Tryz.prog 211 #[.int .i64 v] w fun e w' => CodEnd v w e w' := by
 have hcv := fun (x0 : Int) (W : World) => conv_new [x0] W
 simp only [List.map_cons, List.map_nil, List.length_cons, List.length_nil, Nat.zero_add] at hcv
 have f0 : decide ((v : Int) < 128) = true := decide_eq_true (by omega)
 have g0 : wrap64 (v : Int) = v := by (try unfold wrap64); omega
 have g1 : (v : Int) % 256 = v := by (try unfold wrap64); omega
 have HL := hide (Lib.encodeRuneZ_one (r := (v : Int)) (by omega) (by omega))
 clear h
 go_enter Tryz.func211, Tryz.ntmps211
 go_wp2_with (fail)
 go_ret
 exact CodEnd.mk (unhide HL) ((Below.refl _ _).alloc (Nat.le_refl _) _)
set_option maxRecDepth 100000 in
set_option maxHeartbeats 4000000 in
theorem rCoded_two (v : Nat) (h : 128 ≤ v ∧ v < 2048) (w : World) : Calls Tryz.prog 211 #[.int .i64 v] w fun e w' => CodEnd v w e w' := by
 have hcv := fun (x0 x1 : Int) (W : World) => conv_new [x0, x1] W
 simp only [List.map_cons, List.map_nil, List.length_cons, List.length_nil, Nat.zero_add, Nat.reduceAdd] at hcv
 have f0 : decide ((v : Int) < 128) = false := decide_eq_false (by omega)
 have f1 : decide ((v : Int) < 2048) = true := decide_eq_true (by omega)
 have g0 : wrap64 ((v : Int) / 64) = (v : Int) / 64 := by (try unfold wrap64); omega
 have g1 : wrap64 (192 + (v : Int) / 64) = 192 + (v : Int) / 64 := by (try unfold wrap64); omega
 have g2 : (192 + (v : Int) / 64) % 256 = 192 + (v : Int) / 64 := by (try unfold wrap64); omega
 have HL := hide (Lib.encodeRuneZ_two (r := (v : Int)) (by omega) (by omega))
 clear h
 go_enter Tryz.func211, Tryz.ntmps211
 go_wp2_with (fail)
 go_ret
 exact CodEnd.mk (unhide HL) ((Below.refl _ _).alloc (Nat.le_refl _) _)
set_option maxRecDepth 100000 in
set_option maxHeartbeats 4000000 in
theorem rCoded_three (v : Nat) (h : 2048 ≤ v ∧ v < 65536 ∧ Sp.Sc v) (w : World) : Calls Tryz.prog 211 #[.int .i64 v] w fun e w' => CodEnd v w e w' := by
 have hcv := fun (x0 x1 x2 : Int) (W : World) => conv_new [x0, x1, x2] W
 simp only [List.map_cons, List.map_nil, List.length_cons, List.length_nil, Nat.zero_add, Nat.reduceAdd] at hcv
 have f0 : decide ((v : Int) < 128) = false := decide_eq_false (by omega)
 have f1 : decide ((v : Int) < 2048) = false := decide_eq_false (by omega)
 have f2 : decide ((v : Int) < 65536) = true := decide_eq_true (by omega)
 have g0 : wrap64 ((v : Int) / 4096) = (v : Int) / 4096 := by (try unfold wrap64); omega
 have g1 : wrap64 (224 + (v : Int) / 4096) = 224 + (v : Int) / 4096 := by (try unfold wrap64); omega
 have g2 : (224 + (v : Int) / 4096) % 256 = 224 + (v : Int) / 4096 := by (try unfold wrap64); omega
 have g3 : wrap64 ((v : Int) / 64) = (v : Int) / 64 := by (try unfold wrap64); omega
 have HL := hide (Lib.encodeRuneZ_three (r := (v : Int)) (by have := h.2.2; unfold Sp.Sc at this; omega))
 clear h
 go_enter Tryz.func211, Tryz.ntmps211
 go_wp2_with (fail)
 go_ret
 exact CodEnd.mk (unhide HL) ((Below.refl _ _).alloc (Nat.le_refl _) _)
set_option maxRecDepth 100000 in
set_option maxHeartbeats 4000000 in
theorem rCoded_four (v : Nat) (h : 65536 ≤ v ∧ v ≤ 1114111) (w : World) : Calls Tryz.prog 211 #[.int .i64 v] w fun e w' => CodEnd v w e w' := by
 have hcv := fun (x0 x1 x2 x3 : Int) (W : World) => conv_new [x0, x1, x2, x3] W
 simp only [List.map_cons, List.map_nil, List.length_cons, List.length_nil, Nat.zero_add, Nat.reduceAdd] at hcv
 have f0 : decide ((v : Int) < 128) = false := decide_eq_false (by omega)
 have f1 : decide ((v : Int) < 2048) = false := decide_eq_false (by omega)
 have f2 : decide ((v : Int) < 65536) = false := decide_eq_false (by omega)
 have g0 : wrap64 ((v : Int) / 262144) = (v : Int) / 262144 := by (try unfold wrap64); omega
 have g1 : wrap64 (240 + (v : Int) / 262144) = 240 + (v : Int) / 262144 := by (try unfold wrap64); omega
 have g2 : (240 + (v : Int) / 262144) % 256 = 240 + (v : Int) / 262144 := by (try unfold wrap64); omega
 have g3 : wrap64 ((v : Int) / 4096) = (v : Int) / 4096 := by (try unfold wrap64); omega
 have g4 : wrap64 ((v : Int) / 64) = (v : Int) / 64 := by (try unfold wrap64); omega
 have HL := hide (Lib.encodeRuneZ_four (r := (v : Int)) (by omega) (by omega))
 clear h
 go_enter Tryz.func211, Tryz.ntmps211
 go_wp2_with (fail)
 go_ret
 exact CodEnd.mk (unhide HL) ((Below.refl _ _).alloc (Nat.le_refl _) _)
theorem rCoded_any (v : Nat) (h : Sp.Sc v) (w : World) : Calls Tryz.prog 211 #[.int .i64 v] w fun e w' => CodEnd v w e w' := by
 by_cases h1 : v < 128
 ·exact rCoded_one v h1 w
 ·by_cases h2 : v < 2048
  ·exact rCoded_two v ⟨by omega, h2⟩ w
  ·by_cases h3 : v < 65536
   ·exact rCoded_three v ⟨by omega, h3, h⟩ w
   ·exact rCoded_four v ⟨by omega, by unfold Sp.Sc at h; omega⟩ w
end Go.Proofs.YtdpomdelmdofmaaGreatDoor
