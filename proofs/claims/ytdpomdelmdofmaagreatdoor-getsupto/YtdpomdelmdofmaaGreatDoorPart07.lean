/-
  Walk of the reader's scalar (what follows backslash and u).
-/
import Derived.Test.YtdpomdelmdofmaaGreatDoorPart05
import Derived.Laws.Rows
import Derived.Test.YtdpomdelmdofmaaGreatDoorPart04
import Derived.Lib.IndexBytes
import Derived.Deep.RegionWith
namespace Go.Proofs.YtdpomdelmdofmaaGreatDoor
open Go.RowKit
theorem hexs_bound (k n : Nat) (l : Sp.By) (m : Nat) (r : Sp.By) (h : Sp.hexs k n l = some (m, r)) : m < (n + 1) * 16 ^ k := by
 induction k generalizing n l with
 | zero => simp [Sp.hexs] at h; omega
 | succ k ih =>
  rw [Sp.hexs] at h
  cases hd : Sp.hexd (Sp.pk l) with
  | none => rw [hd] at h; cases h
  | some d =>
   rw [hd] at h
   have h1 := ih _ _ h
   have h2 := hexd_lt hd
   have h3 : (n * 16 + d + 1) * 16 ^ k ≤ (n + 1) * 16 * 16 ^ k := Nat.mul_le_mul_right _ (by omega)
   rw [Nat.pow_succ]
   calc m < _ := h1
    _ ≤ _ := h3
    _ = _ := by rw [Nat.mul_assoc, Nat.mul_comm 16]
theorem hexs4 {l r : Sp.By} {m : Nat} (h : Sp.hexs 4 0 l = some (m, r)) : m < 65536 := by
 have := hexs_bound 4 0 l m r h; simpa using this
def scalEnd (l : Sp.By) (e : Ending) (w' : World) (R : Nat) (t : ByteArray) (tw : Bool) (dp fr : Int) : Prop :=
 (∃ n l', Sp.scal l = some (n, l') ∧ e = .returned (.tuple #[.int .i32 n, .bool true]) ∧ RD w' R t l' tw dp fr) ∨
  (Sp.scal l = none ∧ ∃ n l', e = .returned (.tuple #[.int .i32 n, .bool false]) ∧ RD w' R t l' tw dp fr)
set_option maxHeartbeats 2000000 in
theorem scalar_any {w : World} {R : Nat} {t : ByteArray} {l : Sp.By} {tw : Bool} {dp fr : Int} (h : RD w R t l tw dp fr) :
  Calls Tryz.prog 295 #[.pointer (some ⟨R, 0, none⟩)] w fun e w' => KeptX R w w' ∧ scalEnd l e w' R t tw dp fr := by
 go_enter Tryz.func295, Tryz.ntmps295
 go_wp2_with (fail)
 refine (fourDigits_any h).mono ?_
 rintro e w1 ⟨hk1, l1, hr1, hc⟩
 rcases hc with ⟨a, ha, rfl⟩ | ⟨hn, rfl⟩
 ·have HS : Hid (Sp.scal l = if a < 55296 ∨ 57344 ≤ a then some (a, l1) else if 56320 ≤ a then none
   else if Sp.tk l1 92 then (if Sp.tk l1.tail 117 then (match Sp.hexs 4 0 l1.tail.tail with
     | none => none
     | some (b, r') => if b < 56320 ∨ 57344 ≤ b then none else some (65536 + (a - 55296) * 1024 + (b - 56320), r'))
    else none) else none) := by unfold Sp.scal; rw [ha]; rfl
  have hb := hexs4 ha
  clear ha h
  by_cases c1 : a < 55296
  ·have e1 : decide ((a : Int) < 55296) = true := by simp; omega
   go_wp2_with (fail)
   go_ret2
   refine ⟨hk1, Or.inl ⟨a, l1, ?_, rfl, hr1⟩⟩
   rw [unhide HS, if_pos (Or.inl c1)]
  ·by_cases c2 : 57344 ≤ a
   ·have e1 : decide ((a : Int) < 55296) = false := by simp; omega
    have e2 : decide ((57344 : Int) ≤ (a : Int)) = true := by simp; omega
    go_wp2_with (fail)
    go_ret2
    refine ⟨hk1, Or.inl ⟨a, l1, ?_, rfl, hr1⟩⟩
    rw [unhide HS, if_pos (Or.inr c2)]
   ·have e1 : decide ((a : Int) < 55296) = false := by simp; omega
    have e2 : decide ((57344 : Int) ≤ (a : Int)) = false := by simp; omega
    by_cases c3 : 56320 ≤ a
    ·have e3 : decide ((56320 : Int) ≤ (a : Int)) = true := by simp; omega
     go_wp2_with (fail)
     go_ret2
     refine ⟨hk1, Or.inr ⟨?_, 0, l1, rfl, hr1⟩⟩
     rw [unhide HS, if_neg (by omega), if_pos c3]
    ·have e3 : decide ((56320 : Int) ≤ (a : Int)) = false := by simp; omega
     have HT : Hid (Sp.scal l = if Sp.tk l1 92 then (if Sp.tk l1.tail 117 then (match Sp.hexs 4 0 l1.tail.tail with
       | none => none
       | some (b, r') => if b < 56320 ∨ 57344 ≤ b then none else some (65536 + (a - 55296) * 1024 + (b - 56320), r'))
      else none) else none) := by rw [unhide HS, if_neg (by omega), if_neg c3]; rfl
     clear HS
     by_cases k1 : Sp.tk l1 92 = true
     ·have K1 := hide k1
      clear k1
      go_wp2_with (fail)
      refine (take_yes 92 _ rfl hr1 (unhide K1)).mono ?_
      rintro e w2 ⟨rfl, hr2, hk2⟩
      by_cases k2 : Sp.tk l1.tail 117 = true
      ·have K2 := hide k2
       clear k2
       go_wp2_with (fail)
       refine (take_yes 117 _ rfl hr2 (unhide K2)).mono ?_
       rintro e w3 ⟨rfl, hr3, hk3⟩
       go_wp2_with (fail)
       refine (fourDigits_any hr3).mono ?_
       rintro e w4 ⟨hk4, l4, hr4, hc⟩
       have hkk := ((hk1.trans hk2).trans hk3).trans hk4
       rcases hc with ⟨b, hb4, rfl⟩ | ⟨hn, rfl⟩
       ·have hb5 := hexs4 hb4
        have HU : Hid (Sp.scal l = if b < 56320 ∨ 57344 ≤ b then none else some (65536 + (a - 55296) * 1024 + (b - 56320), l4)) := by
         rw [unhide HT, if_pos (unhide K1), if_pos (unhide K2), hb4]; rfl
        clear HT hb4
        by_cases d1 : b < 56320
        ·have g1 : decide ((b : Int) < 56320) = true := by simp; omega
         go_wp2_with (fail)
         go_ret2
         exact ⟨hkk, Or.inr ⟨by rw [unhide HU, if_pos (Or.inl d1)], 0, l4, rfl, hr4⟩⟩
        ·have g1 : decide ((b : Int) < 56320) = false := by simp; omega
         by_cases d2 : 57344 ≤ b
         ·have g2 : decide ((57344 : Int) ≤ (b : Int)) = true := by simp; omega
          go_wp2_with (fail)
          go_ret2
          exact ⟨hkk, Or.inr ⟨by rw [unhide HU, if_pos (Or.inr d2)], 0, l4, rfl, hr4⟩⟩
         ·have g2 : decide ((57344 : Int) ≤ (b : Int)) = false := by simp; omega
          have he : Hid (65536 + ((a : Int) - 55296) * 1024 + (b : Int) - 56320 = ((65536 + (a - 55296) * 1024 + (b - 56320) : Nat) : Int)) := hide (by omega)
          go_wp2_with (fail)
          rw [unhide he]
          go_ret2
          exact ⟨hkk, Or.inl ⟨65536 + (a - 55296) * 1024 + (b - 56320), l4, by rw [unhide HU, if_neg (by omega)], rfl, hr4⟩⟩
       ·have HU : Hid (Sp.scal l = none) := by rw [Hid, unhide HT, if_pos (unhide K1), if_pos (unhide K2), hn]
        clear HT hn
        go_wp2_with (fail)
        go_ret2
        exact ⟨hkk, Or.inr ⟨unhide HU, 0, l4, rfl, hr4⟩⟩
      ·have K2 := hide (tk_false k2)
       clear k2
       go_wp2_with (fail)
       refine (takeN 117 _ rfl hr2 (unhide K2)).mono ?_
       rintro e w3 ⟨rfl, hr3, hk3⟩
       go_wp2_with (fail)
       go_ret2
       refine ⟨(hk1.trans hk2).trans hk3, Or.inr ⟨?_, 0, _, rfl, hr3⟩⟩
       rw [unhide HT, if_pos (unhide K1), unhide K2]; rfl
     ·have K1 := hide (tk_false k1)
      clear k1
      go_wp2_with (fail)
      refine (takeN 92 _ rfl hr1 (unhide K1)).mono ?_
      rintro e w2 ⟨rfl, hr2, hk2⟩
      go_wp2_with (fail)
      go_ret2
      refine ⟨hk1.trans hk2, Or.inr ⟨?_, 0, _, rfl, hr2⟩⟩
      rw [unhide HT, unhide K1]; rfl
 ·have HS : Hid (Sp.scal l = none) := by unfold Hid Sp.scal; rw [hn]
  clear hn h
  go_wp2_with (fail)
  go_ret2
  exact ⟨hk1, Or.inr ⟨unhide HS, 0, l1, rfl, hr1⟩⟩
end Go.Proofs.YtdpomdelmdofmaaGreatDoor

namespace Go.Proofs.YtdpomdelmdofmaaGreatDoor
open Go.RowKit
def escL (j : Nat) : UInt8 := (Sp.escT.getD j (0, 0)).1
def escV (j : Nat) : Nat := (Sp.escT.getD j (0, 0)).2
theorem esc_i0 (w : World) : (Instr.index 335 (.agg escCells) (.int .i64 0)).run Tryz.prog w = .ok (.agg #[.int .u8 34, .int .i32 34]) w := by kernel_rfl
theorem esc_i1 (w : World) : (Instr.index 335 (.agg escCells) (.int .i64 1)).run Tryz.prog w = .ok (.agg #[.int .u8 92, .int .i32 92]) w := by kernel_rfl
theorem esc_i2 (w : World) : (Instr.index 335 (.agg escCells) (.int .i64 2)).run Tryz.prog w = .ok (.agg #[.int .u8 47, .int .i32 47]) w := by kernel_rfl
theorem esc_i3 (w : World) : (Instr.index 335 (.agg escCells) (.int .i64 3)).run Tryz.prog w = .ok (.agg #[.int .u8 98, .int .i32 8]) w := by kernel_rfl
theorem esc_i4 (w : World) : (Instr.index 335 (.agg escCells) (.int .i64 4)).run Tryz.prog w = .ok (.agg #[.int .u8 102, .int .i32 12]) w := by kernel_rfl
theorem esc_i5 (w : World) : (Instr.index 335 (.agg escCells) (.int .i64 5)).run Tryz.prog w = .ok (.agg #[.int .u8 110, .int .i32 10]) w := by kernel_rfl
theorem esc_i6 (w : World) : (Instr.index 335 (.agg escCells) (.int .i64 6)).run Tryz.prog w = .ok (.agg #[.int .u8 114, .int .i32 13]) w := by kernel_rfl
theorem esc_i7 (w : World) : (Instr.index 335 (.agg escCells) (.int .i64 7)).run Tryz.prog w = .ok (.agg #[.int .u8 116, .int .i32 9]) w := by kernel_rfl
theorem esc_idx (j : Nat) (hj : j < 8) (w : World) : (Instr.index 335 (.agg escCells) (.int .i64 j)).run Tryz.prog w = .ok (.agg #[.int .u8 (escL j).toNat, .int .i32 (escV j)]) w := by
 match j, hj with
 | 0, _ => exact esc_i0 w
 | 1, _ => exact esc_i1 w
 | 2, _ => exact esc_i2 w
 | 3, _ => exact esc_i3 w
 | 4, _ => exact esc_i4 w
 | 5, _ => exact esc_i5 w
 | 6, _ => exact esc_i6 w
 | 7, _ => exact esc_i7 w
theorem esc_step (l : Sp.By) (j : Nat) (hj : j < 8) : Sp.escIn l (Sp.escT.drop j) = if Sp.tk l (escL j) then some (escV j, l.tail) else Sp.escIn l (Sp.escT.drop (j + 1)) := by
 match j, hj with
 | 0, _ => rfl
 | 1, _ => rfl
 | 2, _ => rfl
 | 3, _ => rfl
 | 4, _ => rfl
 | 5, _ => rfl
 | 6, _ => rfl
 | 7, _ => rfl
def runeEnd (o : Option (Nat × Sp.By)) (e : Ending) (w' : World) (R : Nat) (t : ByteArray) (tw : Bool) (dp fr : Int) : Prop :=
 (∃ n l', o = some (n, l') ∧ e = .returned (.tuple #[.int .i32 n, .bool true]) ∧ RD w' R t l' tw dp fr) ∨
  (o = none ∧ ∃ n l', e = .returned (.tuple #[.int .i32 n, .bool false]) ∧ RD w' R t l' tw dp fr)
set_option maxHeartbeats 2000000 in
theorem escape_look {w : World} {R : Nat} {t : ByteArray} {l : Sp.By} {tw : Bool} {dp fr : Int} (h : RD w R t l tw dp fr) (hT : Laid w) (hR : NG ≤ R) (k1 : Sp.tk l 117 = false) :
  Calls Tryz.prog 261 #[.pointer (some ⟨R, 0, none⟩)] w fun e w' => KeptX R w w' ∧ runeEnd (Sp.esc l) e w' R t tw dp fr := by
 have hE : Hid (Sp.esc l = Sp.escIn l Sp.escT) := by unfold Hid Sp.esc; rw [k1]; rfl
 have K1 := hide k1
 clear k1
 go_enter Tryz.func261, Tryz.ntmps261
 go_wp2_with (fail)
 refine (takeN 117 _ rfl h (unhide K1)).mono ?_
 rintro e w1 ⟨rfl, hr1, hk1⟩
 obtain ⟨tt, fz, hg1⟩ := (hT.kept hk1 hR).esc
 clear h hT
 go_wp2_with (refine wpList_load_row rfl 335 _ rfl 7 rfl tt _ fz _ hg1 Tryz.underlying335 rfl (by kernel_rfl) ?_)
 clear hg1
 go_loopw [13] (fun i wr => ∃ j : Nat, j ≤ 8 ∧ i = .int .i64 j ∧ RD wr R t l tw dp fr ∧ KeptX R w wr ∧ Sp.escIn l Sp.escT = Sp.escIn l (Sp.escT.drop j)) (fun i _ => 8 - (intOf i).toNat)
 case atStart => exact ⟨0, by omega, rfl, hr1, hk1, rfl⟩
 case round =>
  obtain ⟨j, hj8, rfl, hr, hk, he⟩ := hrel
  have HE := hide he
  clear he hr1 hk1
  by_cases hlt : j < 8
  ·have hidx := esc_idx j hlt
   go_wp2_with (fail)
   by_cases k2 : Sp.tk l (escL j) = true
   ·have K2 := hide k2
    clear k2
    refine (take_yes (escL j) _ rfl (hr.alloc _) (unhide K2)).mono ?_
    rintro e w2 ⟨rfl, hr2, hk2⟩
    have d1 : w2.cell? ⟨wr.heap.size, 1, none⟩ = some (.int .i32 (escV j)) := by
     rw [hk2.cell (by simp) (by have := hr.lt; simp; omega)]; simp
    go_wp2_with (fail)
    go_ret2
    refine ⟨(hk.alloc _).trans hk2, Or.inl ⟨escV j, l.tail, ?_, rfl, hr2⟩⟩
    rw [unhide hE, unhide HE, esc_step l j hlt, unhide K2]; rfl
   ·have K2 := hide (tk_false k2)
    clear k2
    refine (takeN (escL j) _ rfl (hr.alloc _) (unhide K2)).mono ?_
    rintro e w2 ⟨rfl, hr2, hk2⟩
    go_wp2_with (fail)
    go_roundw
    case rel => exact ⟨j + 1, by omega, by go_num, hr2, (hk.alloc _).trans hk2, by rw [unhide HE, esc_step l j hlt, unhide K2]; rfl⟩
    case measure => simp [intOf]; omega
  ·go_wp2_with (fail)
   go_ret2
   refine ⟨hk, Or.inr ⟨?_, 0, l, rfl, hr⟩⟩
   rw [unhide hE, unhide HE, show j = 8 by omega]; rfl
set_option maxHeartbeats 2000000 in
theorem escape_any {w : World} {R : Nat} {t : ByteArray} {l : Sp.By} {tw : Bool} {dp fr : Int} (h : RD w R t l tw dp fr) (hT : Laid w) (hR : NG ≤ R) :
  Calls Tryz.prog 261 #[.pointer (some ⟨R, 0, none⟩)] w fun e w' => KeptX R w w' ∧ runeEnd (Sp.esc l) e w' R t tw dp fr := by
 by_cases k1 : Sp.tk l 117 = true
 ·have hE : Hid (Sp.esc l = Sp.scal l.tail) := by unfold Hid Sp.esc; rw [k1]; rfl
  have K1 := hide k1
  clear k1 hT
  go_enter Tryz.func261, Tryz.ntmps261
  go_wp2_with (fail)
  refine (take_yes 117 _ rfl h (unhide K1)).mono ?_
  rintro e w1 ⟨rfl, hr1, hk1⟩
  go_wp2_with (fail)
  refine (scalar_any hr1).mono ?_
  rintro e w2 ⟨hk2, hc⟩
  rcases hc with ⟨n, l', hs, rfl, hr2⟩ | ⟨hs, n, l', rfl, hr2⟩
  ·have HS := hide hs
   clear hs
   go_wp2_with (fail)
   go_ret2
   exact ⟨hk1.trans hk2, Or.inl ⟨n, l', by rw [unhide hE]; exact unhide HS, rfl, hr2⟩⟩
  ·have HS := hide hs
   clear hs
   go_wp2_with (fail)
   go_ret2
   exact ⟨hk1.trans hk2, Or.inr ⟨by rw [unhide hE]; exact unhide HS, n, l', rfl, hr2⟩⟩
 ·exact escape_look h hT hR (tk_false k1)
end Go.Proofs.YtdpomdelmdofmaaGreatDoor

namespace Go.Proofs.YtdpomdelmdofmaaGreatDoor
open Go.RowKit
theorem bs_size (l : Sp.By) : (⟨l.toArray⟩ : ByteArray).size = l.length := by simp [ByteArray.size]
theorem dec_eq (t : ByteArray) (p : Nat) : Lib.decodeGo (t.extract p t.size) = Sp.dec (t.data.toList.drop p) := by
 unfold Lib.decodeGo Sp.dec
 have e : t.extract p t.size = ⟨(t.data.toList.drop p).toArray⟩ := by
  have := Lib.extract_to_end t p
  have h2 : (t.extract p t.size).data = (t.data.toList.drop p).toArray := by rw [← this]
  exact congrArg ByteArray.mk h2
 rw [e, bs_size]
theorem dec_le (l : Sp.By) : (Sp.dec l).2 ≤ l.length := by
 unfold Sp.dec
 split
 ·simp
 ·rename_i h
  rw [Lib.decode_at]
  rw [bs_size]
  unfold Lib.decodeN
  repeat' split
  all_goals (simp only; omega)
theorem dec_rune (l : Sp.By) : (Sp.dec l).1 ≤ 1114111 := by
 unfold Sp.dec
 split
 ·simp
 ·rw [Lib.decode_at]
  have h0 := (ByteArray.get! (⟨l.toArray⟩ : ByteArray) 0).toNat_lt
  simp only [Nat.zero_add]
  generalize (ByteArray.get! (⟨l.toArray⟩ : ByteArray) 0).toNat = b0 at *
  unfold Lib.decodeN
  repeat' split
  all_goals (simp only; omega)
end Go.Proofs.YtdpomdelmdofmaaGreatDoor
