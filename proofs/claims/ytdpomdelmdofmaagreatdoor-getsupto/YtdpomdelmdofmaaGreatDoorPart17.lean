/-
  The writing of bytes and strings into a builder, in the writers' own words.
-/
import Derived.Test.YtdpomdelmdofmaaGreatDoorPart04
import Derived.Test.YtdpomdelmdofmaaGreatDoorPart16
import Derived.Lib.ConvBytes
import Derived.Lib.AppendIntMem
import Derived.Sort.Grow
namespace Go.Proofs.YtdpomdelmdofmaaGreatDoor
open Go.RowKit
structure Fr (B b : Nat) (w w' : World) : Prop where
 low : Below B w w'
 oth : OKz b w w'
theorem Fr.refl (B b : Nat) (w : World) : Fr B b w w := ⟨Below.refl _ _, OKz.refl _ _⟩
theorem Fr.trans {B b : Nat} {w1 w2 w3 : World} (h : Fr B b w1 w2) (g : Fr B b w2 w3) : Fr B b w1 w3 := ⟨h.low.trans g.low, h.oth.trans g.oth⟩
abbrev Bu (B b : Nat) (l : Sp.By) (w : World) : Prop := IsB B b (Lib.byteCells l) w
theorem bc_one (l : Sp.By) (c : UInt8) : Lib.byteCells l ++ [.int .u8 (c.toNat : Int)] = Lib.byteCells (l ++ [c]) := by simp [Lib.byteCells]
theorem wByte {B b : Nat} {acc : Sp.By} (c : UInt8) (ci : Int) (hc : ci = c.toNat) {w : World} (h : Bu B b acc w) (hl : acc.length + 1 ≤ 140737488355328) (hB : B ≤ w.heap.size) :
  Calls Tryz.prog 139 #[.pointer (some ⟨b, 0, none⟩), .int .u8 ci] w fun e w' => e = .returned .nilIface ∧ Bu B b (acc ++ [c]) w' ∧ Fr B b w w' := by
 refine (WriteByte_any B b _ ci w h (by rw [Lib.byteCells_length]; exact hl) hB).mono ?_
 rintro e w' ⟨he, h1, h2, h3⟩
 rw [hc, bc_one] at h1
 exact ⟨he, Or.inr h1, h2, h3⟩
theorem wStr {B b : Nat} {acc : Sp.By} (s : Sp.By) {w : World} (h : Bu B b acc w) (hl : acc.length + s.length ≤ 140737488355328) (hB : B ≤ w.heap.size) :
  Calls Tryz.prog 107 #[.pointer (some ⟨b, 0, none⟩), .string ⟨s.toArray⟩] w fun e w' => e = .returned (.tuple #[.int .i64 s.length, .nilIface]) ∧ Bu B b (acc ++ s) w' ∧ Fr B b w w' := by
 refine (WriteString_any B b _ ⟨s.toArray⟩ w h (by rw [Lib.byteCells_length, bs_size]; exact hl) hB).mono ?_
 rintro e w' ⟨he, h1, h2, h3⟩
 rw [Lib.strCells_toArray, ← Lib.byteCells_append] at h1
 rw [bs_size] at he
 exact ⟨he, Or.inr h1, h2, h3⟩
def hexD : ByteArray := ⟨#[48, 49, 50, 51, 52, 53, 54, 55, 56, 57, 97, 98, 99, 100, 101, 102]⟩
theorem hex_idx : ∀ n, n < 16 → hexD.data.toList.getD n 0 = Sp.hexc n := by decide
theorem hex_at (n : Nat) (h : n < 16) (h2 : n < (⟨#[48, 49, 50, 51, 52, 53, 54, 55, 56, 57, 97, 98, 99, 100, 101, 102]⟩ : ByteArray).size) : ((⟨#[48, 49, 50, 51, 52, 53, 54, 55, 56, 57, 97, 98, 99, 100, 101, 102]⟩ : ByteArray)[n]'h2) = Sp.hexc n := by
 have := hex_idx n h
 rw [← this]
 have h3 : n < hexD.data.toList.length := h
 simp only [List.getD, List.getElem?_eq_getElem h3, Option.getD_some]
 rfl
end Go.Proofs.YtdpomdelmdofmaaGreatDoor

namespace Go.Proofs.YtdpomdelmdofmaaGreatDoor
open Go.RowKit
set_option maxHeartbeats 1000000 in
theorem IsZero_any (n : Sp.Nm) (w : World) : Calls Tryz.prog 138 #[numV n] w fun e w' => e = .returned (.bool n.2.1.isEmpty) ∧ Below w.heap.size w w' := by
 obtain ⟨nb, nd, ne⟩ := n
 unfold numV
 go_enter Tryz.func138, Tryz.ntmps138
 go_wp2_with (fail)
 go_ret
 exact ⟨by simp, (Below.refl _ _).alloc (Nat.le_refl _) _⟩
theorem Laid.tab {w : World} (h : Laid w) : Lib.TabIs Tryz.prog w "internal/strconv.uint64pow10" .u64 Lib.pow10Tab := by
 obtain ⟨t, fr, e⟩ := h.pow
 unfold Lib.TabIs World.var?
 rw [show Tryz.prog.globalNamed "internal/strconv.uint64pow10" = some 5 by kernel_rfl]
 simp [e]
theorem grow_below (w : World) (k : Nat) (os : Array Obj) : Below w.heap.size w (Sort.grow (w.drewN k) os) := by
 refine ⟨rfl, rfl, rfl, ?_, ?_⟩
 ·simp [Sort.grow, World.drewN]
 ·intro j hj
  simp only [Sort.grow, World.drewN]
  rw [Array.getElem?_append_left hj]
theorem numT_len (n : Sp.Nm) : (Sp.numT n).length ≤ n.2.1.length + 3 + (Lib.itoa n.2.2).length := by
 unfold Sp.numT
 split
 ·simp; omega
 ·split <;> split <;> simp <;> omega
end Go.Proofs.YtdpomdelmdofmaaGreatDoor

namespace Go.Proofs.YtdpomdelmdofmaaGreatDoor
open Go.RowKit
theorem Bu_below {B b : Nat} {l : Sp.By} {w w' : World} (h : Bu B b l w) (hb : Below w.heap.size w w') : Bu B b l w' := by
 have hk : ∀ {p : Value} {bs : List Value}, Lib.BuilderAt 119 5 B b p bs w → Lib.BuilderAt 119 5 B b p bs w' := by
  intro p bs h
  obtain ⟨hB, v, hbk, hown, hne⟩ := h
  exact ⟨hB, v, (hb.block b (Array.getElem?_eq_some_iff.1 hbk).1).trans hbk, ⟨hown.1, hown.2.imp id fun ⟨g, cap, cur, h1, h2, h3, h4⟩ => ⟨g, cap, cur, h1, h2, (hb.block g (Array.getElem?_eq_some_iff.1 h3).1).trans h3, h4⟩⟩, hne⟩
 exact h.imp hk hk
theorem conv_left (w : World) (s : Sp.By) : ∃ cs fz, (Lib.bytesWorld w 5 ⟨s.toArray⟩).heap[w.heap.size]? = some (.cells cs 5 fz) ∧ fz ≠ (0, 0) ∧ (∀ j (h : j < s.length), cs[j]? = some (.int .u8 (s[j].toNat : Int))) ∧ Below w.heap.size w (Lib.bytesWorld w 5 ⟨s.toArray⟩) := by
 refine ⟨_, _, Lib.bytesWorld_at_new w 5 _, by simp, ?_, ?_⟩
 ·intro j h
  have h2 : j < (s.toArray.map fun b => Value.int .u8 (b.toNat : Int)).size := by simpa using h
  simp only [Lib.bytesCells]
  rw [Array.getElem?_append_left h2]
  simp [h]
 ·refine ⟨rfl, rfl, rfl, by rw [Lib.bytesWorld_size]; omega, fun k hk => Lib.bytesWorld_at_old w 5 _ k hk⟩
set_option maxHeartbeats 4000000 in
theorem writeQuoted_any {B b : Nat} {acc : Sp.By} (s : Sp.By) {w : World} (h : Bu B b acc w) (hl : acc.length + (6 * s.length + 2) ≤ 140737488355328) (hB : B ≤ w.heap.size) :
  Calls Tryz.prog 104 #[.pointer (some ⟨b, 0, none⟩), .string ⟨s.toArray⟩] w fun e w' => e = .returned (.tuple #[]) ∧ Bu B b (acc ++ Sp.quoT s) w' ∧ Fr B b w w' := by
 have hcv := fun W => Lib.run_convert_string_bytes (P := Tryz.prog) W 9 117 5 ⟨s.toArray⟩ Tryz.underlying9 Tryz.underlying117 Tryz.underlying5
 go_enter Tryz.func104, Tryz.ntmps104
 go_wp2_with (fail)
 refine (wByte 34 _ rfl h (by omega) hB).mono ?_
 rintro e w1 ⟨rfl, h1, f1⟩
 go_wp2_with (fail)
 obtain ⟨cs, fz, hrow, hfz, hcs, hbw⟩ := conv_left w1 s
 have hB1 : B ≤ w1.heap.size := Nat.le_trans hB f1.low.size
 have h2 := Bu_below h1 hbw
 have f2 : Fr B b w (Lib.bytesWorld w1 5 ⟨s.toArray⟩) := f1.trans ⟨hbw.mono hB1, OKz.below hbw⟩
 generalize Lib.bytesWorld w1 5 ⟨s.toArray⟩ = w2 at *
 have HW := hide hbw
 have hgb : w1.heap.size ≠ b := by
  rcases h1 with h1 | h1
  ·have := h1.lt; omega
  ·have := h1.lt; omega
 clear hcv h h1 f1 hbw
 go_loopw [11] (fun i wr => ∃ k : Nat, k ≤ s.length ∧ i = .int .i64 k ∧ Bu B b (acc ++ 34 :: Sp.escS (s.take k)) wr ∧ Fr B b w wr ∧ wr.heap[w1.heap.size]? = some (.cells cs 5 fz)) (fun i _ => s.length - (intOf i).toNat)
 case atStart => exact ⟨0, by omega, rfl, by simpa [Sp.escS] using h2, f2, hrow⟩
 case round =>
  obtain ⟨k, hk, rfl, hbu, hf, hro⟩ := hrel
  have HBU := hide hbu
  have hBr : B ≤ wr.heap.size := Nat.le_trans hB hf.low.size
  clear hbu h2 f2 hrow
  by_cases hlt : k < s.length
  ·have cc : wr.cell? ⟨w1.heap.size, k, none⟩ = some (.int .u8 (s[k].toNat : Int)) := by simp [World.cell?, hro, hcs k hlt]
   have hst := Sp.escS_take s k hlt
   have hsl := Sp.escS_len (s.take k)
   have hsl2 : (s.take k).length = k := by simp; omega
   have HRO : Hid (∀ w' : World, Fr B b wr w' → w'.heap[w1.heap.size]? = some (.cells cs 5 fz)) := fun w' h => h.oth _ _ hro hgb (fun c e => by injection e with _ _ e; exact hfz e)
   have HST := hide hst
   have hbnd : acc.length + (1 + (Sp.escS (s.take k)).length) + 7 ≤ 140737488355328 := by omega
   have hn := s[k].toNat_lt
   generalize hc : s[k] = c at *
   clear hst hc
   by_cases c1 : c.toNat = 34
   ·have HE := hide (show Sp.escB c = [92, c] by unfold Sp.escB; rw [if_pos (Or.inl c1)])
    have e1 : ((c.toNat : Int) == 34) = true := by simp; omega
    clear c1
    go_wp2_with (fail)
    refine (wByte 92 _ rfl (unhide HBU) (by simp; omega) hBr).mono ?_
    rintro e w3 ⟨rfl, h3, f3⟩
    have hB3 : B ≤ w3.heap.size := Nat.le_trans hBr f3.low.size
    go_wp2_with (fail)
    refine (wByte c _ rfl h3 (by simp; omega) hB3).mono ?_
    rintro e w4 ⟨rfl, h4, f4⟩
    go_wp2_with (fail)
    go_roundw
    case rel => exact ⟨k + 1, by omega, by go_num, by rw [unhide HST, unhide HE]; simpa using h4, (hf.trans f3).trans f4, unhide HRO _ (f3.trans f4)⟩
    case measure => simp [intOf]; omega
   ·have e1 : ((c.toNat : Int) == 34) = false := by simp; omega
    by_cases c2 : c.toNat = 92
    ·have HE := hide (show Sp.escB c = [92, c] by unfold Sp.escB; rw [if_pos (Or.inr c2)])
     have e2 : ((c.toNat : Int) == 92) = true := by simp; omega
     clear c1 c2
     go_wp2_with (fail)
     refine (wByte 92 _ rfl (unhide HBU) (by simp; omega) hBr).mono ?_
     rintro e w3 ⟨rfl, h3, f3⟩
     have hB3 : B ≤ w3.heap.size := Nat.le_trans hBr f3.low.size
     go_wp2_with (fail)
     refine (wByte c _ rfl h3 (by simp; omega) hB3).mono ?_
     rintro e w4 ⟨rfl, h4, f4⟩
     go_wp2_with (fail)
     go_roundw
     case rel => exact ⟨k + 1, by omega, by go_num, by rw [unhide HST, unhide HE]; simpa using h4, (hf.trans f3).trans f4, unhide HRO _ (f3.trans f4)⟩
     case measure => simp [intOf]; omega
    ·have e2 : ((c.toNat : Int) == 92) = false := by simp; omega
     by_cases c3 : c.toNat < 32
     ·have HE := hide (show Sp.escB c = [92, 117, 48, 48, Sp.hexc (c.toNat / 16), Sp.hexc (c.toNat % 16)] by unfold Sp.escB; rw [if_neg (by omega), if_pos c3])
      have e3 : decide ((c.toNat : Int) < 32) = true := by simp; omega
      go_wp2_with (fail)
      refine (wStr [92, 117, 48, 48] (unhide HBU) (by simp; omega) hBr).mono ?_
      rintro e w3 ⟨rfl, h3, f3⟩
      have hB3 : B ≤ w3.heap.size := Nat.le_trans hBr f3.low.size
      go_wp2_with (fail)
      refine (wByte (Sp.hexc (c.toNat / 16)) _ ?_ h3 (by simp; omega) hB3).mono ?_
      ·rw [hex_at _ (by omega)]
      rintro e w4 ⟨rfl, h4, f4⟩
      have hB4 : B ≤ w4.heap.size := Nat.le_trans hB3 f4.low.size
      go_wp2_with (fail)
      refine (wByte (Sp.hexc (c.toNat % 16)) _ ?_ h4 (by simp; omega) hB4).mono ?_
      ·rw [hex_at _ (by omega)]
      rintro e w5 ⟨rfl, h5, f5⟩
      go_wp2_with (fail)
      go_roundw
      case rel => exact ⟨k + 1, by omega, by go_num, by rw [unhide HST, unhide HE]; simpa using h5, ((hf.trans f3).trans f4).trans f5, unhide HRO _ ((f3.trans f4).trans f5)⟩
      case measure => simp [intOf]; omega
     ·have HE := hide (show Sp.escB c = [c] by unfold Sp.escB; rw [if_neg (by omega), if_neg c3])
      have e3 : decide ((c.toNat : Int) < 32) = false := by simp; omega
      clear c1 c2 c3
      go_wp2_with (fail)
      refine (wByte c _ rfl (unhide HBU) (by simp; omega) hBr).mono ?_
      rintro e w3 ⟨rfl, h3, f3⟩
      go_wp2_with (fail)
      go_roundw
      case rel => exact ⟨k + 1, by omega, by go_num, by rw [unhide HST, unhide HE]; simpa using h3, hf.trans f3, unhide HRO _ f3⟩
      case measure => simp [intOf]; omega
  ·go_wp2_with (fail)
   refine (wByte 34 _ rfl (unhide HBU) ?_ hBr).mono ?_
   ·have := Sp.escS_len (s.take k); have e : (s.take k).length ≤ s.length := by simp; omega
    simp; omega
   rintro e w3 ⟨rfl, h3, f3⟩
   go_wp2_with (fail)
   go_end0
   refine ⟨rfl, ?_, hf.trans f3⟩
   rw [List.take_of_length_le (by omega)] at h3
   simpa [Sp.quoT] using h3
end Go.Proofs.YtdpomdelmdofmaaGreatDoor
