/-
  Walk of the reference's Fits.
  Walk of the reference's Fits, where there is no configuration; and of no step.
  Walk of the statement's own kept.
-/
import Derived.Test.YtmegcejgjdkpfaaGreatDoorPart35
import Derived.Test.YtmegcejgjdkpfaaGreatDoorPart19
namespace Go.Proofs.YtmegcejgjdkpfaaGreatDoor
open Go.RowKit

theorem cell_low {B : Nat} {a w : World} (h : Below B a w) (g o : Nat) (hg : g < B) {u : Value} (hu : a.cell? ⟨g, o, none⟩ = some u) : w.cell? ⟨g, o, none⟩ = some u := (h.cell (p := ⟨g, o, none⟩) hg).trans hu

set_option maxRecDepth 100000 in
set_option maxHeartbeats 16000000 in
theorem Fits_good {d x n : Int} {sb so ab m cap : Nat} {ts : Nat → ByteArray} {l : List Sp.St} {cs : Array Value} {w : World} (hc : Sp.cfg d x n = true) (hs : Scr w sb so ts l) (hl : Lod l) (hm : m = l.length) (hcap : m ≤ cap) (hcm : cap ≤ maxLen)
    (hrow : w.heap[ab]? = some (.cells cs 46 (0, 0))) (hans : AnsC cs m (Sp.run d x n none l)) (hsb : sb < w.heap.size) (hT : Laid w) :
    Calls Tryz.prog 20 #[.agg #[.int .i64 d, .int .i64 x, .int .i64 n], .slice (some ⟨sb, so, none⟩) m cap, .slice (some ⟨ab, 0, none⟩) m m] w fun e w' => e = .returned (.bool true) ∧ Below w.heap.size w w' := by
  have hab : ab < w.heap.size := (Array.getElem?_eq_some_iff.1 hrow).1
  have hc2 := hc
  unfold Sp.cfg at hc2
  simp only [Bool.and_eq_true] at hc2
  obtain ⟨i1, i2, i3⟩ := hc2
  have hmb : (m : Int) ≤ 9223372036854775807 := by unfold maxLen at hcm; omega
  have hlen : (Sp.run d x n none l).length = m := by rw [Sp.run_len, hm]
  have HANS := hide (fun (k : Nat) (hk : k < (Sp.run d x n none l).length) => hans.at hrow k hk)
  have HLEN := hide hlen
  have HM := hide hm
  have HS := hide hs
  have HL := hide hl
  have HT := hide hT
  have HC := hide hc
  have hng := hT.ng
  have hE0 : EB ((w.alloc (.cells #[.int .i64 d, .int .i64 x, .int .i64 n] 23)).alloc (.cells #[.int .i64 d, .int .i64 x, .int .i64 n, .pointer none, .pointer none] 64)) (w.heap.size + 1) d x n (.pointer none) (.pointer none) := heap_new _ _ _ (by simp)
  have hb0 : Below w.heap.size w ((w.alloc (.cells #[.int .i64 d, .int .i64 x, .int .i64 n] 23)).alloc (.cells #[.int .i64 d, .int .i64 x, .int .i64 n, .pointer none, .pointer none] 64)) := ((Below.refl _ _).alloc (Nat.le_refl _) _).alloc (by simp) _
  have HE0 := hide hE0
  have HB0 := hide hb0
  have HNO := hide (fun (k : Nat) (w : World) => rNo_any k w)
  unfold ansV at HNO
  clear hc hs hl hm hrow hans hT hlen hE0 hb0
  go_enter Tryz.func20, Tryz.ntmps20
  go_wp2_with (fail)
  refine (rIn_any d 1 20 _).mono ?_
  rintro e wA ⟨rfl, rfl⟩
  rw [i1]
  go_wp2_with (fail)
  refine (rIn_any x 0 400 _).mono ?_
  rintro e wA ⟨rfl, rfl⟩
  rw [i2]
  go_wp2_with (fail)
  refine (rIn_any n 0 2000 _).mono ?_
  rintro e wA ⟨rfl, rfl⟩
  rw [i3]
  go_wp2_with (fail)
  clear i1 i2 i3
  go_loopw [11] (fun i wr => ∃ (k : Nat) (p q : Value) (od : Option Sp.O), k ≤ m ∧ i = .int .i64 k ∧ EB wr (w.heap.size + 1) d x n p q ∧ OD wr (w.heap.size + 1) p od ∧ docOf od = Sp.docAfter d x n none (l.take k) ∧ Below w.heap.size w wr) (fun i _ => m - (intOf i).toNat)
  case atStart => exact ⟨0, .pointer none, .pointer none, none, by omega, rfl, unhide HE0, rfl, rfl, unhide HB0⟩
  case round =>
    obtain ⟨k, p, q, od, hk, rfl, heb, hod, hdoc, hbel⟩ := hrel
    by_cases hlt : k < m
    · have hkl : k < l.length := by have := unhide HM; omega
      have hkr : k < (Sp.run d x n none l).length := by have := unhide HLEN; omega
      obtain ⟨q0, q1, q2⟩ := unhide HS k hkl
      obtain ⟨r0, r1, r2⟩ := unhide HANS k hkr
      rw [run_at d x n l none k hkl hkr, ← hdoc] at r0 r2
      obtain ⟨o, ho⟩ : ∃ o, o = l[k] := ⟨_, rfl⟩
      rw [← ho] at q0 q1 r0 r2
      have hok := unhide HL o (by rw [ho]; exact List.getElem_mem hkl)
      obtain ⟨ct, hct⟩ : ∃ ct, ct = (Sp.step d x n (docOf od) o).1 := ⟨_, rfl⟩
      rw [← hct] at r0 r2
      have s0 := cell_low hbel _ _ hsb q0
      have s1 := cell_low hbel _ _ hsb q1
      have s2 := cell_low hbel _ _ hsb q2
      have a0 := cell_low hbel _ _ hab r0
      have a1 := cell_low hbel _ _ hab r1
      have a2 := cell_low hbel _ _ hab r2
      have hszr := hbel.size
      have hsbr : sb < wr.heap.size := by omega
      have habr : ab < wr.heap.size := by omega
      have HSTEP : Hid (∀ W : World, Below wr.heap.size wr W → Calls Tryz.prog 31 #[.pointer (some ⟨w.heap.size + 1, 0, none⟩), .agg #[.int .i64 o.1, .string ⟨o.2.toArray⟩, .string (ts k)], .agg #[.int .i64 ct.1, .int .i64 0, .string ⟨ct.2.toArray⟩]] W fun e w' => OStep (w.heap.size + 1) d x n od o W e w') := by
        intro W hW
        have := rStep_any (k := o.1) (s := o.2) (t := ts k) hok (heb.low hW) (hod.kept (KeptX.of_below hW)) (unhide HC) ((unhide HT).below ((hbel.trans (hW.mono hszr)).mono hng))
        rw [show ((o.1, o.2) : Sp.St) = o from rfl, ← hct] at this
        exact this
      have HDOC := hide hdoc
      have HBEL := hide hbel
      have HO := hide ho
      clear q0 q1 q2 r0 r1 r2 heb hod hdoc hbel hct hok ho
      obtain ⟨c1, c2⟩ := ct
      simp only at a0 a2 HSTEP
      go_upto_region 10 with (fail)
      go_cut [12] (fun s12 wx => (∃ b : Bool, s12 = .bool b) ∧ Below wr.heap.size wr wx)
      case first =>
        by_cases hc1 : c1 = 2
        · subst hc1
          cases c2 with
          | nil =>
            go_region_with (go_at_call 30; refine (unhide HNO 2 _).mono ?_; rintro e w4 ⟨rfl, hb4⟩; have b0 := cell_low (a := wr) (w := w4) ⟨hb4.os, hb4.tape, hb4.output, hb4.size, hb4.block⟩ _ _ habr a0; have b1 := cell_low (a := wr) (w := w4) ⟨hb4.os, hb4.tape, hb4.output, hb4.size, hb4.block⟩ _ _ habr a1; have b2 := cell_low (a := wr) (w := w4) ⟨hb4.os, hb4.tape, hb4.output, hb4.size, hb4.block⟩ _ _ habr a2)
            all_goals (
              go_wp2_with (fail)
              go_meet
              exact ⟨⟨_, rfl⟩, ⟨hb4.os, hb4.tape, hb4.output, hb4.size, hb4.block⟩⟩)
          | cons z zs =>
            go_region_with (go_at_call 30; refine (unhide HNO 2 _).mono ?_; rintro e w4 ⟨rfl, hb4⟩; have b0 := cell_low (a := wr) (w := w4) ⟨hb4.os, hb4.tape, hb4.output, hb4.size, hb4.block⟩ _ _ habr a0; have b1 := cell_low (a := wr) (w := w4) ⟨hb4.os, hb4.tape, hb4.output, hb4.size, hb4.block⟩ _ _ habr a1; have b2 := cell_low (a := wr) (w := w4) ⟨hb4.os, hb4.tape, hb4.output, hb4.size, hb4.block⟩ _ _ habr a2)
            all_goals (
              go_wp2_with (fail)
              go_meet
              exact ⟨⟨_, rfl⟩, ⟨hb4.os, hb4.tape, hb4.output, hb4.size, hb4.block⟩⟩)
        · have hc1' : ((c1 : Int) == 2) = false := by rw [beq_eq_false_iff_ne]; omega
          clear hc1
          go_region_with (go_at_call 30; refine (unhide HNO 2 _).mono ?_; rintro e w4 ⟨rfl, hb4⟩; have b0 := cell_low (a := wr) (w := w4) ⟨hb4.os, hb4.tape, hb4.output, hb4.size, hb4.block⟩ _ _ habr a0; have b1 := cell_low (a := wr) (w := w4) ⟨hb4.os, hb4.tape, hb4.output, hb4.size, hb4.block⟩ _ _ habr a1; have b2 := cell_low (a := wr) (w := w4) ⟨hb4.os, hb4.tape, hb4.output, hb4.size, hb4.block⟩ _ _ habr a2)
          all_goals (
            go_wp2_with (fail)
            go_meet
            exact ⟨⟨_, rfl⟩, ⟨hb4.os, hb4.tape, hb4.output, hb4.size, hb4.block⟩⟩)
      case rest =>
      obtain ⟨⟨b, rfl⟩, hbc⟩ := hcut
      have t0 := cell_low hbc _ _ hsbr s0
      have t1 := cell_low hbc _ _ hsbr s1
      have t2 := cell_low hbc _ _ hsbr s2
      have b0 := cell_low hbc _ _ habr a0
      have b1 := cell_low hbc _ _ habr a1
      have b2 := cell_low hbc _ _ habr a2
      have HBC := hide hbc
      clear s0 s1 s2 a0 a1 a2 hbc
      go_upto_region 12 with (fail)
      go_region_with (go_at_call 31; refine (unhide HSTEP _ ?_).mono ?_; exact ⟨(unhide HBC).os, (unhide HBC).tape, (unhide HBC).output, (unhide HBC).size, (unhide HBC).block⟩; rintro e w5 ⟨rfl, hk5, hex⟩)
      all_goals (
        obtain ⟨p', q', od', he5, hd5, hdoc5⟩ := hex
        have hwc : Below w.heap.size w wc.drew := by
          have h := (unhide HBEL).trans ((unhide HBC).mono (unhide HBEL).size)
          exact ⟨h.os, h.tape, h.output, h.size, h.block⟩
        have hb5 : Below w.heap.size w w5 := hwc.trans (hk5.below (Nat.le_succ _) hwc.size)
        have hdoc6 : docOf od' = Sp.docAfter d x n none (l.take (k + 1)) := by
          rw [List.take_succ_eq_append_getElem hkl, Sp.after_snoc, ← unhide HDOC, ← unhide HO]; exact hdoc5
        have HE5 := hide he5
        have HD5 := hide hd5
        have HDOC6 := hide hdoc6
        have HB5 := hide hb5
        clear he5 hd5 hdoc5 hdoc6 hb5 hwc hk5 t0 t1 t2 b0 b1 b2
        go_wp2_with (fail)
        go_roundw
        case rel => (repeat apply Exists.intro); exact ⟨show k + 1 ≤ m by omega, by go_num, unhide HE5, unhide HD5, unhide HDOC6, unhide HB5⟩
        case measure => simp only [intOf]; omega)
    · go_wp2_with (fail)
      go_ret
      exact ⟨rfl, hbel⟩

end Go.Proofs.YtmegcejgjdkpfaaGreatDoor

namespace Go.Proofs.YtmegcejgjdkpfaaGreatDoor
open Go.RowKit

set_option maxRecDepth 100000 in
set_option maxHeartbeats 16000000 in
theorem Fits_bad1 {d x n : Int} {sb so ab m cap : Nat} {w : World} (i1 : Sp.inB d 1 20 = false) (hcap : m ≤ cap) (hcm : cap ≤ maxLen)
    (han : ∀ k, k < m → w.cell? ⟨ab, k * 3, none⟩ = some (.int .i64 2) ∧ w.cell? ⟨ab, k * 3 + 1, none⟩ = some (.int .i64 0) ∧ w.cell? ⟨ab, k * 3 + 2, none⟩ = some (.string ⟨#[]⟩)) (hab : ab < w.heap.size) :
    Calls Tryz.prog 20 #[.agg #[.int .i64 d, .int .i64 x, .int .i64 n], .slice (some ⟨sb, so, none⟩) m cap, .slice (some ⟨ab, 0, none⟩) m m] w fun e w' => e = .returned (.bool true) ∧ Below w.heap.size w w' := by
  have hmb : (m : Int) ≤ 9223372036854775807 := by unfold maxLen at hcm; omega
  have HAN := hide han
  have hb0 : Below w.heap.size w ((w.alloc (.cells #[.int .i64 d, .int .i64 x, .int .i64 n] 23)).alloc (.cells #[.int .i64 d, .int .i64 x, .int .i64 n, .pointer none, .pointer none] 64)) := ((Below.refl _ _).alloc (Nat.le_refl _) _).alloc (by simp) _
  have HB0 := hide hb0
  have HNO := hide (fun (k : Nat) (w : World) => rNo_any k w)
  unfold ansV at HNO
  clear han hb0
  go_enter Tryz.func20, Tryz.ntmps20
  go_wp2_with (fail)
  refine (rIn_any d 1 20 _).mono ?_
  rintro e wA ⟨rfl, rfl⟩
  rw [i1]
  go_wp2_with (fail)
  refine (rIn_any x 0 400 _).mono ?_
  rintro e wA ⟨rfl, rfl⟩
  skip
  go_wp2_with (fail)
  refine (rIn_any n 0 2000 _).mono ?_
  rintro e wA ⟨rfl, rfl⟩
  skip
  go_wp2_with (fail)
  go_loopw [11] (fun i wr => ∃ (k : Nat), k ≤ m ∧ i = .int .i64 k ∧ Below w.heap.size w wr) (fun i _ => m - (intOf i).toNat)
  case atStart => exact ⟨0, by omega, rfl, unhide HB0⟩
  case round =>
    obtain ⟨k, hk, rfl, hbel⟩ := hrel
    by_cases hlt : k < m
    · obtain ⟨r0, r1, r2⟩ := unhide HAN k hlt
      have a0 := cell_low hbel _ _ hab r0
      have a1 := cell_low hbel _ _ hab r1
      have a2 := cell_low hbel _ _ hab r2
      have hszr := hbel.size
      have habr : ab < wr.heap.size := by omega
      have HBEL := hide hbel
      clear r0 r1 r2 hbel
      go_upto_region 10 with (fail)
      go_region_with (go_at_call 30; refine (unhide HNO 2 _).mono ?_; rintro e w4 ⟨rfl, hb4⟩; have b0 := cell_low (a := wr) (w := w4) ⟨hb4.os, hb4.tape, hb4.output, hb4.size, hb4.block⟩ _ _ habr a0; have b1 := cell_low (a := wr) (w := w4) ⟨hb4.os, hb4.tape, hb4.output, hb4.size, hb4.block⟩ _ _ habr a1; have b2 := cell_low (a := wr) (w := w4) ⟨hb4.os, hb4.tape, hb4.output, hb4.size, hb4.block⟩ _ _ habr a2)
      all_goals (
        have hb5 : Below w.heap.size w w4 := (unhide HBEL).trans (Below.mono (B := wr.heap.size) (w := wr) ⟨hb4.os, hb4.tape, hb4.output, hb4.size, hb4.block⟩ hszr)
        have HB5 := hide hb5
        clear hb4 hb5 b0 b1 b2
        go_wp2_with (fail)
        exact ⟨⟨k + 1, by omega, by go_num, unhide HB5⟩, by simp only [intOf]; omega⟩)
    · go_wp2_with (fail)
      go_ret
      exact ⟨rfl, hbel⟩

set_option maxRecDepth 100000 in
set_option maxHeartbeats 16000000 in
theorem Fits_bad2 {d x n : Int} {sb so ab m cap : Nat} {w : World} (i1 : Sp.inB d 1 20 = true) (i2 : Sp.inB x 0 400 = false) (hcap : m ≤ cap) (hcm : cap ≤ maxLen)
    (han : ∀ k, k < m → w.cell? ⟨ab, k * 3, none⟩ = some (.int .i64 2) ∧ w.cell? ⟨ab, k * 3 + 1, none⟩ = some (.int .i64 0) ∧ w.cell? ⟨ab, k * 3 + 2, none⟩ = some (.string ⟨#[]⟩)) (hab : ab < w.heap.size) :
    Calls Tryz.prog 20 #[.agg #[.int .i64 d, .int .i64 x, .int .i64 n], .slice (some ⟨sb, so, none⟩) m cap, .slice (some ⟨ab, 0, none⟩) m m] w fun e w' => e = .returned (.bool true) ∧ Below w.heap.size w w' := by
  have hmb : (m : Int) ≤ 9223372036854775807 := by unfold maxLen at hcm; omega
  have HAN := hide han
  have hb0 : Below w.heap.size w ((w.alloc (.cells #[.int .i64 d, .int .i64 x, .int .i64 n] 23)).alloc (.cells #[.int .i64 d, .int .i64 x, .int .i64 n, .pointer none, .pointer none] 64)) := ((Below.refl _ _).alloc (Nat.le_refl _) _).alloc (by simp) _
  have HB0 := hide hb0
  have HNO := hide (fun (k : Nat) (w : World) => rNo_any k w)
  unfold ansV at HNO
  clear han hb0
  go_enter Tryz.func20, Tryz.ntmps20
  go_wp2_with (fail)
  refine (rIn_any d 1 20 _).mono ?_
  rintro e wA ⟨rfl, rfl⟩
  rw [i1]
  go_wp2_with (fail)
  refine (rIn_any x 0 400 _).mono ?_
  rintro e wA ⟨rfl, rfl⟩
  rw [i2]
  go_wp2_with (fail)
  refine (rIn_any n 0 2000 _).mono ?_
  rintro e wA ⟨rfl, rfl⟩
  skip
  go_wp2_with (fail)
  go_loopw [11] (fun i wr => ∃ (k : Nat), k ≤ m ∧ i = .int .i64 k ∧ Below w.heap.size w wr) (fun i _ => m - (intOf i).toNat)
  case atStart => exact ⟨0, by omega, rfl, unhide HB0⟩
  case round =>
    obtain ⟨k, hk, rfl, hbel⟩ := hrel
    by_cases hlt : k < m
    · obtain ⟨r0, r1, r2⟩ := unhide HAN k hlt
      have a0 := cell_low hbel _ _ hab r0
      have a1 := cell_low hbel _ _ hab r1
      have a2 := cell_low hbel _ _ hab r2
      have hszr := hbel.size
      have habr : ab < wr.heap.size := by omega
      have HBEL := hide hbel
      clear r0 r1 r2 hbel
      go_upto_region 10 with (fail)
      go_region_with (go_at_call 30; refine (unhide HNO 2 _).mono ?_; rintro e w4 ⟨rfl, hb4⟩; have b0 := cell_low (a := wr) (w := w4) ⟨hb4.os, hb4.tape, hb4.output, hb4.size, hb4.block⟩ _ _ habr a0; have b1 := cell_low (a := wr) (w := w4) ⟨hb4.os, hb4.tape, hb4.output, hb4.size, hb4.block⟩ _ _ habr a1; have b2 := cell_low (a := wr) (w := w4) ⟨hb4.os, hb4.tape, hb4.output, hb4.size, hb4.block⟩ _ _ habr a2)
      all_goals (
        have hb5 : Below w.heap.size w w4 := (unhide HBEL).trans (Below.mono (B := wr.heap.size) (w := wr) ⟨hb4.os, hb4.tape, hb4.output, hb4.size, hb4.block⟩ hszr)
        have HB5 := hide hb5
        clear hb4 hb5 b0 b1 b2
        go_wp2_with (fail)
        exact ⟨⟨k + 1, by omega, by go_num, unhide HB5⟩, by simp only [intOf]; omega⟩)
    · go_wp2_with (fail)
      go_ret
      exact ⟨rfl, hbel⟩

set_option maxRecDepth 100000 in
set_option maxHeartbeats 16000000 in
theorem Fits_bad3 {d x n : Int} {sb so ab m cap : Nat} {w : World} (i1 : Sp.inB d 1 20 = true) (i2 : Sp.inB x 0 400 = true) (i3 : Sp.inB n 0 2000 = false) (hcap : m ≤ cap) (hcm : cap ≤ maxLen)
    (han : ∀ k, k < m → w.cell? ⟨ab, k * 3, none⟩ = some (.int .i64 2) ∧ w.cell? ⟨ab, k * 3 + 1, none⟩ = some (.int .i64 0) ∧ w.cell? ⟨ab, k * 3 + 2, none⟩ = some (.string ⟨#[]⟩)) (hab : ab < w.heap.size) :
    Calls Tryz.prog 20 #[.agg #[.int .i64 d, .int .i64 x, .int .i64 n], .slice (some ⟨sb, so, none⟩) m cap, .slice (some ⟨ab, 0, none⟩) m m] w fun e w' => e = .returned (.bool true) ∧ Below w.heap.size w w' := by
  have hmb : (m : Int) ≤ 9223372036854775807 := by unfold maxLen at hcm; omega
  have HAN := hide han
  have hb0 : Below w.heap.size w ((w.alloc (.cells #[.int .i64 d, .int .i64 x, .int .i64 n] 23)).alloc (.cells #[.int .i64 d, .int .i64 x, .int .i64 n, .pointer none, .pointer none] 64)) := ((Below.refl _ _).alloc (Nat.le_refl _) _).alloc (by simp) _
  have HB0 := hide hb0
  have HNO := hide (fun (k : Nat) (w : World) => rNo_any k w)
  unfold ansV at HNO
  clear han hb0
  go_enter Tryz.func20, Tryz.ntmps20
  go_wp2_with (fail)
  refine (rIn_any d 1 20 _).mono ?_
  rintro e wA ⟨rfl, rfl⟩
  rw [i1]
  go_wp2_with (fail)
  refine (rIn_any x 0 400 _).mono ?_
  rintro e wA ⟨rfl, rfl⟩
  rw [i2]
  go_wp2_with (fail)
  refine (rIn_any n 0 2000 _).mono ?_
  rintro e wA ⟨rfl, rfl⟩
  rw [i3]
  go_wp2_with (fail)
  go_loopw [11] (fun i wr => ∃ (k : Nat), k ≤ m ∧ i = .int .i64 k ∧ Below w.heap.size w wr) (fun i _ => m - (intOf i).toNat)
  case atStart => exact ⟨0, by omega, rfl, unhide HB0⟩
  case round =>
    obtain ⟨k, hk, rfl, hbel⟩ := hrel
    by_cases hlt : k < m
    · obtain ⟨r0, r1, r2⟩ := unhide HAN k hlt
      have a0 := cell_low hbel _ _ hab r0
      have a1 := cell_low hbel _ _ hab r1
      have a2 := cell_low hbel _ _ hab r2
      have hszr := hbel.size
      have habr : ab < wr.heap.size := by omega
      have HBEL := hide hbel
      clear r0 r1 r2 hbel
      go_upto_region 10 with (fail)
      go_region_with (go_at_call 30; refine (unhide HNO 2 _).mono ?_; rintro e w4 ⟨rfl, hb4⟩; have b0 := cell_low (a := wr) (w := w4) ⟨hb4.os, hb4.tape, hb4.output, hb4.size, hb4.block⟩ _ _ habr a0; have b1 := cell_low (a := wr) (w := w4) ⟨hb4.os, hb4.tape, hb4.output, hb4.size, hb4.block⟩ _ _ habr a1; have b2 := cell_low (a := wr) (w := w4) ⟨hb4.os, hb4.tape, hb4.output, hb4.size, hb4.block⟩ _ _ habr a2)
      all_goals (
        have hb5 : Below w.heap.size w w4 := (unhide HBEL).trans (Below.mono (B := wr.heap.size) (w := wr) ⟨hb4.os, hb4.tape, hb4.output, hb4.size, hb4.block⟩ hszr)
        have HB5 := hide hb5
        clear hb4 hb5 b0 b1 b2
        go_wp2_with (fail)
        exact ⟨⟨k + 1, by omega, by go_num, unhide HB5⟩, by simp only [intOf]; omega⟩)
    · go_wp2_with (fail)
      go_ret
      exact ⟨rfl, hbel⟩

set_option maxRecDepth 100000 in
set_option maxHeartbeats 16000000 in
theorem Fits_nil {d x n : Int} {pa pb : Option Addr} {cap cap2 : Nat} {w : World} :
    Calls Tryz.prog 20 #[.agg #[.int .i64 d, .int .i64 x, .int .i64 n], .slice pa 0 cap, .slice pb 0 cap2] w fun e w' => e = .returned (.bool true) ∧ Below w.heap.size w w' := by
  go_enter Tryz.func20, Tryz.ntmps20
  go_wp2_with (fail)
  refine (rIn_any d 1 20 _).mono ?_
  rintro e wA ⟨rfl, rfl⟩
  go_wp2_with (fail)
  refine (rIn_any x 0 400 _).mono ?_
  rintro e wA ⟨rfl, rfl⟩
  go_wp2_with (fail)
  refine (rIn_any n 0 2000 _).mono ?_
  rintro e wA ⟨rfl, rfl⟩
  go_wp2_with (fail)
  refine wp_loop_rounds 1 ?_
  rw [rounds_succ]
  go_wp2_with (fail)
  go_ret
  exact ⟨rfl, ((Below.refl _ _).alloc (Nat.le_refl _) _).alloc (by simp) _⟩

end Go.Proofs.YtmegcejgjdkpfaaGreatDoor

namespace Go.Proofs.YtmegcejgjdkpfaaGreatDoor
open Go.RowKit

theorem op_info : (Tryz.prog.info? 50).map (fun i => (i.zero, i.size, i.bytes)) = some (some (.agg #[.int .i64 0, .string ⟨#[]⟩, .string ⟨#[]⟩]), 3, 40) := by kernel_rfl

/-- a step as it lies in cells -/
abbrev Tri := Int × Sp.By × ByteArray
def triV (p : Tri) : List Value := [.int .i64 p.1, .string ⟨p.2.1.toArray⟩, .string p.2.2]
def flat3 (L : List Tri) : List Value := L.flatMap triV
theorem flat3_len (L : List Tri) : (flat3 L).length = L.length * 3 := by
  induction L with
  | nil => rfl
  | cons p r ih => simp [flat3, triV] at ih ⊢; omega
theorem flat3_at (L : List Tri) : ∀ (i : Nat) (hi : i < L.length), (flat3 L)[i * 3]? = some (.int .i64 L[i].1) ∧ (flat3 L)[i * 3 + 1]? = some (.string ⟨L[i].2.1.toArray⟩) ∧ (flat3 L)[i * 3 + 2]? = some (.string L[i].2.2) := by
  induction L with
  | nil => intro i hi; simp at hi
  | cons p r ih =>
    intro i hi
    cases i with
    | zero => exact ⟨rfl, rfl, rfl⟩
    | succ i =>
      have h := ih i (by simpa using hi)
      have e : flat3 (p :: r) = .int .i64 p.1 :: .string ⟨p.2.1.toArray⟩ :: .string p.2.2 :: flat3 r := rfl
      have e3 : (i + 1) * 3 = i * 3 + 3 := by omega
      rw [e, e3]
      exact h
def isLD (o : Sp.St) : Bool := o.1 == 1 || o.1 == 2
def prT (p : Tri) : Sp.St := (p.1, p.2.1)

theorem tri_snoc (L : List Tri) (p : Tri) : (L ++ [p]).length = L.length + 1 := by simp
theorem flat3_snoc (L : List Tri) (p : Tri) : flat3 (L ++ [p]) = flat3 L ++ triV p := by simp [flat3]
theorem bel_dn {B : Nat} {a w : World} (h : Below B a w) {n : Nat} : Below B a (w.drewN n) := ⟨h.os, h.tape, h.output, h.size, h.block⟩
theorem owns_lt3 {w : World} {B e n size : Nat} {v : Value} {xs : List Value} (h : w.ownsRow B e size v n xs) (g : Nat) (hg : v.ownBlock = some g) : g < w.heap.size ∧ B ≤ g := by
  rcases h.2 with ⟨h1, _⟩ | ⟨g', cap, cur, h1, h2, h3, _⟩
  · rw [h1] at hg; cases hg
  · rw [h1] at hg; injection hg with hg; subst hg; exact ⟨(Array.getElem?_eq_some_iff.1 h3).1, h2⟩

set_option maxRecDepth 100000 in
set_option maxHeartbeats 16000000 in
theorem kept_any {sb so m cap kb : Nat} {ts : Nat → ByteArray} {l : List Sp.St} {w : World} (hs : Scr w sb so ts l) (hm : m = l.length) (hby : m * 40 ≤ 140737488355328) (hsb : sb < w.heap.size)
    (hk0 : w.cell? ⟨kb, 0, none⟩ = some (.int .i64 1)) (hk1 : w.cell? ⟨kb, 1, none⟩ = some (.int .i64 2)) (hkb : kb < w.heap.size) :
    Calls Tryz.prog 11 #[.slice (some ⟨sb, so, none⟩) m cap, .slice (some ⟨kb, 0, none⟩) 2 2] w fun e w' => ∃ (sl : Value) (L3 : List Tri), e = .returned sl ∧ Below w.heap.size w w' ∧ w'.ownsRow w.heap.size 50 3 sl L3.length (flat3 L3) ∧ L3.map prT = l.filter isLD ∧ L3.length ≤ m := by
  obtain ⟨i0, hi0, hz0, hz1, hz2⟩ := info_parts op_info
  have hmb : (m : Int) ≤ 9223372036854775807 := by omega
  have hmx : m ≤ 3518437208883 := by omega
  have HS := hide hs
  have HM := hide hm
  clear hs hm
  go_enter Tryz.func11, Tryz.ntmps11
  go_wp2_with (fail)
  go_loopw [5, 6] (fun sv i wr => ∃ (k : Nat) (L3 : List Tri) (sl : Value), k ≤ m ∧ sl = sv ∧ i = .int .i64 k ∧ wr.ownsRow w.heap.size 50 3 sl L3.length (flat3 L3) ∧ L3.map prT = (l.take k).filter isLD ∧ L3.length ≤ k ∧ Below w.heap.size w wr) (fun _ i _ => m - (intOf i).toNat)
  case atStart => exact ⟨0, [], .slice none 0 0, by omega, rfl, rfl, World.ownsRow_nil _ _ _ _, rfl, by simp, Below.refl _ _⟩
  case round =>
    obtain ⟨k, L3, sl, hk, rfl, rfl, hown, hfil, hlen, hbel⟩ := hrel
    have HOWN := hide hown
    have HFIL := hide hfil
    have HBEL := hide hbel
    by_cases hlt : k < m
    · have hkl : k < l.length := by have := unhide HM; omega
      obtain ⟨q0, q1, q2⟩ := unhide HS k hkl
      obtain ⟨o, ho⟩ : ∃ o, o = l[k] := ⟨_, rfl⟩
      rw [← ho] at q0 q1
      have s0 := cell_low hbel _ _ hsb q0
      have s1 := cell_low hbel _ _ hsb q1
      have s2 := cell_low hbel _ _ hsb q2
      have d0 := cell_low hbel _ _ hkb hk0
      have d1 := cell_low hbel _ _ hkb hk1
      have hszr := hbel.size
      have HO := hide ho
      have q0x := q0
      clear q0 q1 q2 hown hfil hbel ho
      have HQ0 := hide q0x
      clear q0x
      by_cases h1 : o.1 = 1
      · have HK := hide h1
        rw [h1] at s0
        clear h1
        go_wp2_with (fail)
        refine wp_loop_rounds 3 ?_
        rw [rounds_succ]
        go_wp2_with (fail)
        go_quiet (fail)
        go_wp2_with (at_builtin; refine wpList_append_lies _ rfl _ _ _ rfl w.heap.size 50 i0 _ 3 40 Tryz.underlying24 hi0 hz0 hz1 hz2 rfl (by decide) sl L3.length (flat3 L3) rfl (World.ownsRow.alloc (w := wr.drewN _) (unhide HOWN) _) ⟨wr.heap.size, 0, none⟩ 1 1 [.int .i64 1, .string ⟨o.2.toArray⟩, .string (ts k)] rfl rfl (World.news_of_block (cs := #[.int .i64 1, .string ⟨o.2.toArray⟩, .string (ts k)]) (t := 50) (fr := (0, 0)) (heap_alloc_new (wr.drewN _) _)) (by simp [Value.oneCell']) (by decide) (by unfold maxLen; omega) (by omega) (by simp; omega) (wr.heap.size + 1) (by simp) ?_; intro g cap' w6 hown3 hgrow hat3 hlt3; have HOWN3 := hide hown3; have HGROW := hide hgrow; clear hown3 hgrow hat3)
        have hb6 : Below w.heap.size w w6 := by
          have hg := unhide HGROW
          refine (unhide HBEL).trans ⟨hg.os, hg.tape, hg.output, Nat.le_trans (by simp) hg.size, fun j hj => ?_⟩
          refine (hg.block j (by simp; omega) ?_).trans (Below.heap_alloc (wr.drewN _) _ j (by simp; omega))
          intro h
          have := (owns_lt3 (unhide HOWN) j h.symm).2
          omega
        have hfil : ((L3 ++ [(1, o.2, ts k)]).map prT) = (l.take (k + 1)).filter isLD := by
          rw [List.take_succ_eq_append_getElem hkl, List.filter_append, List.map_append, unhide HFIL, ← unhide HO]
          have h1 : isLD o = true := by unfold isLD; rw [unhide HK]; rfl
          have h2 : o = (1, o.2) := by rw [← unhide HK]
          rw [List.filter_cons, if_pos h1]
          show _ ++ [(1, o.2)] = _
          rw [← h2]; rfl
        have hown4 : w6.ownsRow w.heap.size 50 3 (.slice (some ⟨g, 0, none⟩) (L3.length + 1) cap') (L3 ++ [(1, o.2, ts k)]).length (flat3 (L3 ++ [(1, o.2, ts k)])) := by
          rw [tri_snoc, flat3_snoc]
          exact unhide HOWN3
        have HB6 := hide hb6
        have HFIL2 := hide hfil
        have HOWN4 := hide hown4
        clear hb6 hfil hown4
        have t0 := cell_low (unhide HB6) _ _ hsb (unhide HQ0)
        rw [unhide HK] at t0
        have e1 := cell_low (unhide HB6) _ _ hkb hk1
        clear s0 s1 s2 d0 d1
        rw [rounds_succ]
        go_wp2_with (fail)
        go_quiet (fail)
        go_wp2_with (fail)
        rw [rounds_succ]
        go_wp2_with (fail)
        exact ⟨⟨k + 1, L3 ++ [(1, o.2, ts k)], _, by omega, rfl, by go_num, unhide HOWN4, unhide HFIL2, by simp; omega, bel_dn (unhide HB6)⟩, by simp only [intOf]; omega⟩
      · by_cases h2 : o.1 = 2
        · have HK := hide h2
          rw [h2] at s0
          clear h1 h2
          go_wp2_with (fail)
          refine wp_loop_rounds 3 ?_
          rw [rounds_succ]
          go_wp2_with (fail)
          go_quiet (fail)
          go_wp2_with (fail)
          rw [rounds_succ]
          go_wp2_with (fail)
          go_quiet (fail)
          go_wp2_with (at_builtin; refine wpList_append_lies _ rfl _ _ _ rfl w.heap.size 50 i0 _ 3 40 Tryz.underlying24 hi0 hz0 hz1 hz2 rfl (by decide) sl L3.length (flat3 L3) rfl (World.ownsRow.alloc (w := wr.drewN _) (unhide HOWN) _) ⟨wr.heap.size, 0, none⟩ 1 1 [.int .i64 2, .string ⟨o.2.toArray⟩, .string (ts k)] rfl rfl (World.news_of_block (cs := #[.int .i64 2, .string ⟨o.2.toArray⟩, .string (ts k)]) (t := 50) (fr := (0, 0)) (heap_alloc_new (wr.drewN _) _)) (by simp [Value.oneCell']) (by decide) (by unfold maxLen; omega) (by omega) (by simp; omega) (wr.heap.size + 1) (by simp) ?_; intro g cap' w6 hown3 hgrow hat3 hlt3; have HOWN3 := hide hown3; have HGROW := hide hgrow; clear hown3 hgrow hat3)
          have hb6 : Below w.heap.size w w6 := by
            have hg := unhide HGROW
            refine (unhide HBEL).trans ⟨hg.os, hg.tape, hg.output, Nat.le_trans (by simp) hg.size, fun j hj => ?_⟩
            refine (hg.block j (by simp; omega) ?_).trans (Below.heap_alloc (wr.drewN _) _ j (by simp; omega))
            intro h
            have := (owns_lt3 (unhide HOWN) j h.symm).2
            omega
          have hfil : ((L3 ++ [(2, o.2, ts k)]).map prT) = (l.take (k + 1)).filter isLD := by
            rw [List.take_succ_eq_append_getElem hkl, List.filter_append, List.map_append, unhide HFIL, ← unhide HO]
            have h1 : isLD o = true := by unfold isLD; rw [unhide HK]; rfl
            have h2 : o = (2, o.2) := by rw [← unhide HK]
            rw [List.filter_cons, if_pos h1]
            show _ ++ [(2, o.2)] = _
            rw [← h2]; rfl
          have hown4 : w6.ownsRow w.heap.size 50 3 (.slice (some ⟨g, 0, none⟩) (L3.length + 1) cap') (L3 ++ [(2, o.2, ts k)]).length (flat3 (L3 ++ [(2, o.2, ts k)])) := by
            rw [tri_snoc, flat3_snoc]
            exact unhide HOWN3
          have HB6 := hide hb6
          have HFIL2 := hide hfil
          have HOWN4 := hide hown4
          clear hb6 hfil hown4
          have t0 := cell_low (unhide HB6) _ _ hsb (unhide HQ0)
          rw [unhide HK] at t0
          have e1 := cell_low (unhide HB6) _ _ hkb hk1
          clear s0 s1 s2 d0 d1
          rw [rounds_succ]
          go_wp2_with (fail)
          exact ⟨⟨k + 1, L3 ++ [(2, o.2, ts k)], _, by omega, rfl, by go_num, unhide HOWN4, unhide HFIL2, by simp; omega, unhide HB6⟩, by simp only [intOf]; omega⟩
        · have e1 : (o.1 == 1) = false := beq_eq_false_iff_ne.2 h1
          have e2 : (o.1 == 2) = false := beq_eq_false_iff_ne.2 h2
          have hfil : L3.map prT = (l.take (k + 1)).filter isLD := by
            rw [List.take_succ_eq_append_getElem hkl, List.filter_append, unhide HFIL, ← unhide HO]
            have h3 : isLD o = false := by unfold isLD; rw [e1, e2]; rfl
            rw [List.filter_cons, h3]
            simp
          have HFIL2 := hide hfil
          clear h1 h2 hfil
          go_wp2_with (fail)
          refine wp_loop_rounds 3 ?_
          rw [rounds_succ]
          go_wp2_with (fail)
          go_quiet (fail)
          go_wp2_with (fail)
          rw [rounds_succ]
          go_wp2_with (fail)
          go_quiet (fail)
          go_wp2_with (fail)
          rw [rounds_succ]
          go_wp2_with (fail)
          exact ⟨⟨k + 1, L3, _, by omega, rfl, by go_num, unhide HOWN, unhide HFIL2, by omega, bel_dn (unhide HBEL)⟩, by simp only [intOf]; omega⟩
    · go_wp2_with (fail)
      go_ret
      have hkm : (l.take k).filter isLD = l.filter isLD := by rw [List.take_of_length_le (by have := unhide HM; omega)]
      exact ⟨_, L3, rfl, unhide HBEL, unhide HOWN, (unhide HFIL).trans hkm, by omega⟩

set_option maxHeartbeats 4000000 in
theorem kept_nil {pa : Option Addr} {cap : Nat} {kv : Value} {w : World} :
    Calls Tryz.prog 11 #[.slice pa 0 cap, kv] w fun e w' => e = .returned (.slice none 0 0) ∧ w' = w := by
  go_enter Tryz.func11, Tryz.ntmps11
  go_wp2_with (fail)
  refine wp_loop_rounds 1 ?_
  rw [rounds_succ]
  go_wp2_with (fail)
  go_ret
  exact ⟨rfl, rfl⟩

end Go.Proofs.YtmegcejgjdkpfaaGreatDoor
