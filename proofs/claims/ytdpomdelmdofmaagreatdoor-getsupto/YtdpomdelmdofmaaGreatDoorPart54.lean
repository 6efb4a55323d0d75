/-
  Walk of the reference's Fits, for any steps that are walked.
-/
import Derived.Test.YtdpomdelmdofmaaGreatDoorPart53
import Derived.Test.YtdpomdelmdofmaaGreatDoorPart42
import Derived.Test.YtdpomdelmdofmaaGreatDoorPart43
namespace Go.Proofs.YtdpomdelmdofmaaGreatDoor
open Go.RowKit
set_option maxRecDepth 100000 in
set_option maxHeartbeats 16000000 in
theorem FitsG_good {d x n : Int} {sb so ab m cap : Nat} {l : List Sp.St} {cs : Array Value} {w : World} (hc : Sp.cfg d x n = true) (hs : Scr w sb so l) (hst : ∀ o ∈ l, StepOk d x n o) (hz0 : ∀ o ∈ l, ∀ doc : Sp.Doc, (Sp.step d x n doc o).1.2.1 = 0) (hm : m = l.length) (hcap : m ≤ cap) (hcm : cap ≤ maxLen)
  (hrow : w.heap[ab]? = some (.cells cs 46 (0, 0))) (hans : AnsC cs m (Sp.run d x n none l)) (hsb : sb < w.heap.size) (hT : Laid w) :
  Calls Tryz.prog 29 #[.agg #[.int .i64 d, .int .i64 x, .int .i64 n], .slice (some ⟨sb, so, none⟩) m cap, .slice (some ⟨ab, 0, none⟩) m m] w fun e w' => e = .returned (.bool true) ∧ Below w.heap.size w w' := by
 have hab : ab < w.heap.size := (Array.getElem?_eq_some_iff.1 hrow).1
 have hc2 := hc
 unfold Sp.cfg at hc2
 simp only [Bool.and_eq_true] at hc2
 obtain ⟨i1, i2, i3⟩ := hc2
 have hmb : (m : Int) ≤ 9223372036854775807 := by unfold maxLen at hcm; omega
 have hlen : (Sp.run d x n none l).length = m := by rw [Sp.run_len, hm]
 have HANS := hide (fun (k : Nat) (hk : k < (Sp.run d x n none l).length) => hans.at hrow k hk)
 have HLEN := hide hlen
 have HM := hide hm
 have HS := hide hs
 have HL := hide (And.intro hst hz0)
 have HT := hide hT
 have HC := hide hc
 have hng := hT.ng
 have hE0 : EB ((w.alloc (.cells #[.int .i64 d, .int .i64 x, .int .i64 n] 23)).alloc (.cells #[.int .i64 d, .int .i64 x, .int .i64 n, .pointer none, .pointer none] 68)) (w.heap.size + 1) d x n (.pointer none) (.pointer none) := heap_new _ _ _ (by simp)
 have hb0 : Below w.heap.size w ((w.alloc (.cells #[.int .i64 d, .int .i64 x, .int .i64 n] 23)).alloc (.cells #[.int .i64 d, .int .i64 x, .int .i64 n, .pointer none, .pointer none] 68)) := ((Below.refl _ _).alloc (Nat.le_refl _) _).alloc (by simp) _
 have HE0 := hide hE0
 have HB0 := hide hb0
 have HNO := hide (fun (k : Nat) (w : World) => rNo_any k w)
 unfold ansV at HNO
 clear hc hs hst hz0 hm hrow hans hT hlen hE0 hb0
 go_enter Tryz.func29, Tryz.ntmps29
 go_wp2_with (fail)
 refine (rIn_any d 1 20 _).mono ?_
 rintro e wA ⟨rfl, rfl⟩
 rw [i1]
 go_wp2_with (fail)
 refine (rIn_any x 0 400 _).mono ?_
 rintro e wA ⟨rfl, rfl⟩
 rw [i2]
 go_wp2_with (fail)
 refine (rIn_any n 0 2000 _).mono ?_
 rintro e wA ⟨rfl, rfl⟩
 rw [i3]
 go_wp2_with (fail)
 clear i1 i2 i3
 go_loopw [11] (fun i wr => ∃ (k : Nat) (p q : Value) (od : Option Sp.O), k ≤ m ∧ i = .int .i64 k ∧ EB wr (w.heap.size + 1) d x n p q ∧ OD wr (w.heap.size + 1) p od ∧ docOf od = Sp.docAfter d x n none (l.take k) ∧ Below w.heap.size w wr) (fun i _ => m - (intOf i).toNat)
 case atStart => exact ⟨0, .pointer none, .pointer none, none, by omega, rfl, unhide HE0, rfl, rfl, unhide HB0⟩
 case round =>
  obtain ⟨k, p, q, od, hk, rfl, heb, hod, hdoc, hbel⟩ := hrel
  by_cases hlt : k < m
  ·have hkl : k < l.length := by have := unhide HM; omega
   have hkr : k < (Sp.run d x n none l).length := by have := unhide HLEN; omega
   obtain ⟨q0, q1, q2⟩ := unhide HS k hkl
   obtain ⟨r0, r1, r2⟩ := unhide HANS k hkr
   rw [run_at d x n l none k hkl hkr, ← hdoc] at r0 r1 r2
   obtain ⟨o, ho⟩ : ∃ o, o = l[k] := ⟨_, rfl⟩
   rw [← ho] at q0 q1 q2 r0 r1 r2
   have hom : o ∈ l := by rw [ho]; exact List.getElem_mem hkl
   have hok := (unhide HL).1 o hom
   have hat0 : (Sp.step d x n (docOf od) o).1.2.1 = 0 := (unhide HL).2 o hom _
   rw [hat0] at r1
   obtain ⟨ct, hct⟩ : ∃ ct, ct = (Sp.step d x n (docOf od) o).1 := ⟨_, rfl⟩
   rw [← hct] at r0 r2 hat0
   have s0 := cell_low hbel _ _ hsb q0
   have s1 := cell_low hbel _ _ hsb q1
   have s2 := cell_low hbel _ _ hsb q2
   have a0 := cell_low hbel _ _ hab r0
   have a1 := cell_low hbel _ _ hab r1
   have a2 := cell_low hbel _ _ hab r2
   have hszr := hbel.size
   have hsbr : sb < wr.heap.size := by omega
   have habr : ab < wr.heap.size := by omega
   have HSTEP : Hid (∀ W : World, Below wr.heap.size wr W → Calls Tryz.prog 39 #[.pointer (some ⟨w.heap.size + 1, 0, none⟩), .agg #[.int .i64 o.1, .string ⟨o.2.1.toArray⟩, .string ⟨o.2.2.toArray⟩], .agg #[.int .i64 ct.1, .int .i64 0, .string ⟨ct.2.2.toArray⟩]] W fun e w' => OStep (w.heap.size + 1) d x n od o W e w') := by
    intro W hW
    have := hok _ _ _ _ W (heb.low hW) (hod.kept (KeptX.of_below hW)) ((unhide HT).below ((hbel.trans (hW.mono hszr)).mono hng))
    rw [← hct] at this
    unfold ansA at this
    rw [hat0] at this
    exact this
   have HDOC := hide hdoc
   have HBEL := hide hbel
   have HO := hide ho
   clear q0 q1 q2 r0 r1 r2 heb hod hdoc hbel hct hok ho hat0
   obtain ⟨c1, c0, c2⟩ := ct
   simp only at a0 a2 HSTEP
   go_upto_region 10 with (fail)
   go_cut [12] (fun s12 wx => (∃ b : Bool, s12 = .bool b) ∧ Below wr.heap.size wr wx)
   case first =>
    by_cases hc1 : c1 = 2
    ·subst hc1
     cases c2 with
     | nil =>
      go_region_with (go_at_call 38; refine (unhide HNO 2 _).mono ?_; rintro e w4 ⟨rfl, hb4⟩; have b0 := cell_low (a := wr) (w := w4) ⟨hb4.os, hb4.tape, hb4.output, hb4.size, hb4.block⟩ _ _ habr a0; have b1 := cell_low (a := wr) (w := w4) ⟨hb4.os, hb4.tape, hb4.output, hb4.size, hb4.block⟩ _ _ habr a1; have b2 := cell_low (a := wr) (w := w4) ⟨hb4.os, hb4.tape, hb4.output, hb4.size, hb4.block⟩ _ _ habr a2)
      all_goals (
       go_wp2_with (fail)
       go_meet
       exact ⟨⟨_, rfl⟩, ⟨hb4.os, hb4.tape, hb4.output, hb4.size, hb4.block⟩⟩)
     | cons z zs =>
      go_region_with (go_at_call 38; refine (unhide HNO 2 _).mono ?_; rintro e w4 ⟨rfl, hb4⟩; have b0 := cell_low (a := wr) (w := w4) ⟨hb4.os, hb4.tape, hb4.output, hb4.size, hb4.block⟩ _ _ habr a0; have b1 := cell_low (a := wr) (w := w4) ⟨hb4.os, hb4.tape, hb4.output, hb4.size, hb4.block⟩ _ _ habr a1; have b2 := cell_low (a := wr) (w := w4) ⟨hb4.os, hb4.tape, hb4.output, hb4.size, hb4.block⟩ _ _ habr a2)
      all_goals (
       go_wp2_with (fail)
       go_meet
       exact ⟨⟨_, rfl⟩, ⟨hb4.os, hb4.tape, hb4.output, hb4.size, hb4.block⟩⟩)
    ·have hc1' : ((c1 : Int) == 2) = false := by rw [beq_eq_false_iff_ne]; omega
     clear hc1
     go_region_with (go_at_call 38; refine (unhide HNO 2 _).mono ?_; rintro e w4 ⟨rfl, hb4⟩; have b0 := cell_low (a := wr) (w := w4) ⟨hb4.os, hb4.tape, hb4.output, hb4.size, hb4.block⟩ _ _ habr a0; have b1 := cell_low (a := wr) (w := w4) ⟨hb4.os, hb4.tape, hb4.output, hb4.size, hb4.block⟩ _ _ habr a1; have b2 := cell_low (a := wr) (w := w4) ⟨hb4.os, hb4.tape, hb4.output, hb4.size, hb4.block⟩ _ _ habr a2)
     all_goals (
      go_wp2_with (fail)
      go_meet
      exact ⟨⟨_, rfl⟩, ⟨hb4.os, hb4.tape, hb4.output, hb4.size, hb4.block⟩⟩)
   case rest =>
   obtain ⟨⟨b, rfl⟩, hbc⟩ := hcut
   have t0 := cell_low hbc _ _ hsbr s0
   have t1 := cell_low hbc _ _ hsbr s1
   have t2 := cell_low hbc _ _ hsbr s2
   have b0 := cell_low hbc _ _ habr a0
   have b1 := cell_low hbc _ _ habr a1
   have b2 := cell_low hbc _ _ habr a2
   have HBC := hide hbc
   clear s0 s1 s2 a0 a1 a2 hbc
   go_upto_region 12 with (fail)
   go_region_with (go_at_call 39; refine (unhide HSTEP _ ?_).mono ?_; exact ⟨(unhide HBC).os, (unhide HBC).tape, (unhide HBC).output, (unhide HBC).size, (unhide HBC).block⟩; rintro e w5 ⟨rfl, hk5, hex⟩)
   all_goals (
    obtain ⟨p', q', od', he5, hd5, hdoc5⟩ := hex
    have hwc : Below w.heap.size w wc.drew := by
     have h := (unhide HBEL).trans ((unhide HBC).mono (unhide HBEL).size)
     exact ⟨h.os, h.tape, h.output, h.size, h.block⟩
    have hb5 : Below w.heap.size w w5 := hwc.trans (hk5.below (Nat.le_succ _) hwc.size)
    have hdoc6 : docOf od' = Sp.docAfter d x n none (l.take (k + 1)) := by
     rw [List.take_succ_eq_append_getElem hkl, Sp.after_snoc, ← unhide HDOC, ← unhide HO]; exact hdoc5
    have HE5 := hide he5
    have HD5 := hide hd5
    have HDOC6 := hide hdoc6
    have HB5 := hide hb5
    clear he5 hd5 hdoc5 hdoc6 hb5 hwc hk5 t0 t1 t2 b0 b1 b2
    go_wp2_with (fail)
    go_roundw
    case rel => (repeat apply Exists.intro); exact ⟨show k + 1 ≤ m by omega, by go_num, unhide HE5, unhide HD5, unhide HDOC6, unhide HB5⟩
    case measure => simp only [intOf]; omega)
  ·go_wp2_with (fail)
   go_ret
   exact ⟨rfl, hbel⟩
end Go.Proofs.YtdpomdelmdofmaaGreatDoor

namespace Go.Proofs.YtdpomdelmdofmaaGreatDoor
open Go.RowKit
set_option maxRecDepth 100000 in
set_option maxHeartbeats 8000000 in
theorem runsG_ok {d x n : Int} {B : Nat} {sl : Value} {L3 : List Tri} {w : World} (hown : w.ownsRow B 49 3 sl L3.length (flat3 L3)) (hl : Gts (L3.map prT)) (hmx : L3.length * 40 ≤ 140737488355328) (hT : Laid w) :
  Calls Tryz.prog 15 #[.agg #[.int .i64 d, .int .i64 x, .int .i64 n], sl] w fun e w' => e = .returned (.bool true) ∧ Below w.heap.size w w' := by
 have hba : Below w.heap.size w (w.alloc (.cells #[.int .i64 d, .int .i64 x, .int .i64 n] 23)) := (Below.refl _ _).alloc (Nat.le_refl _) _
 have hng := hT.ng
 have hz : (w.alloc (.cells #[.int .i64 d, .int .i64 x, .int .i64 n] 23)).heap[w.heap.size]? = some (.cells #[.int .i64 d, .int .i64 x, .int .i64 n] 23 (0, 0)) := heap_new _ _ _ rfl
 have HZ := hide hz
 have HBA := hide hba
 have HT := hide (hT.below (hba.mono hng))
 by_cases h0 : L3.length = 0
 ·have hz : ∃ a c, sl = .slice a 0 c := by
   rcases hown.2 with ⟨e, _⟩ | ⟨g, cap, cur, e, _⟩
   ·exact ⟨none, 0, e⟩
   ·exact ⟨_, cap, by rw [e, h0]⟩
  obtain ⟨a, c, rfl⟩ := hz
  clear hown hl hT hba hz
  go_enter Tryz.func15, Tryz.ntmps15
  go_wp2_with (fail)
  refine (Run_nil (d := d) (e := x) (n := n)).mono ?_
  rintro e w2 ⟨A, cs, rfl, hA, hrow, hans, hb2⟩
  have hs2 := hb2.size
  have q := (hb2.block w.heap.size (by simp)).trans (unhide HZ)
  have q0 : w2.cell? ⟨w.heap.size, 0, none⟩ = some (.int .i64 d) := by simp [World.cell?, q]
  have q1 : w2.cell? ⟨w.heap.size, 1, none⟩ = some (.int .i64 x) := by simp [World.cell?, q]
  have q2 : w2.cell? ⟨w.heap.size, 2, none⟩ = some (.int .i64 n) := by simp [World.cell?, q]
  have HB2 := hide ((unhide HBA).trans (hb2.mono (unhide HBA).size))
  clear hrow hans hb2 q
  go_wp2_with (fail)
  refine (Fits_nil).mono ?_
  rintro e w3 ⟨rfl, hb3⟩
  have HB3 := hide ((unhide HB2).trans (hb3.mono (unhide HB2).size))
  clear hb3
  go_wp2_with (fail)
  go_ret
  exact ⟨rfl, unhide HB3⟩
 ·obtain ⟨g, cap, rfl, _, hcap2⟩ : ∃ g cap, sl = .slice (some ⟨g, 0, none⟩) L3.length cap ∧ L3.length ≤ cap ∧ cap ≤ maxLen := by
   rcases hown.2 with ⟨_, e⟩ | ⟨g, cap, cur, e, _, _, h4, h5, _⟩
   ·exact absurd e h0
   ·exact ⟨g, cap, e, h4, h5⟩
  obtain ⟨hscr, hg, hcap⟩ := scr_of hown (by omega)
  obtain ⟨N, hN⟩ : ∃ N, N = L3.length := ⟨_, rfl⟩
  rw [← hN] at hcap hmx h0 hown ⊢
  have hlen : N = (L3.map prT).length := by rw [hN]; simp
  have HS := hide hscr
  have HL := hide hl
  have HLEN := hide hlen
  clear hown hl hT hba hN hscr hz hlen
  go_enter Tryz.func15, Tryz.ntmps15
  go_wp2_with (fail)
  refine (Run_some (d := d) (e := x) (n := n) (l := L3.map prT) ((unhide HS).low (unhide HBA) hg) (unhide HL).plain (unhide HLEN) (by omega) hcap (by omega) (by have := (unhide HBA).size; omega) (unhide HT)).mono ?_
  rintro e w2 ⟨A, cs, rfl, hA, hrow, hans, hb2⟩
  have hs2 := hb2.size
  have q := (hb2.block w.heap.size (by simp)).trans (unhide HZ)
  have q0 : w2.cell? ⟨w.heap.size, 0, none⟩ = some (.int .i64 d) := by simp [World.cell?, q]
  have q1 : w2.cell? ⟨w.heap.size, 1, none⟩ = some (.int .i64 x) := by simp [World.cell?, q]
  have q2 : w2.cell? ⟨w.heap.size, 2, none⟩ = some (.int .i64 n) := by simp [World.cell?, q]
  have hbw := (unhide HBA).trans (hb2.mono (unhide HBA).size)
  have HB2 := hide hbw
  have hA2 : A < w2.heap.size := (Array.getElem?_eq_some_iff.1 hrow).1
  have HFIT : Hid (Calls Tryz.prog 29 #[.agg #[.int .i64 d, .int .i64 x, .int .i64 n], .slice (some ⟨g, 0, none⟩) N cap, .slice (some ⟨A, 0, none⟩) N N] w2 fun e w' => e = .returned (.bool true) ∧ Below w2.heap.size w2 w') := by
   cases hc : Sp.cfg d x n with
   | true => exact FitsG_good hc ((unhide HS).low hbw hg) (fun o ho => stepG_ok o ((unhide HL) o ho).1 ((unhide HL) o ho).2 hc) (fun o ho doc => step_at0 _ _ _ doc o (by have := ((unhide HL) o ho).1; omega)) (unhide HLEN) hcap hcap2 hrow hans (by have := hbw.size; omega) ((unhide HT).below (hb2.mono (unhide HT).ng))
   | false =>
    have han : ∀ k, k < N → w2.cell? ⟨A, k * 3, none⟩ = some (.int .i64 2) ∧ w2.cell? ⟨A, k * 3 + 1, none⟩ = some (.int .i64 0) ∧ w2.cell? ⟨A, k * 3 + 2, none⟩ = some (.string ⟨#[]⟩) := by
     intro k hk
     have hkl : k < (L3.map prT).length := by have := unhide HLEN; omega
     have hkr : k < (Sp.run d x n none (L3.map prT)).length := by rw [Sp.run_len]; exact hkl
     have h := hans.at hrow k hkr
     rw [run_bad hc _ none k hkl hkr] at h
     exact h
    unfold Sp.cfg at hc
    cases i1 : Sp.inB d 1 20 with
    | false => exact Fits_bad1 i1 hcap hcap2 han hA2
    | true =>
     cases i2 : Sp.inB x 0 400 with
     | false => exact Fits_bad2 i1 i2 hcap hcap2 han hA2
     | true =>
      rw [i1, i2] at hc
      exact Fits_bad3 i1 i2 (by simpa using hc) hcap hcap2 han hA2
  clear hrow hans hb2 q hbw
  go_wp2_with (fail)
  refine (unhide HFIT).mono ?_
  rintro e w3 ⟨rfl, hb3⟩
  have HB3 := hide ((unhide HB2).trans (hb3.mono (unhide HB2).size))
  clear hb3
  go_wp2_with (fail)
  go_ret
  exact ⟨rfl, unhide HB3⟩
end Go.Proofs.YtdpomdelmdofmaaGreatDoor

namespace Go.Proofs.YtdpomdelmdofmaaGreatDoor
open Go.RowKit
def Among (l : List Sp.St) (ks : List Int) (L : List Tri) : Prop := ∀ o ∈ L, o ∈ l ∧ o.1 ∈ ks
theorem Among.snoc {l : List Sp.St} {ks : List Int} {L : List Tri} {o : Tri} (h : Among l ks L) (h1 : o ∈ l) (h2 : o.1 ∈ ks) : Among l ks (L ++ [o]) := by
 intro x hx
 rcases List.mem_append.1 hx with hx | hx
 ·exact h x hx
 ·obtain rfl : x = o := by simpa using hx
  exact ⟨h1, h2⟩
set_option maxRecDepth 100000 in
set_option maxHeartbeats 16000000 in
theorem keptG_any {sb so m cap kb N : Nat} {l : List Sp.St} {ks : List Int} {w : World} (hs : Scr w sb so l) (hm : m = l.length) (hN : N = ks.length) (hby : m * N * 40 ≤ 140737488355328) (hm9 : m ≤ 9223372036854775807) (hN9 : N ≤ 1000) (hsb : sb < w.heap.size)
  (hk : ∀ j (hj : j < ks.length), w.cell? ⟨kb, j, none⟩ = some (.int .i64 ks[j])) (hkb : kb < w.heap.size) :
  Calls Tryz.prog 16 #[.slice (some ⟨sb, so, none⟩) m cap, .slice (some ⟨kb, 0, none⟩) N N] w fun e w' => ∃ (sl : Value) (L3 : List Tri), e = .returned sl ∧ Below w.heap.size w w' ∧ w'.ownsRow w.heap.size 49 3 sl L3.length (flat3 L3) ∧ Among l ks L3 ∧ L3.length ≤ m * N := by
 obtain ⟨i0, hi0, hz0, hz1, hz2⟩ := info_parts op_info
 have hmb : (m : Int) ≤ 9223372036854775807 := by omega
 have hNb : (N : Int) ≤ 9223372036854775807 := by omega
 have HS := hide hs
 have HM := hide hm
 have HN := hide hN
 have HK := hide hk
 clear hs hm hN hk
 go_enter Tryz.func16, Tryz.ntmps16
 go_wp2_with (fail)
 go_loopw [5, 6] (fun sv i wr => ∃ (k : Nat) (L3 : List Tri) (sl : Value), k ≤ m ∧ sl = sv ∧ i = .int .i64 k ∧ wr.ownsRow w.heap.size 49 3 sl L3.length (flat3 L3) ∧ Hid (Among l ks L3) ∧ L3.length ≤ k * N ∧ Below w.heap.size w wr) (fun _ i _ => m - (intOf i).toNat)
 case atStart => exact ⟨0, [], .slice none 0 0, by omega, rfl, rfl, World.ownsRow_nil _ _ _ _, (show Among l ks [] from fun o ho => nomatch ho), by simp, Below.refl _ _⟩
 case round =>
  obtain ⟨k, L0, sl0, hk, rfl, rfl, hown0, HAM0, hlen0, hbel0⟩ := hrel
  by_cases hlt : k < m
  ·have hkl : k < l.length := by have := unhide HM; omega
   obtain ⟨q0, q1, q2⟩ := unhide HS k hkl
   obtain ⟨o, ho⟩ : ∃ o, o = l[k] := ⟨_, rfl⟩
   rw [← ho] at q0 q1 q2
   have HO := hide (show o ∈ l by rw [ho]; exact List.getElem_mem hkl)
   have hkm : (k + 1) * N ≤ m * N := Nat.mul_le_mul_right N hlt
   rw [Nat.succ_mul] at hkm
   obtain ⟨kN, hkN⟩ : ∃ kN, kN = k * N := ⟨_, rfl⟩
   obtain ⟨mN, hmN⟩ : ∃ mN, mN = m * N := ⟨_, rfl⟩
   rw [← hkN, ← hmN] at hkm
   rw [← hkN] at hlen0
   rw [← hmN] at hby
   have HKN := hide hkN
   have HMN := hide hmN
   have HQ0 := hide q0
   have HQ1 := hide q1
   have HQ2 := hide q2
   have HOWN0 := hide hown0
   have HBEL0 := hide hbel0
   clear q0 q1 q2 ho hkN hmN hown0 hbel0
   go_wp2_with (fail)
   go_loopw [5, 7] (fun sv jv wx => ∃ (j : Nat) (L3 : List Tri) (sl : Value), j ≤ N ∧ sl = sv ∧ jv = .int .i64 j ∧ wx.ownsRow w.heap.size 49 3 sl L3.length (flat3 L3) ∧ Hid (Among l ks L3) ∧ L3.length ≤ kN + j ∧ Below w.heap.size w wx) (fun _ j _ => N - (intOf j).toNat)
   case atStart => exact ⟨0, L0, _, by omega, rfl, rfl, unhide HOWN0, HAM0, by omega, unhide HBEL0⟩
   case round =>
    obtain ⟨j, L3, sl, hj, rfl, rfl, hown, HAM, hlen, hbel⟩ := hrel
    have HOWN := hide hown
    have HBEL := hide hbel
    by_cases hjn : j < N
    ·have hjk : j < ks.length := by have := unhide HN; omega
     have s0 := cell_low hbel _ _ hsb (unhide HQ0)
     have s1 := cell_low hbel _ _ hsb (unhide HQ1)
     have s2 := cell_low hbel _ _ hsb (unhide HQ2)
     have d0 := cell_low hbel _ _ hkb (unhide HK j hjk)
     have HMEM := hide (show ks[j] ∈ ks from List.getElem_mem hjk)
     generalize ks[j] = kj at *
     have hszr := hbel.size
     clear hown hbel
     by_cases h1 : o.1 = kj
     ·subst h1
      have HMEM2 := hide (unhide HAM |>.snoc (unhide HO) (unhide HMEM))
      go_wp2_with (fail)
      go_quiet (fail)
      go_wp2_with (at_builtin; go_loud (refine wpList_append_lies _ rfl _ _ _ rfl w.heap.size 49 i0 _ 3 40 Tryz.underlying24 hi0 hz0 hz1 hz2 rfl (by decide) sl L3.length (flat3 L3) rfl (World.ownsRow.alloc (w := wr.drewN _) (unhide HOWN) _) ⟨wr.heap.size, 0, none⟩ 1 1 [.int .i64 o.1, .string ⟨o.2.1.toArray⟩, .string ⟨o.2.2.toArray⟩] rfl rfl (World.news_of_block (cs := #[.int .i64 o.1, .string ⟨o.2.1.toArray⟩, .string ⟨o.2.2.toArray⟩]) (t := 49) (fr := (0, 0)) (heap_alloc_new (wr.drewN _) _)) (by simp [Value.oneCell']) (by decide) (by unfold maxLen; omega) (by omega) (by simp; omega) (wr.heap.size + 1) (by simp) ?_; intro g cap' w6 hown3 hgrow hat3 hlt3; have HOWN3 := hide hown3; have HGROW := hide hgrow; clear hown3 hgrow hat3))
      have hb6 : Below w.heap.size w w6 := by
       have hg := unhide HGROW
       refine (unhide HBEL).trans ⟨hg.os, hg.tape, hg.output, Nat.le_trans (by simp) hg.size, fun j hj => ?_⟩
       refine (hg.block j (by simp; omega) ?_).trans (Below.heap_alloc (wr.drewN _) _ j (by simp; omega))
       intro h
       have := (owns_lt3 (unhide HOWN) j h.symm).2
       omega
      have hown4 : w6.ownsRow w.heap.size 49 3 (.slice (some ⟨g, 0, none⟩) (L3.length + 1) cap') (L3 ++ [o]).length (flat3 (L3 ++ [o])) := by
       rw [tri_snoc, flat3_snoc]
       exact unhide HOWN3
      exact ⟨⟨j + 1, L3 ++ [o], _, by omega, rfl, by go_num, hown4, HMEM2, by rw [tri_snoc]; omega, hb6⟩, by simp only [intOf]; omega⟩
     ·have e1 : (o.1 == kj) = false := beq_eq_false_iff_ne.2 h1
      clear h1
      go_wp2_with (fail)
      go_quiet (fail)
      go_wp2_with (fail)
      exact ⟨⟨j + 1, L3, _, by omega, rfl, by go_num, unhide HOWN, HAM, by omega, bel_dn (unhide HBEL)⟩, by simp only [intOf]; omega⟩
    ·obtain rfl : j = N := by omega
     go_wp2_with (fail)
     exact ⟨⟨k + 1, L3, _, by omega, rfl, by go_num, unhide HOWN, HAM, by rw [Nat.succ_mul, ← unhide HKN]; omega, unhide HBEL⟩, by simp only [intOf]; omega⟩
  ·obtain rfl : k = m := by omega
   go_wp2_with (fail)
   go_ret
   exact ⟨_, L0, rfl, hbel0, hown0, unhide HAM0, hlen0⟩
end Go.Proofs.YtdpomdelmdofmaaGreatDoor
/-
  Walk of the statement's own Gets.
-/
namespace Go.Proofs.YtdpomdelmdofmaaGreatDoor
open Go.RowKit
def KeptG (v1 : Value) (w : World) : Prop := ∀ (w0 : World) (g : Nat), Below w.heap.size w w0 → w0.heap[g]? = some (.cells #[.int .i64 1, .int .i64 2, .int .i64 3, .int .i64 4] 3 (0, 0)) → Calls Tryz.prog 16 #[v1, .slice (some ⟨g, 0, none⟩) 4 4] w0 fun e w' =>
 ∃ (sl : Value) (L3 : List Tri) (B : Nat), e = .returned sl ∧ Below w0.heap.size w0 w' ∧ w'.ownsRow B 49 3 sl L3.length (flat3 L3) ∧ Gts (L3.map prT) ∧ L3.length * 40 ≤ 140737488355328
set_option maxRecDepth 100000 in
set_option maxHeartbeats 16000000 in
theorem Gets_any {d x n : Int} {v1 : Value} {w : World} (hk : KeptG v1 w) (hT : Laid w) :
  Calls Tryz.prog 7 #[.agg #[.int .i64 d, .int .i64 x, .int .i64 n], v1] w fun e w' => e = .returned (.bool true) ∧ Below w.heap.size w w' := by
 have hng := hT.ng
 have hz : (w.alloc (.cells #[.int .i64 d, .int .i64 x, .int .i64 n] 23)).heap[w.heap.size]? = some (.cells #[.int .i64 d, .int .i64 x, .int .i64 n] 23 (0, 0)) := heap_new _ _ _ rfl
 have hba : Below w.heap.size w (w.alloc (.cells #[.int .i64 d, .int .i64 x, .int .i64 n] 23)) := (Below.refl _ _).alloc (Nat.le_refl _) _
 have HK := hide hk
 have HT := hide hT
 clear hk hT
 go_enter Tryz.func7, Tryz.ntmps7
 go_wp2_with (fail)
 generalize w.alloc (.cells #[.int .i64 d, .int .i64 x, .int .i64 n] 23) = wa at *
 have hsa : w.heap.size < wa.heap.size := (Array.getElem?_eq_some_iff.1 hz).1
 have z0 : wa.cell? ⟨w.heap.size, 0, none⟩ = some (.int .i64 d) := by simp [World.cell?, hz]
 have z1 : wa.cell? ⟨w.heap.size, 1, none⟩ = some (.int .i64 x) := by simp [World.cell?, hz]
 have z2 : wa.cell? ⟨w.heap.size, 2, none⟩ = some (.int .i64 n) := by simp [World.cell?, hz]
 have HBA := hide hba
 have HKEPT : Hid (∀ (w0 : World) (g : Nat), Below w.heap.size w w0 → w0.heap[g]? = some (.cells #[.int .i64 1, .int .i64 2, .int .i64 3, .int .i64 4] 3 (0, 0)) → Calls Tryz.prog 16 #[v1, .slice (some ⟨g, 0, none⟩) 4 4] w0 fun e w' =>
  ∃ (sl : Value), e = .returned sl ∧ Below w0.heap.size w0 w' ∧ Hid (∀ W, Below w'.heap.size w' W → Calls Tryz.prog 15 #[.agg #[.int .i64 d, .int .i64 x, .int .i64 n], sl] W fun e w' => e = .returned (.bool true) ∧ Below W.heap.size W w')) := by
  intro w0 g h0 h1
  refine ((unhide HK) w0 g h0 h1).mono ?_
  rintro e w' ⟨sl, L3, B, rfl, hb, hown, hl, hm⟩
  refine ⟨sl, rfl, hb, fun W hW => ?_⟩
  have hb2 : Below w.heap.size w W := (h0.trans (hb.mono h0.size)).trans (hW.mono (Nat.le_trans h0.size hb.size))
  exact runsG_ok (B := B) ⟨hown.1, hown.2.imp id fun ⟨g', cap, cur, a1, a2, a3, a4⟩ => ⟨g', cap, cur, a1, a2, (hW.block g' (Array.getElem?_eq_some_iff.1 a3).1).trans a3, a4⟩⟩ hl hm ((unhide HT).below (hb2.mono hng))
 clear hz hba HK
 go_region_with (first
  | (go_at_call 16; refine (unhide HKEPT _ _ ?_ ?_).mono ?_; exact bel_any ((unhide HBA).alloc (Nat.le_of_lt hsa) _); exact heap_new _ _ _ rfl; rintro x w1 ⟨sl, rfl, hb1, hruns⟩; have hbw1 := (bel_any ((Below.refl wa.heap.size wa).alloc (Nat.le_refl _) (.cells #[.int .i64 1, .int .i64 2, .int .i64 3, .int .i64 4] 3)) : Below wa.heap.size wa ((wa.alloc (.cells #[.int .i64 1, .int .i64 2, .int .i64 3, .int .i64 4] 3)).drew)).trans (hb1.mono (by simp)); have y0 := cell_low hbw1 _ _ hsa z0; have y1 := cell_low hbw1 _ _ hsa z1; have y2 := cell_low hbw1 _ _ hsa z2)
  | (go_at_call 15; refine (unhide hruns _ ?_).mono ?_; exact bel_any (Below.refl _ w1); rintro x w2 ⟨rfl, hb2⟩))
 all_goals (
  have hb12 : Below w.heap.size w w2 := ((unhide HBA).trans (hbw1.mono (Nat.le_of_lt hsa))).trans (Below.mono (B := w1.heap.size) (w := w1) ⟨hb2.os, hb2.tape, hb2.output, hb2.size, hb2.block⟩ (Nat.le_trans (Nat.le_of_lt hsa) hbw1.size))
  have HB12 := hide hb12
  clear hb12 hb2 hb1 hbw1 hruns y0 y1 y2 z0 z1 z2
  go_wp2_with (fail)
  go_ret
  exact ⟨rfl, unhide HB12⟩)
theorem gts_of {l : List Sp.St} {L3 : List Tri} (h : Among l [1, 2, 3, 4] L3) (hn : ∀ o ∈ l, o.2.1.length ≤ 1048576) : Gts (L3.map prT) := by
 intro o ho
 obtain ⟨p, hp, rfl⟩ := List.mem_map.1 ho
 obtain ⟨h1, h2⟩ := h p hp
 refine ⟨?_, hn p h1⟩
 have h3 : p.1 ∈ ([1, 2, 3, 4] : List Int) := h2
 simpa [prT] using h3
theorem Gets_some {d x n : Int} {sb so m cap : Nat} {l : List Sp.St} {w : World} (hs : Scr w sb so l) (hm : m = l.length) (hby : m ≤ 1048576) (hn : ∀ o ∈ l, o.2.1.length ≤ 1048576) (hsb : sb < w.heap.size) (hT : Laid w) :
  Calls Tryz.prog 7 #[.agg #[.int .i64 d, .int .i64 x, .int .i64 n], .slice (some ⟨sb, so, none⟩) m cap] w fun e w' => e = .returned (.bool true) ∧ Below w.heap.size w w' := by
 refine Gets_any ?_ hT
 intro w0 g h0 h1
 have hc : ∀ j (hj : j < ([1, 2, 3, 4] : List Int).length), w0.cell? ⟨g, j, none⟩ = some (.int .i64 ([1, 2, 3, 4] : List Int)[j]) := by
  intro j hj
  match j, hj with
  | 0, _ => simp [World.cell?, h1]
  | 1, _ => simp [World.cell?, h1]
  | 2, _ => simp [World.cell?, h1]
  | 3, _ => simp [World.cell?, h1]
 refine (keptG_any (N := 4) (ks := [1, 2, 3, 4]) (hs.low h0 hsb) hm rfl (by omega) (by omega) (by omega) (by have := h0.size; omega) hc (Array.getElem?_eq_some_iff.1 h1).1).mono ?_
 rintro e w' ⟨sl, L3, rfl, hb, hown, hfil, hlen⟩
 exact ⟨sl, L3, _, rfl, hb, hown, gts_of hfil hn, by omega⟩
theorem Gets_nil {d x n : Int} {pa : Option Addr} {cap : Nat} {w : World} (hT : Laid w) :
  Calls Tryz.prog 7 #[.agg #[.int .i64 d, .int .i64 x, .int .i64 n], .slice pa 0 cap] w fun e w' => e = .returned (.bool true) ∧ Below w.heap.size w w' := by
 refine Gets_any ?_ hT
 intro w0 g h0 h1
 refine (kept_nil).mono ?_
 rintro e w' ⟨rfl, rfl⟩
 exact ⟨.slice none 0 0, [], 0, rfl, Below.refl _ _, World.ownsRow_nil _ _ _ _, fun o ho => absurd ho (by simp), by simp⟩
end Go.Proofs.YtdpomdelmdofmaaGreatDoor
