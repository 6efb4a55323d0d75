/-
  Walk of the statement's own loading.
-/
import Derived.Test.YtdpomdelmdofmaaGreatDoorPart26
import Derived.Test.YtdpomdelmdofmaaGreatDoorPart02
import Derived.Test.YtdpomdelmdofmaaGreatDoorTie
import Derived.Test.YtdpomdelmdofmaaGreatDoorCards
import Derived.Deep.Strs
import Derived.SizedLaws
import Derived.SevenTiedAt
namespace Go.Proofs.YtdpomdelmdofmaaGreatDoor
open Go.RowKit
def lsCells : Array Value := #[.int .i64 1, .string ⟨#[32, 91, 49, 46, 48, 44, 32, 50, 93]⟩, .string ⟨#[]⟩, .int .i64 2, .string ⟨#[]⟩, .string ⟨#[]⟩, .int .i64 1, .string ⟨#[91]⟩, .string ⟨#[]⟩, .int .i64 2, .string ⟨#[]⟩, .string ⟨#[]⟩]
theorem scr_ls {w : World} {g : Nat} (h : w.heap[g]? = some (.cells lsCells 49 (0, 0))) : Scr w g 0 Sp.ls := by
 intro i hi
 have hc : ∀ j, w.cell? ⟨g, j, none⟩ = lsCells[j]? := fun j => by simp [World.cell?, h]
 rw [hc, hc, hc]
 match i, hi with
 | 0, _ => exact ⟨rfl, rfl, rfl⟩
 | 1, _ => exact ⟨rfl, rfl, rfl⟩
 | 2, _ => exact ⟨rfl, rfl, rfl⟩
 | 3, _ => exact ⟨rfl, rfl, rfl⟩
theorem plain_ls : Plain Sp.ls := by
 intro o ho
 simp only [Sp.ls, List.mem_cons, List.not_mem_nil, or_false] at ho
 rcases ho with rfl | rfl | rfl | rfl <;> exact Or.inl (Or.inl (by decide))
set_option maxRecDepth 100000 in
set_option maxHeartbeats 4000000 in
theorem loading_any (w : World) (hT : Laid w) : Calls Tryz.prog 17 #[] w fun x w' => x = .returned (.bool true) ∧ Below w.heap.size w w' := by
 have HT := hide hT
 have hng := hT.ng
 clear hT
 go_enter Tryz.func17, Tryz.ntmps17
 go_wp2_with (fail)
 refine (kstep_any 1 _ _ _).mono ?_
 rintro x w1 ⟨rfl, hb1⟩
 go_wp2_with (fail)
 refine (kstep_any 2 _ _ _).mono ?_
 rintro x w2 ⟨rfl, hb2⟩
 go_wp2_with (fail)
 refine (kstep_any 1 _ _ _).mono ?_
 rintro x w3 ⟨rfl, hb3⟩
 go_wp2_with (fail)
 refine (kstep_any 2 _ _ _).mono ?_
 rintro x w4 ⟨rfl, hb4⟩
 have hb04 : Below w.heap.size w w4 := ((hb1.trans (hb2.mono hb1.size)).trans (hb3.mono (Nat.le_trans hb1.size hb2.size))).trans (hb4.mono (Nat.le_trans hb1.size (Nat.le_trans hb2.size hb3.size)))
 have HB4 := hide hb04
 have hs4 := hb04.size
 clear hb1 hb2 hb3 hb4 hb04
 go_wp2_with (fail)
 have hb5 : Below w.heap.size w (w4.alloc (.cells lsCells 49)) := (unhide HB4).alloc hs4 _
 refine (Run_some (d := 3) (e := 9) (n := 100) (sb := w4.heap.size) (so := 0) (m := 4) (cap := 4) (l := Sp.ls) (scr_ls (heap_new w4 _ _ rfl)) plain_ls rfl (by omega) (by omega) (by omega) (by simp) ((unhide HT).below (hb5.mono hng))).mono ?_
 rintro x w6 ⟨A, cs, rfl, hA, hrow, hans, hb6⟩
 rw [run_ls] at hans
 obtain ⟨hsz, hc⟩ := hans
 have q0 := hc 0 (by simp)
 have q1 := hc 1 (by simp)
 have q2 := hc 2 (by simp)
 have q3 := hc 3 (by simp)
 simp only [List.getElem_cons_zero, List.getElem_cons_succ] at q0 q1 q2 q3
 have hcell : ∀ j, w6.cell? ⟨A, j, none⟩ = cs[j]? := fun j => by simp [World.cell?, hrow]
 have g00 := (hcell 0).trans q0.1
 have g01 := (hcell 1).trans q0.2.1
 have g02 := (hcell 2).trans q0.2.2
 have g10 := (hcell 3).trans q1.1
 have g11 := (hcell 4).trans q1.2.1
 have g12 := (hcell 5).trans q1.2.2
 have g20 := (hcell 6).trans q2.1
 have g21 := (hcell 7).trans q2.2.1
 have g22 := (hcell 8).trans q2.2.2
 have g30 := (hcell 9).trans q3.1
 have g31 := (hcell 10).trans q3.2.1
 have g32 := (hcell 11).trans q3.2.2
 have hb06 : Below w.heap.size w w6 := hb5.trans (hb6.mono hb5.size)
 have HB6 := hide hb06
 have hA6 : A < w6.heap.size := (Array.getElem?_eq_some_iff.1 hrow).1
 clear q0 q1 q2 q3 hc hcell hrow hsz hb5 hb6 hb06
 go_wp2_with (fail)
 refine (told_yes [] w6).mono ?_
 rintro x w7 ⟨rfl, hb7⟩
 have k1 := (hb7.cell (p := ⟨A, 3, none⟩) hA6).trans g10
 have k2 := (hb7.cell (p := ⟨A, 4, none⟩) hA6).trans g11
 have k3 := (hb7.cell (p := ⟨A, 5, none⟩) hA6).trans g12
 have k4 := (hb7.cell (p := ⟨A, 6, none⟩) hA6).trans g20
 have k5 := (hb7.cell (p := ⟨A, 9, none⟩) hA6).trans g30
 have k6 := (hb7.cell (p := ⟨A, 10, none⟩) hA6).trans g31
 have k7 := (hb7.cell (p := ⟨A, 11, none⟩) hA6).trans g32
 have HB7 := hide ((unhide HB6).trans (hb7.mono (unhide HB6).size))
 have hA7 : A < w7.heap.size := Nat.lt_of_lt_of_le hA6 hb7.size
 clear g00 g01 g02 g10 g11 g12 g20 g21 g22 g30 g31 g32 hb7
 go_wp2_with (fail)
 refine (told_yes Sp.t2 w7).mono ?_
 rintro x w8 ⟨rfl, hb8⟩
 have m4 := (hb8.cell (p := ⟨A, 6, none⟩) hA7).trans k4
 have m5 := (hb8.cell (p := ⟨A, 9, none⟩) hA7).trans k5
 have m6 := (hb8.cell (p := ⟨A, 10, none⟩) hA7).trans k6
 have m7 := (hb8.cell (p := ⟨A, 11, none⟩) hA7).trans k7
 have HB8 := hide ((unhide HB7).trans (hb8.mono (unhide HB7).size))
 have hA8 : A < w8.heap.size := Nat.lt_of_lt_of_le hA7 hb8.size
 clear k1 k2 k3 k4 k5 k6 k7 hb8
 go_wp2_with (fail)
 refine (told_yes Sp.t2 w8).mono ?_
 rintro x w9 ⟨rfl, hb9⟩
 have n4 := (hb9.cell (p := ⟨A, 6, none⟩) hA8).trans m4
 have HB9 := hide ((unhide HB8).trans (hb9.mono (unhide HB8).size))
 clear m4 m5 m6 m7 hb9
 go_wp2_with (fail)
 go_ret
 exact ⟨rfl, unhide HB9⟩
end Go.Proofs.YtdpomdelmdofmaaGreatDoor

namespace Go.Proofs.YtdpomdelmdofmaaGreatDoor
open Go.RowKit
theorem Scr.take {w : World} {sb so : Nat} {l : List Sp.St} (h : Scr w sb so l) (k : Nat) : Scr w sb so (l.take k) := by
 intro i hi
 have hi2 : i < l.length := by rw [List.length_take] at hi; omega
 have := h i hi2
 simpa using this
theorem Scr.low {w w' : World} {sb so B : Nat} {l : List Sp.St} (h : Scr w sb so l) (hb : Below B w w') (hs : sb < B) : Scr w' sb so l := by
 intro i hi
 obtain ⟨h1, h2, h3⟩ := h i hi
 exact ⟨(hb.cell (p := ⟨sb, _, none⟩) hs).trans h1, (hb.cell (p := ⟨sb, _, none⟩) hs).trans h2, (hb.cell (p := ⟨sb, _, none⟩) hs).trans h3⟩
def RunEnd (m : Nat) (a : List Sp.Ans) (w : World) (x : Ending) (w' : World) : Prop := ∃ A cs, x = .returned (.slice (some ⟨A, 0, none⟩) m m) ∧ w.heap.size ≤ A ∧ w'.heap[A]? = some (.cells cs 46 (0, 0)) ∧ AnsC cs m a ∧ Below w.heap.size w w'
theorem Run_take {d e n : Int} {sb so k cap : Nat} {l : List Sp.St} {w : World} (hs : Scr w sb so l) (hpl : Plain l) (hk : k ≤ l.length) (hcap : k ≤ cap) (hb : k * 32 ≤ 281474976710656) (hsb : sb < w.heap.size) (hT : Laid w) :
  Calls Tryz.prog 24 #[.agg #[.int .i64 d, .int .i64 e, .int .i64 n], .slice (some ⟨sb, so, none⟩) k cap] w fun x w' => RunEnd k (Sp.run d e n none (l.take k)) w x w' := by
 by_cases h0 : k = 0
 ·subst h0
  rw [List.take_zero]
  exact Run_nil
 ·exact Run_some (hs.take k) (fun o ho => hpl o (List.mem_of_mem_take ho)) (by rw [List.length_take]; omega) (by omega) hcap hb hsb hT
theorem AnsC.at {w : World} {A n : Nat} {cs : Array Value} {a : List Sp.Ans} (h : AnsC cs n a) (hw : w.heap[A]? = some (.cells cs 46 (0, 0))) (i : Nat) (hi : i < a.length) :
  w.cell? ⟨A, i * 3, none⟩ = some (.int .i64 a[i].1) ∧ w.cell? ⟨A, i * 3 + 1, none⟩ = some (.int .i64 a[i].2.1) ∧ w.cell? ⟨A, i * 3 + 2, none⟩ = some (.string ⟨a[i].2.2.toArray⟩) := by
 have hcell : ∀ j, w.cell? ⟨A, j, none⟩ = cs[j]? := fun j => by simp [World.cell?, hw]
 rw [hcell, hcell, hcell]
 exact h.2 i hi
set_option maxRecDepth 100000 in
set_option maxHeartbeats 8000000 in
theorem Prefix_some {d e n c : Int} {sb so m cap : Nat} {l : List Sp.St} {w : World} (hs : Scr w sb so l) (hpl : Plain l) (hm : m = l.length) (hcap : m ≤ cap) (hb : m * 32 ≤ 281474976710656) (hcm : cap ≤ maxLen) (hsb : sb < w.heap.size) (hT : Laid w)
  (h0 : -9223372036854775808 ≤ c) (h1 : c ≤ 9223372036854775807) :
  Calls Tryz.prog 6 #[.agg #[.int .i64 d, .int .i64 e, .int .i64 n], .slice (some ⟨sb, so, none⟩) m cap, .int .i64 c] w fun x w' => x = .returned (.bool true) ∧ Below w.heap.size w w' := by
 have HPL := hide hpl
 have HM := hide hm
 have HS := hide hs
 have HT := hide hT
 have hng := hT.ng
 have hmb : (m : Int) ≤ 8796093022208 := by omega
 have hcb : (cap : Int) ≤ 9223372036854775807 := by unfold maxLen at hcm; omega
 have hz : (w.alloc (.cells #[.int .i64 d, .int .i64 e, .int .i64 n] 23)).heap[w.heap.size]? = some (.cells #[.int .i64 d, .int .i64 e, .int .i64 n] 23 (0, 0)) := heap_new _ _ _ rfl
 have hba : Below w.heap.size w (w.alloc (.cells #[.int .i64 d, .int .i64 e, .int .i64 n] 23)) := (Below.refl _ _).alloc (Nat.le_refl _) _
 clear hm hs hT hpl
 go_enter Tryz.func6, Tryz.ntmps6
 go_wp2_with (fail)
 refine (loading_any _ ((unhide HT).below (hba.mono hng))).mono ?_
 rintro x w1 ⟨rfl, hb1⟩
 have hz1 := (hb1.block w.heap.size (by simp)).trans hz
 have hb01 : Below w.heap.size w w1 := hba.trans (hb1.mono hba.size)
 have HB1 := hide hb01
 have hs1 : w.heap.size < w1.heap.size := (Array.getElem?_eq_some_iff.1 hz1).1
 have z0 : w1.cell? ⟨w.heap.size, 0, none⟩ = some (.int .i64 d) := by simp [World.cell?, hz1]
 have z1 : w1.cell? ⟨w.heap.size, 1, none⟩ = some (.int .i64 e) := by simp [World.cell?, hz1]
 have z2 : w1.cell? ⟨w.heap.size, 2, none⟩ = some (.int .i64 n) := by simp [World.cell?, hz1]
 clear hb1 hb01 hba hz
 go_wp2_with (fail)
 refine (pick_any c (m + 1) h0 h1 (by omega) (by omega) w1).mono ?_
 rintro x w1' ⟨⟨k, hk, rfl⟩, rfl⟩
 go_wp2_with (fail)
 have hrun := Run_take (d := d) (e := e) (n := n) (k := m) (cap := cap) ((unhide HS).low (unhide HB1) hsb) (unhide HPL) (Nat.le_of_eq (unhide HM)) hcap hb (by omega) ((unhide HT).below ((unhide HB1).mono hng))
 rw [List.take_of_length_le (Nat.le_of_eq (unhide HM).symm)] at hrun
 refine hrun.mono ?_
 rintro x w2 ⟨A, cs, rfl, hA, hrow, hans, hb2⟩
 have y0 := (hb2.cell (p := ⟨w.heap.size, 0, none⟩) hs1).trans z0
 have y1 := (hb2.cell (p := ⟨w.heap.size, 1, none⟩) hs1).trans z1
 have y2 := (hb2.cell (p := ⟨w.heap.size, 2, none⟩) hs1).trans z2
 have HB2 := hide ((unhide HB1).trans (hb2.mono (by omega)))
 have hs2 : w.heap.size < w2.heap.size := by have := hb2.size; omega
 have HROW := hide hrow
 have HANS := hide hans
 have hAl : A < w2.heap.size := (Array.getElem?_eq_some_iff.1 hrow).1
 have hkc : (k : Int) ≤ (cap : Int) := by omega
 have hkc2 : k ≤ cap := by omega
 clear z0 z1 z2 hz1 hrow hans hb2 hrun
 have HRUN := hide (fun (w0 : World) (h1 : Below w.heap.size w w0) => Run_take (d := d) (e := e) (n := n) (k := k) (cap := cap) ((unhide HS).low h1 hsb) (unhide HPL) (by have := unhide HM; omega) hkc2 (by omega) (by have := h1.size; omega) ((unhide HT).below (h1.mono hng)))
 go_wp2_with (fail)
 go_region_with (go_at_call 24; refine (unhide HRUN _ ?_).mono ?_; exact (unhide HB2).drew; rintro x w3 ⟨B, cs', rfl, hB, hrow', hans', hb3⟩)
 all_goals (
  replace hb3 : Below w2.heap.size w2 w3 := ⟨hb3.os, hb3.tape, hb3.output, hb3.size, hb3.block⟩
  replace hB : w2.heap.size ≤ B := hB
  have hrowA : w3.heap[A]? = some (.cells cs 46 (0, 0)) := (hb3.block A hAl).trans (unhide HROW)
  have HB3 := hide ((unhide HB2).trans (hb3.mono (by omega)))
  have ha := fun i (hi : i < (Sp.run d e n none l).length) => (unhide HANS).at hrowA i hi
  have hbb := fun i (hi : i < (Sp.run d e n none (l.take k)).length) => hans'.at hrow' i hi
  have hra : (Sp.run d e n none l).length = l.length := Sp.run_len _ _ _ _ _
  have hrb : (Sp.run d e n none (l.take k)).length = k := by rw [Sp.run_len, List.length_take]; have := unhide HM; omega
  have hml := unhide HM
  have HEQ : Hid (∀ i (hi : i < k), ∃ (u p : Nat) (v : Sp.By), w3.cell? ⟨A, i * 3, none⟩ = some (.int .i64 u) ∧ w3.cell? ⟨A, i * 3 + 1, none⟩ = some (.int .i64 p) ∧ w3.cell? ⟨A, i * 3 + 2, none⟩ = some (.string ⟨v.toArray⟩) ∧
    w3.cell? ⟨B, i * 3, none⟩ = some (.int .i64 u) ∧ w3.cell? ⟨B, i * 3 + 1, none⟩ = some (.int .i64 p) ∧ w3.cell? ⟨B, i * 3 + 2, none⟩ = some (.string ⟨v.toArray⟩)) := by
   intro i hi
   have hi1 : i < (Sp.run d e n none l).length := by omega
   have hi2 : i < (Sp.run d e n none (l.take k)).length := by omega
   obtain ⟨a1, a2, a3⟩ := ha i hi1
   obtain ⟨b1, b2, b3⟩ := hbb i hi2
   have he : (Sp.run d e n none (l.take k))[i] = (Sp.run d e n none l)[i] := by simp [Sp.run_take]
   rw [he] at b1 b2 b3
   exact ⟨_, _, _, a1, a2, a3, b1, b2, b3⟩
  clear ha hbb hra hrb hml hrowA hrow' hans' y0 y1 y2 HROW HANS HRUN hb3
  go_wp2_with (fail)
  go_loopw [11] (fun i wr => ∃ j : Nat, j ≤ k ∧ i = .int .i64 j ∧ ∃ q, wr = w3.drewN q) (fun i _ => k - (intOf i).toNat)
  case atStart => exact ⟨0, by omega, rfl, 0, rfl⟩
  case round =>
   obtain ⟨j, hj, rfl, q, rfl⟩ := hrel
   by_cases hlt : j < k
   ·obtain ⟨u, p, v, a1, a2, a3, b1, b2, b3⟩ := unhide HEQ j hlt
    go_wp2_with (fail)
    go_quiet (fail)
    go_wp2_with (fail)
    exact ⟨⟨j + 1, by omega, by go_num, _, rfl⟩, by simp [intOf]; omega⟩
   ·go_wp2_with (fail)
    go_ret
    have hb3 := unhide HB3
    exact ⟨rfl, ⟨hb3.os, hb3.tape, hb3.output, hb3.size, hb3.block⟩⟩)
set_option maxRecDepth 100000 in
set_option maxHeartbeats 8000000 in
theorem Prefix_nil {d e n c : Int} {pa : Option Addr} {cap : Nat} {w : World} (hpa : pa = none → cap = 0) (hcm : cap ≤ maxLen) (hT : Laid w)
  (h0 : -9223372036854775808 ≤ c) (h1 : c ≤ 9223372036854775807) :
  Calls Tryz.prog 6 #[.agg #[.int .i64 d, .int .i64 e, .int .i64 n], .slice pa 0 cap, .int .i64 c] w fun x w' => x = .returned (.bool true) ∧ Below w.heap.size w w' := by
 have HT := hide hT
 have hng := hT.ng
 have hcb : (cap : Int) ≤ 9223372036854775807 := by unfold maxLen at hcm; omega
 have hz : (w.alloc (.cells #[.int .i64 d, .int .i64 e, .int .i64 n] 23)).heap[w.heap.size]? = some (.cells #[.int .i64 d, .int .i64 e, .int .i64 n] 23 (0, 0)) := heap_new _ _ _ rfl
 have hba : Below w.heap.size w (w.alloc (.cells #[.int .i64 d, .int .i64 e, .int .i64 n] 23)) := (Below.refl _ _).alloc (Nat.le_refl _) _
 clear hT
 have hgo : ∀ (pa : Option Addr) (cap : Nat), Hid (cap ≤ maxLen) → Hid ((cap : Int) ≤ 9223372036854775807) → (pa = none ∧ cap = 0 ∨ ∃ a, pa = some a) → Calls Tryz.prog 6 #[.agg #[.int .i64 d, .int .i64 e, .int .i64 n], .slice pa 0 cap, .int .i64 c] w fun x w' => x = .returned (.bool true) ∧ Below w.heap.size w w' := by
  intro pa cap Hcm Hcb hcase
  clear hcb hcm hpa
  have hcb := unhide Hcb
  rcases hcase with ⟨rfl, rfl⟩ | ⟨a, rfl⟩
  all_goals (
   go_enter Tryz.func6, Tryz.ntmps6
   go_wp2_with (fail)
   refine (loading_any _ ((unhide HT).below (hba.mono hng))).mono ?_
   rintro x w1 ⟨rfl, hb1⟩
   have hz1 := (hb1.block w.heap.size (by simp)).trans hz
   have hb01 : Below w.heap.size w w1 := hba.trans (hb1.mono hba.size)
   have HB1 := hide hb01
   have hs1 : w.heap.size < w1.heap.size := (Array.getElem?_eq_some_iff.1 hz1).1
   have z0 : w1.cell? ⟨w.heap.size, 0, none⟩ = some (.int .i64 d) := by simp [World.cell?, hz1]
   have z1 : w1.cell? ⟨w.heap.size, 1, none⟩ = some (.int .i64 e) := by simp [World.cell?, hz1]
   have z2 : w1.cell? ⟨w.heap.size, 2, none⟩ = some (.int .i64 n) := by simp [World.cell?, hz1]
   clear hb1 hb01 hz1
   go_wp2_with (fail)
   refine (pick_any c 1 h0 h1 (by omega) (by omega) w1).mono ?_
   rintro x w1' ⟨⟨k, hk, rfl⟩, rfl⟩
   obtain rfl : k = 0 := by omega
   go_wp2_with (fail)
   refine Run_nil.mono ?_
   rintro x w2 ⟨A, cs, rfl, hA, hrow, hans, hb2⟩
   have y0 := (hb2.cell (p := ⟨w.heap.size, 0, none⟩) hs1).trans z0
   have y1 := (hb2.cell (p := ⟨w.heap.size, 1, none⟩) hs1).trans z1
   have y2 := (hb2.cell (p := ⟨w.heap.size, 2, none⟩) hs1).trans z2
   have HB2 := hide ((unhide HB1).trans (hb2.mono (by omega)))
   have hs2 : w.heap.size < w2.heap.size := by have := hb2.size; omega
   clear z0 z1 z2 hrow hans hb2
   go_wp2_with (fail)
   go_region_with (go_at_call 24; refine Run_nil.mono ?_; rintro x w3 ⟨B, cs', rfl, hB, hrow', hans', hb3⟩)
   all_goals (
    replace hb3 : Below w2.heap.size w2 w3 := ⟨hb3.os, hb3.tape, hb3.output, hb3.size, hb3.block⟩
    have HB3 := hide ((unhide HB2).trans (hb3.mono (by omega)))
    clear y0 y1 y2 hb3 hrow' hans'
    go_wp2_with (fail)
    refine wp_loop_rounds 1 ?_
    rw [rounds_succ]
    go_wp2_with (fail)
    go_ret
    exact ⟨rfl, unhide HB3⟩))
 refine hgo pa cap hcm hcb ?_
 cases pa with
 | none => exact Or.inl ⟨rfl, hpa rfl⟩
 | some a => exact Or.inr ⟨a, rfl⟩
end Go.Proofs.YtdpomdelmdofmaaGreatDoor

namespace Go.Proofs.YtdpomdelmdofmaaGreatDoor
open Go.ChangeShapes Go.WideShapes Go.ChangeAt Go.RowKit Go.Deep
set_option maxRecDepth 100000 in
theorem open_script {H : Type} {enc : TypeId × Value → H} {W : World} {base b0 : Nat} {r : Reach} {sp : Nat → Bool} {held : Bool} {v : Value} {d : DataW H} {p : List MemPlace}
  (hval : Value.okWide Tryz.prog W r b0 24 v) (h : DataW.Trod enc Tryz.prog W base sp held 24 v d p) :
  (∃ pa cap, v = .slice pa 0 cap ∧ (pa = none → cap = 0) ∧ cap ≤ maxLen) ∨
  ∃ (sb so m cap : Nat) (l : List Sp.St) (elems spare : List (DataW H)), v = .slice (some ⟨sb, so, none⟩) m cap ∧ m = l.length ∧ m ≤ cap ∧ cap ≤ maxLen ∧ Scr W sb so l ∧ sb < W.heap.size ∧ d = .slice elems spare ∧ elems.length = m := by
 obtain ⟨a0, len0, cap0, rfl⟩ := okWide_slice Tryz.underlying24 hval
 obtain ⟨fuel, hf⟩ := h
 have ce : Tryz.prog.cellsOf 49 = 3 := by kernel_rfl
 have c3 : Tryz.prog.cellsOf 3 = 1 := by kernel_rfl
 have c9 : Tryz.prog.cellsOf 9 = 1 := by kernel_rfl
 rcases open_slice Tryz.underlying24 hf with ⟨hcs, _⟩ | ⟨a, len, cap, m, n, D, Pl, hcs, hb, hl, hm, hmm, hx, hel⟩
 ·simp only [Value.cells, List.cons.injEq, Value.slice.injEq, and_true] at hcs
  obtain ⟨rfl, rfl, rfl⟩ := hcs
  exact Or.inl ⟨none, 0, rfl, fun _ => rfl, Nat.zero_le _⟩
 simp only [Value.cells, List.cons.injEq, Value.slice.injEq, and_true] at hcs
 obtain ⟨rfl, rfl, rfl⟩ := hcs
 rcases Nat.eq_zero_or_pos len0 with rfl | hpos
 ·exact Or.inl ⟨some a, cap0, rfl, (fun h => nomatch h), hm⟩
 right
 have hlm : len0 ≤ m := by rw [hmm]; split <;> omega
 have each : ∀ i, i < len0 → ∃ q : Sp.St, W.cell? (a.add (i * 3)) = some (.int .i64 q.1) ∧ W.cell? (a.add (i * 3 + 1)) = some (.string ⟨q.2.1.toArray⟩) ∧ W.cell? (a.add (i * 3 + 2)) = some (.string ⟨q.2.2.toArray⟩) := by
  intro i hi
  obtain ⟨cs', h1, h2⟩ := hel i (by omega)
  rw [ce] at h1
  obtain ⟨_, hlen, hcell⟩ := World.cells?_some h1
  obtain ⟨y0, y1, y2, k, _, _, g0, g1, g2⟩ := trod_struct3 Tryz.underlying49 h2
  match cs', hlen with
  | [v0, v1, v2], _ =>
   simp [c3, c9] at g0 g1 g2
   obtain ⟨z, e0, _, _⟩ := DataW.trod_int Tryz.underlying3 g0
   obtain ⟨s1, e1, _, _⟩ := DataW.trod_string Tryz.underlying9 g1
   obtain ⟨s2, e2, _, _⟩ := DataW.trod_string Tryz.underlying9 g2
   simp only [List.cons.injEq, and_true] at e0 e1 e2
   subst e0; subst e1; subst e2
   have k0 := hcell 0 (by omega)
   have k1 := hcell 1 (by omega)
   have k2 := hcell 2 (by omega)
   rw [add_add] at k0 k1 k2
   exact ⟨(z, s1.data.toList, s2.data.toList), by simpa using k0, by simpa using k1, by simpa using k2⟩
 obtain ⟨q, hq⟩ := choose_lt each
 obtain ⟨h0, _, _⟩ := hq 0 hpos
 have hs := World.cell?_spot h0
 have hlt := World.block_lt_of_cell? W _ h0
 obtain ⟨b, o, spot⟩ := a
 simp [Addr.add] at hs hlt
 subst hs
 refine ⟨b, o, len0, cap0, (List.range len0).map fun i => q i, _, _, rfl, by simp, hl, hm, fun i hi => ?_, hlt, (Prod.mk.inj hx).1, by simp⟩
 have hi' : i < len0 := by simpa using hi
 obtain ⟨k0, k1, k2⟩ := hq i hi'
 rw [add_plain] at k0 k1 k2
 simp only [List.getElem_map, List.getElem_range]
 exact ⟨k0, k1, k2⟩
set_option maxRecDepth 100000 in
theorem open_config {H : Type} {enc : TypeId × Value → H} {W : World} {base b0 : Nat} {r : Reach} {sp : Nat → Bool} {held : Bool} {v : Value} {d : DataW H} {p : List MemPlace}
  (hval : Value.okWide Tryz.prog W r b0 23 v) (h : DataW.Trod enc Tryz.prog W base sp held 23 v d p) :
  ∃ a b c : Int, v = .agg #[.int .i64 a, .int .i64 b, .int .i64 c] := by
 have ce : Tryz.prog.cellsOf 23 = 3 := by kernel_rfl
 have c3 : Tryz.prog.cellsOf 3 = 1 := by kernel_rfl
 obtain ⟨cs, rfl, hsz⟩ := okWide_struct Tryz.underlying23 hval
 obtain ⟨fuel, hf⟩ := h
 obtain ⟨y0, y1, y2, k, _, _, g0, g1, g2⟩ := trod_struct3 Tryz.underlying23 hf
 rw [ce] at hsz
 obtain ⟨l⟩ := cs
 match l, hsz with
 | [v0, v1, v2], _ =>
  simp [c3, Value.cells] at g0 g1 g2
  obtain ⟨z0, e0, _, _⟩ := DataW.trod_int Tryz.underlying3 g0
  obtain ⟨z1, e1, _, _⟩ := DataW.trod_int Tryz.underlying3 g1
  obtain ⟨z2, e2, _, _⟩ := DataW.trod_int Tryz.underlying3 g2
  simp only [List.cons.injEq, and_true] at e0 e1 e2
  subst e0; subst e1; subst e2
  exact ⟨z0, z1, z2, rfl⟩
end Go.Proofs.YtdpomdelmdofmaaGreatDoor
