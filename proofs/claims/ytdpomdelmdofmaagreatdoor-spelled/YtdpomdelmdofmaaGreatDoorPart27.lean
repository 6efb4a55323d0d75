/-
  Run of no step; walks of the statement's own pick, step, told.
  What the statement's own script of loading is answered.
  Walk of the statement's own loading.
-/
import Derived.Test.YtdpomdelmdofmaaGreatDoorPart26
namespace Go.Proofs.YtdpomdelmdofmaaGreatDoor
open Go.RowKit

set_option maxRecDepth 100000 in
set_option maxHeartbeats 4000000 in
theorem Run_nil {d e n : Int} {pa : Option Addr} {cap : Nat} {w : World} :
    Calls Tryz.prog 24 #[.agg #[.int .i64 d, .int .i64 e, .int .i64 n], .slice pa 0 cap] w fun x w' => ∃ A cs, x = .returned (.slice (some ⟨A, 0, none⟩) 0 0) ∧ w.heap.size ≤ A ∧ w'.heap[A]? = some (.cells cs 46 (0, 0)) ∧ AnsC cs 0 (Sp.run d e n none []) ∧ Below w.heap.size w w' := by
  have hmk : ∀ W : World, (Instr.makeSlice 43 (.int .i64 0) (.int .i64 0)).run Tryz.prog W = .ok (.slice (some ⟨W.heap.size, 0, none⟩) 0 0) (W.alloc (.cells (madeCells #[.int .i64 0, .int .i64 0, .string ⟨#[]⟩] 0) 46)) := fun W => by simpa using ans_make 0 (by omega) W
  go_enter Tryz.func24, Tryz.ntmps24
  go_wp2_with (fail)
  refine wp_loop_rounds 1 ?_
  rw [rounds_succ]
  go_wp2_with (fail)
  go_ret
  refine ⟨w.heap.size + 1, madeCells #[.int .i64 0, .int .i64 0, .string ⟨#[]⟩] 0, rfl, by omega, ?_, ⟨size_madeCells _ _, fun i hi => absurd hi (by simp [Sp.run])⟩, (((Below.refl _ w).alloc (Nat.le_refl _) _).alloc (by simp) _).alloc (by simp; omega) _⟩
  show (((w.heap.push _).push _).push _)[w.heap.size + 1]? = _
  simp only [Array.getElem?_push, Array.size_push]
  rw [if_neg (by omega), if_pos trivial]

set_option maxHeartbeats 1000000 in
theorem pick_any (c : Int) (m : Nat) (h0 : -9223372036854775808 ≤ c) (h1 : c ≤ 9223372036854775807) (hm : 0 < m) (hm2 : m ≤ 4611686018427387904) (w : World) :
    Calls Tryz.prog 23 #[.int .i64 c, .int .i64 m] w fun x w' => (∃ k : Nat, k < m ∧ x = .returned (.int .i64 k)) ∧ w' = w := by
  by_cases hc : c < 0
  · have e1 : decide (c < 0) = true := by simpa using hc
    go_enter Tryz.func23, Tryz.ntmps23
    go_wp2_with (fail)
    go_ret
    have e2 : -(c + 1).tmod (m : Int) = (-(c + 1)) % (m : Int) := by
      rw [← Int.neg_tmod, Int.tmod_eq_emod_of_nonneg (by omega)]
    have e3 := Int.emod_nonneg (-(c + 1)) (show (m : Int) ≠ 0 by omega)
    have e4 := Int.emod_lt_of_pos (-(c + 1)) (show (0 : Int) < m by omega)
    refine ⟨⟨((-(c + 1)) % (m : Int)).toNat, by omega, ?_⟩, rfl⟩
    rw [e2, Int.toNat_of_nonneg e3]
    rfl
  · have e1 : decide (c < 0) = false := by simpa using hc
    go_enter Tryz.func23, Tryz.ntmps23
    go_wp2_with (fail)
    go_ret
    have e3 := Int.emod_nonneg c (show (m : Int) ≠ 0 by omega)
    have e4 := Int.emod_lt_of_pos c (show (0 : Int) < m by omega)
    refine ⟨⟨(c % (m : Int)).toNat, by omega, ?_⟩, rfl⟩
    rw [Int.toNat_of_nonneg e3]
    rfl

set_option maxHeartbeats 1000000 in
theorem kstep_any (k : Int) (s t : ByteArray) (w : World) : Calls Tryz.prog 26 #[.int .i64 k, .string s, .string t] w fun x w' => x = .returned (.agg #[.int .i64 k, .string s, .string t]) ∧ Below w.heap.size w w' := by
  go_enter Tryz.func26, Tryz.ntmps26
  go_wp2_with (fail)
  refine bodyPost_ret (v := .agg #[.int .i64 k, .string s, .string t]) (by simp [results, Tryz.results26, go_sem]) rfl ⟨rfl, ?_⟩
  exact (Below.refl _ w).alloc (Nat.le_refl _) _

set_option maxHeartbeats 1000000 in
theorem told_yes (t : Sp.By) (w : World) : Calls Tryz.prog 30 #[ansV 0 t, .string ⟨t.toArray⟩] w fun x w' => x = .returned (.bool true) ∧ Below w.heap.size w w' := by
  unfold ansV
  go_enter Tryz.func30, Tryz.ntmps30
  go_wp2_with (fail)
  go_ret
  exact ⟨rfl, (Below.refl _ w).alloc (Nat.le_refl _) _⟩

end Go.Proofs.YtdpomdelmdofmaaGreatDoor

namespace Go.Proofs.YtdpomdelmdofmaaGreatDoor

def Sp.t1 : Sp.By := [32, 91, 49, 46, 48, 44, 32, 50, 93]
def Sp.t2 : Sp.By := [91, 49, 44, 50, 93]
def Sp.t3 : Sp.By := [91]
def Sp.ls : List Sp.St := [(1, Sp.t1, []), (2, [], []), (1, Sp.t3, []), (2, [], [])]
set_option maxRecDepth 100000 in
theorem read_t1 : Sp.readTo Sp.t1 3 9 = (0, some (Sp.vArr [Sp.vNum (false, [49], 0), Sp.vNum (false, [50], 0)])) := by kernel_rfl
set_option maxRecDepth 100000 in
theorem read_t3 : Sp.readTo Sp.t3 3 9 = (5, none) := by kernel_rfl
set_option maxRecDepth 100000 in
theorem can_t1 : Sp.can top (Sp.vArr [Sp.vNum (false, [49], 0), Sp.vNum (false, [50], 0)]) = Sp.t2 := by kernel_rfl

theorem run_ls : Sp.run 3 9 100 none Sp.ls = [(0, 0, []), (0, 0, Sp.t2), (5, 0, []), (0, 0, Sp.t2)] := by
  have hc : Sp.cfg 3 9 100 = true := by decide
  have s1 : ∀ doc, Sp.step 3 9 100 doc (1, Sp.t1, []) = ((0, 0, []), some (Sp.vArr [Sp.vNum (false, [49], 0), Sp.vNum (false, [50], 0)], none)) := fun doc => by
    unfold Sp.step; rw [hc, if_pos rfl, if_neg (by simp), if_pos rfl, read_t1]; rfl
  have s3 : ∀ doc, Sp.step 3 9 100 doc (1, Sp.t3, []) = ((5, 0, []), doc) := fun doc => by
    unfold Sp.step; rw [hc, if_pos rfl, if_neg (by simp), if_pos rfl, read_t3]; rfl
  have s2 : ∀ v, Sp.step 3 9 100 (some v) (2, [], []) = ((0, 0, Sp.can top v.1), some v) := fun v => by
    unfold Sp.step; rw [hc, if_pos rfl, if_neg (by simp), if_neg (by simp)]; rfl
  simp only [Sp.ls, Sp.run, s1, s2, s3, can_t1]

end Go.Proofs.YtdpomdelmdofmaaGreatDoor

namespace Go.Proofs.YtdpomdelmdofmaaGreatDoor
open Go.RowKit

def lsCells : Array Value := #[.int .i64 1, .string ⟨#[32, 91, 49, 46, 48, 44, 32, 50, 93]⟩, .string ⟨#[]⟩, .int .i64 2, .string ⟨#[]⟩, .string ⟨#[]⟩, .int .i64 1, .string ⟨#[91]⟩, .string ⟨#[]⟩, .int .i64 2, .string ⟨#[]⟩, .string ⟨#[]⟩]

theorem scr_ls {w : World} {g : Nat} (h : w.heap[g]? = some (.cells lsCells 49 (0, 0))) : Scr w g 0 Sp.ls := by
  intro i hi
  have hc : ∀ j, w.cell? ⟨g, j, none⟩ = lsCells[j]? := fun j => by simp [World.cell?, h]
  rw [hc, hc, hc]
  match i, hi with
  | 0, _ => exact ⟨rfl, rfl, rfl⟩
  | 1, _ => exact ⟨rfl, rfl, rfl⟩
  | 2, _ => exact ⟨rfl, rfl, rfl⟩
  | 3, _ => exact ⟨rfl, rfl, rfl⟩

theorem plain_ls : Plain Sp.ls := by
  intro o ho
  simp only [Sp.ls, List.mem_cons, List.not_mem_nil, or_false] at ho
  rcases ho with rfl | rfl | rfl | rfl <;> exact Or.inl (Or.inl (by decide))

set_option maxRecDepth 100000 in
set_option maxHeartbeats 4000000 in
theorem loading_any (w : World) (hT : Laid w) : Calls Tryz.prog 17 #[] w fun x w' => x = .returned (.bool true) ∧ Below w.heap.size w w' := by
  have HT := hide hT
  have hng := hT.ng
  clear hT
  go_enter Tryz.func17, Tryz.ntmps17
  go_wp2_with (fail)
  refine (kstep_any 1 _ _ _).mono ?_
  rintro x w1 ⟨rfl, hb1⟩
  go_wp2_with (fail)
  refine (kstep_any 2 _ _ _).mono ?_
  rintro x w2 ⟨rfl, hb2⟩
  go_wp2_with (fail)
  refine (kstep_any 1 _ _ _).mono ?_
  rintro x w3 ⟨rfl, hb3⟩
  go_wp2_with (fail)
  refine (kstep_any 2 _ _ _).mono ?_
  rintro x w4 ⟨rfl, hb4⟩
  have hb04 : Below w.heap.size w w4 := ((hb1.trans (hb2.mono hb1.size)).trans (hb3.mono (Nat.le_trans hb1.size hb2.size))).trans (hb4.mono (Nat.le_trans hb1.size (Nat.le_trans hb2.size hb3.size)))
  have HB4 := hide hb04
  have hs4 := hb04.size
  clear hb1 hb2 hb3 hb4 hb04
  go_wp2_with (fail)
  have hb5 : Below w.heap.size w (w4.alloc (.cells lsCells 49)) := (unhide HB4).alloc hs4 _
  refine (Run_some (d := 3) (e := 9) (n := 100) (sb := w4.heap.size) (so := 0) (m := 4) (cap := 4) (l := Sp.ls) (scr_ls (heap_new w4 _ _ rfl)) plain_ls rfl (by omega) (by omega) (by omega) (by simp) ((unhide HT).below (hb5.mono hng))).mono ?_
  rintro x w6 ⟨A, cs, rfl, hA, hrow, hans, hb6⟩
  rw [run_ls] at hans
  obtain ⟨hsz, hc⟩ := hans
  have q0 := hc 0 (by simp)
  have q1 := hc 1 (by simp)
  have q2 := hc 2 (by simp)
  have q3 := hc 3 (by simp)
  simp only [List.getElem_cons_zero, List.getElem_cons_succ] at q0 q1 q2 q3
  have hcell : ∀ j, w6.cell? ⟨A, j, none⟩ = cs[j]? := fun j => by simp [World.cell?, hrow]
  have g00 := (hcell 0).trans q0.1
  have g01 := (hcell 1).trans q0.2.1
  have g02 := (hcell 2).trans q0.2.2
  have g10 := (hcell 3).trans q1.1
  have g11 := (hcell 4).trans q1.2.1
  have g12 := (hcell 5).trans q1.2.2
  have g20 := (hcell 6).trans q2.1
  have g21 := (hcell 7).trans q2.2.1
  have g22 := (hcell 8).trans q2.2.2
  have g30 := (hcell 9).trans q3.1
  have g31 := (hcell 10).trans q3.2.1
  have g32 := (hcell 11).trans q3.2.2
  have hb06 : Below w.heap.size w w6 := hb5.trans (hb6.mono hb5.size)
  have HB6 := hide hb06
  have hA6 : A < w6.heap.size := (Array.getElem?_eq_some_iff.1 hrow).1
  clear q0 q1 q2 q3 hc hcell hrow hsz hb5 hb6 hb06
  go_wp2_with (fail)
  refine (told_yes [] w6).mono ?_
  rintro x w7 ⟨rfl, hb7⟩
  have k1 := (hb7.cell (p := ⟨A, 3, none⟩) hA6).trans g10
  have k2 := (hb7.cell (p := ⟨A, 4, none⟩) hA6).trans g11
  have k3 := (hb7.cell (p := ⟨A, 5, none⟩) hA6).trans g12
  have k4 := (hb7.cell (p := ⟨A, 6, none⟩) hA6).trans g20
  have k5 := (hb7.cell (p := ⟨A, 9, none⟩) hA6).trans g30
  have k6 := (hb7.cell (p := ⟨A, 10, none⟩) hA6).trans g31
  have k7 := (hb7.cell (p := ⟨A, 11, none⟩) hA6).trans g32
  have HB7 := hide ((unhide HB6).trans (hb7.mono (unhide HB6).size))
  have hA7 : A < w7.heap.size := Nat.lt_of_lt_of_le hA6 hb7.size
  clear g00 g01 g02 g10 g11 g12 g20 g21 g22 g30 g31 g32 hb7
  go_wp2_with (fail)
  refine (told_yes Sp.t2 w7).mono ?_
  rintro x w8 ⟨rfl, hb8⟩
  have m4 := (hb8.cell (p := ⟨A, 6, none⟩) hA7).trans k4
  have m5 := (hb8.cell (p := ⟨A, 9, none⟩) hA7).trans k5
  have m6 := (hb8.cell (p := ⟨A, 10, none⟩) hA7).trans k6
  have m7 := (hb8.cell (p := ⟨A, 11, none⟩) hA7).trans k7
  have HB8 := hide ((unhide HB7).trans (hb8.mono (unhide HB7).size))
  have hA8 : A < w8.heap.size := Nat.lt_of_lt_of_le hA7 hb8.size
  clear k1 k2 k3 k4 k5 k6 k7 hb8
  go_wp2_with (fail)
  refine (told_yes Sp.t2 w8).mono ?_
  rintro x w9 ⟨rfl, hb9⟩
  have n4 := (hb9.cell (p := ⟨A, 6, none⟩) hA8).trans m4
  have HB9 := hide ((unhide HB8).trans (hb9.mono (unhide HB8).size))
  clear m4 m5 m6 m7 hb9
  go_wp2_with (fail)
  go_ret
  exact ⟨rfl, unhide HB9⟩

end Go.Proofs.YtdpomdelmdofmaaGreatDoor
