/-
  Walk of the statement on first steps.
  Walk of the statement's own dumped: what a text says, loaded by itself.
  Walk of the statement on reading again what a document says.
-/
import Derived.Test.YtdpomdelmdofmaaGreatDoorPart27
namespace Go.Proofs.YtdpomdelmdofmaaGreatDoor
open Go.RowKit

theorem Scr.take {w : World} {sb so : Nat} {l : List Sp.St} (h : Scr w sb so l) (k : Nat) : Scr w sb so (l.take k) := by
  intro i hi
  have hi2 : i < l.length := by rw [List.length_take] at hi; omega
  have := h i hi2
  simpa using this
theorem Scr.low {w w' : World} {sb so B : Nat} {l : List Sp.St} (h : Scr w sb so l) (hb : Below B w w') (hs : sb < B) : Scr w' sb so l := by
  intro i hi
  obtain ⟨h1, h2, h3⟩ := h i hi
  exact ⟨(hb.cell (p := ⟨sb, _, none⟩) hs).trans h1, (hb.cell (p := ⟨sb, _, none⟩) hs).trans h2, (hb.cell (p := ⟨sb, _, none⟩) hs).trans h3⟩

/-- What Run leaves. -/
def RunEnd (m : Nat) (a : List Sp.Ans) (w : World) (x : Ending) (w' : World) : Prop := ∃ A cs, x = .returned (.slice (some ⟨A, 0, none⟩) m m) ∧ w.heap.size ≤ A ∧ w'.heap[A]? = some (.cells cs 46 (0, 0)) ∧ AnsC cs m a ∧ Below w.heap.size w w'

theorem Run_take {d e n : Int} {sb so k cap : Nat} {l : List Sp.St} {w : World} (hs : Scr w sb so l) (hpl : Plain l) (hk : k ≤ l.length) (hcap : k ≤ cap) (hb : k * 32 ≤ 281474976710656) (hsb : sb < w.heap.size) (hT : Laid w) :
    Calls Tryz.prog 24 #[.agg #[.int .i64 d, .int .i64 e, .int .i64 n], .slice (some ⟨sb, so, none⟩) k cap] w fun x w' => RunEnd k (Sp.run d e n none (l.take k)) w x w' := by
  by_cases h0 : k = 0
  · subst h0
    rw [List.take_zero]
    exact Run_nil
  · exact Run_some (hs.take k) (fun o ho => hpl o (List.mem_of_mem_take ho)) (by rw [List.length_take]; omega) (by omega) hcap hb hsb hT

theorem AnsC.at {w : World} {A n : Nat} {cs : Array Value} {a : List Sp.Ans} (h : AnsC cs n a) (hw : w.heap[A]? = some (.cells cs 46 (0, 0))) (i : Nat) (hi : i < a.length) :
    w.cell? ⟨A, i * 3, none⟩ = some (.int .i64 a[i].1) ∧ w.cell? ⟨A, i * 3 + 1, none⟩ = some (.int .i64 a[i].2.1) ∧ w.cell? ⟨A, i * 3 + 2, none⟩ = some (.string ⟨a[i].2.2.toArray⟩) := by
  have hcell : ∀ j, w.cell? ⟨A, j, none⟩ = cs[j]? := fun j => by simp [World.cell?, hw]
  rw [hcell, hcell, hcell]
  exact h.2 i hi

set_option maxRecDepth 100000 in
set_option maxHeartbeats 8000000 in
theorem Prefix_some {d e n c : Int} {sb so m cap : Nat} {l : List Sp.St} {w : World} (hs : Scr w sb so l) (hpl : Plain l) (hm : m = l.length) (hcap : m ≤ cap) (hb : m * 32 ≤ 281474976710656) (hcm : cap ≤ maxLen) (hsb : sb < w.heap.size) (hT : Laid w)
    (h0 : -9223372036854775808 ≤ c) (h1 : c ≤ 9223372036854775807) :
    Calls Tryz.prog 6 #[.agg #[.int .i64 d, .int .i64 e, .int .i64 n], .slice (some ⟨sb, so, none⟩) m cap, .int .i64 c] w fun x w' => x = .returned (.bool true) ∧ Below w.heap.size w w' := by
  have HPL := hide hpl
  have HM := hide hm
  have HS := hide hs
  have HT := hide hT
  have hng := hT.ng
  have hmb : (m : Int) ≤ 8796093022208 := by omega
  have hcb : (cap : Int) ≤ 9223372036854775807 := by unfold maxLen at hcm; omega
  have hz : (w.alloc (.cells #[.int .i64 d, .int .i64 e, .int .i64 n] 23)).heap[w.heap.size]? = some (.cells #[.int .i64 d, .int .i64 e, .int .i64 n] 23 (0, 0)) := heap_new _ _ _ rfl
  have hba : Below w.heap.size w (w.alloc (.cells #[.int .i64 d, .int .i64 e, .int .i64 n] 23)) := (Below.refl _ _).alloc (Nat.le_refl _) _
  clear hm hs hT hpl
  go_enter Tryz.func6, Tryz.ntmps6
  go_wp2_with (fail)
  refine (loading_any _ ((unhide HT).below (hba.mono hng))).mono ?_
  rintro x w1 ⟨rfl, hb1⟩
  have hz1 := (hb1.block w.heap.size (by simp)).trans hz
  have hb01 : Below w.heap.size w w1 := hba.trans (hb1.mono hba.size)
  have HB1 := hide hb01
  have hs1 : w.heap.size < w1.heap.size := (Array.getElem?_eq_some_iff.1 hz1).1
  have z0 : w1.cell? ⟨w.heap.size, 0, none⟩ = some (.int .i64 d) := by simp [World.cell?, hz1]
  have z1 : w1.cell? ⟨w.heap.size, 1, none⟩ = some (.int .i64 e) := by simp [World.cell?, hz1]
  have z2 : w1.cell? ⟨w.heap.size, 2, none⟩ = some (.int .i64 n) := by simp [World.cell?, hz1]
  clear hb1 hb01 hba hz
  go_wp2_with (fail)
  refine (pick_any c (m + 1) h0 h1 (by omega) (by omega) w1).mono ?_
  rintro x w1' ⟨⟨k, hk, rfl⟩, rfl⟩
  go_wp2_with (fail)
  have hrun := Run_take (d := d) (e := e) (n := n) (k := m) (cap := cap) ((unhide HS).low (unhide HB1) hsb) (unhide HPL) (Nat.le_of_eq (unhide HM)) hcap hb (by omega) ((unhide HT).below ((unhide HB1).mono hng))
  rw [List.take_of_length_le (Nat.le_of_eq (unhide HM).symm)] at hrun
  refine hrun.mono ?_
  rintro x w2 ⟨A, cs, rfl, hA, hrow, hans, hb2⟩
  have y0 := (hb2.cell (p := ⟨w.heap.size, 0, none⟩) hs1).trans z0
  have y1 := (hb2.cell (p := ⟨w.heap.size, 1, none⟩) hs1).trans z1
  have y2 := (hb2.cell (p := ⟨w.heap.size, 2, none⟩) hs1).trans z2
  have HB2 := hide ((unhide HB1).trans (hb2.mono (by omega)))
  have hs2 : w.heap.size < w2.heap.size := by have := hb2.size; omega
  have HROW := hide hrow
  have HANS := hide hans
  have hAl : A < w2.heap.size := (Array.getElem?_eq_some_iff.1 hrow).1
  have hkc : (k : Int) ≤ (cap : Int) := by omega
  have hkc2 : k ≤ cap := by omega
  clear z0 z1 z2 hz1 hrow hans hb2 hrun
  have HRUN := hide (fun (w0 : World) (h1 : Below w.heap.size w w0) => Run_take (d := d) (e := e) (n := n) (k := k) (cap := cap) ((unhide HS).low h1 hsb) (unhide HPL) (by have := unhide HM; omega) hkc2 (by omega) (by have := h1.size; omega) ((unhide HT).below (h1.mono hng)))
  go_wp2_with (fail)
  go_region_with (go_at_call 24; refine (unhide HRUN _ ?_).mono ?_; exact (unhide HB2).drew; rintro x w3 ⟨B, cs', rfl, hB, hrow', hans', hb3⟩)
  all_goals (
    replace hb3 : Below w2.heap.size w2 w3 := ⟨hb3.os, hb3.tape, hb3.output, hb3.size, hb3.block⟩
    replace hB : w2.heap.size ≤ B := hB
    have hrowA : w3.heap[A]? = some (.cells cs 46 (0, 0)) := (hb3.block A hAl).trans (unhide HROW)
    have HB3 := hide ((unhide HB2).trans (hb3.mono (by omega)))
    have ha := fun i (hi : i < (Sp.run d e n none l).length) => (unhide HANS).at hrowA i hi
    have hbb := fun i (hi : i < (Sp.run d e n none (l.take k)).length) => hans'.at hrow' i hi
    have hra : (Sp.run d e n none l).length = l.length := Sp.run_len _ _ _ _ _
    have hrb : (Sp.run d e n none (l.take k)).length = k := by rw [Sp.run_len, List.length_take]; have := unhide HM; omega
    have hml := unhide HM
    have HEQ : Hid (∀ i (hi : i < k), ∃ (u p : Nat) (v : Sp.By), w3.cell? ⟨A, i * 3, none⟩ = some (.int .i64 u) ∧ w3.cell? ⟨A, i * 3 + 1, none⟩ = some (.int .i64 p) ∧ w3.cell? ⟨A, i * 3 + 2, none⟩ = some (.string ⟨v.toArray⟩) ∧
        w3.cell? ⟨B, i * 3, none⟩ = some (.int .i64 u) ∧ w3.cell? ⟨B, i * 3 + 1, none⟩ = some (.int .i64 p) ∧ w3.cell? ⟨B, i * 3 + 2, none⟩ = some (.string ⟨v.toArray⟩)) := by
      intro i hi
      have hi1 : i < (Sp.run d e n none l).length := by omega
      have hi2 : i < (Sp.run d e n none (l.take k)).length := by omega
      obtain ⟨a1, a2, a3⟩ := ha i hi1
      obtain ⟨b1, b2, b3⟩ := hbb i hi2
      have he : (Sp.run d e n none (l.take k))[i] = (Sp.run d e n none l)[i] := by simp [Sp.run_take]
      rw [he] at b1 b2 b3
      exact ⟨_, _, _, a1, a2, a3, b1, b2, b3⟩
    clear ha hbb hra hrb hml hrowA hrow' hans' y0 y1 y2 HROW HANS HRUN hb3
    go_wp2_with (fail)
    go_loopw [11] (fun i wr => ∃ j : Nat, j ≤ k ∧ i = .int .i64 j ∧ ∃ q, wr = w3.drewN q) (fun i _ => k - (intOf i).toNat)
    case atStart => exact ⟨0, by omega, rfl, 0, rfl⟩
    case round =>
      obtain ⟨j, hj, rfl, q, rfl⟩ := hrel
      by_cases hlt : j < k
      · obtain ⟨u, p, v, a1, a2, a3, b1, b2, b3⟩ := unhide HEQ j hlt
        go_wp2_with (fail)
        go_quiet (fail)
        go_wp2_with (fail)
        exact ⟨⟨j + 1, by omega, by go_num, _, rfl⟩, by simp [intOf]; omega⟩
      · go_wp2_with (fail)
        go_ret
        have hb3 := unhide HB3
        exact ⟨rfl, ⟨hb3.os, hb3.tape, hb3.output, hb3.size, hb3.block⟩⟩)

set_option maxRecDepth 100000 in
set_option maxHeartbeats 8000000 in
theorem Prefix_nil {d e n c : Int} {pa : Option Addr} {cap : Nat} {w : World} (hpa : pa = none → cap = 0) (hcm : cap ≤ maxLen) (hT : Laid w)
    (h0 : -9223372036854775808 ≤ c) (h1 : c ≤ 9223372036854775807) :
    Calls Tryz.prog 6 #[.agg #[.int .i64 d, .int .i64 e, .int .i64 n], .slice pa 0 cap, .int .i64 c] w fun x w' => x = .returned (.bool true) ∧ Below w.heap.size w w' := by
  have HT := hide hT
  have hng := hT.ng
  have hcb : (cap : Int) ≤ 9223372036854775807 := by unfold maxLen at hcm; omega
  have hz : (w.alloc (.cells #[.int .i64 d, .int .i64 e, .int .i64 n] 23)).heap[w.heap.size]? = some (.cells #[.int .i64 d, .int .i64 e, .int .i64 n] 23 (0, 0)) := heap_new _ _ _ rfl
  have hba : Below w.heap.size w (w.alloc (.cells #[.int .i64 d, .int .i64 e, .int .i64 n] 23)) := (Below.refl _ _).alloc (Nat.le_refl _) _
  clear hT
  have hgo : ∀ (pa : Option Addr) (cap : Nat), Hid (cap ≤ maxLen) → Hid ((cap : Int) ≤ 9223372036854775807) → (pa = none ∧ cap = 0 ∨ ∃ a, pa = some a) → Calls Tryz.prog 6 #[.agg #[.int .i64 d, .int .i64 e, .int .i64 n], .slice pa 0 cap, .int .i64 c] w fun x w' => x = .returned (.bool true) ∧ Below w.heap.size w w' := by
    intro pa cap Hcm Hcb hcase
    clear hcb hcm hpa
    have hcb := unhide Hcb
    rcases hcase with ⟨rfl, rfl⟩ | ⟨a, rfl⟩
    all_goals (
      go_enter Tryz.func6, Tryz.ntmps6
      go_wp2_with (fail)
      refine (loading_any _ ((unhide HT).below (hba.mono hng))).mono ?_
      rintro x w1 ⟨rfl, hb1⟩
      have hz1 := (hb1.block w.heap.size (by simp)).trans hz
      have hb01 : Below w.heap.size w w1 := hba.trans (hb1.mono hba.size)
      have HB1 := hide hb01
      have hs1 : w.heap.size < w1.heap.size := (Array.getElem?_eq_some_iff.1 hz1).1
      have z0 : w1.cell? ⟨w.heap.size, 0, none⟩ = some (.int .i64 d) := by simp [World.cell?, hz1]
      have z1 : w1.cell? ⟨w.heap.size, 1, none⟩ = some (.int .i64 e) := by simp [World.cell?, hz1]
      have z2 : w1.cell? ⟨w.heap.size, 2, none⟩ = some (.int .i64 n) := by simp [World.cell?, hz1]
      clear hb1 hb01 hz1
      go_wp2_with (fail)
      refine (pick_any c 1 h0 h1 (by omega) (by omega) w1).mono ?_
      rintro x w1' ⟨⟨k, hk, rfl⟩, rfl⟩
      obtain rfl : k = 0 := by omega
      go_wp2_with (fail)
      refine Run_nil.mono ?_
      rintro x w2 ⟨A, cs, rfl, hA, hrow, hans, hb2⟩
      have y0 := (hb2.cell (p := ⟨w.heap.size, 0, none⟩) hs1).trans z0
      have y1 := (hb2.cell (p := ⟨w.heap.size, 1, none⟩) hs1).trans z1
      have y2 := (hb2.cell (p := ⟨w.heap.size, 2, none⟩) hs1).trans z2
      have HB2 := hide ((unhide HB1).trans (hb2.mono (by omega)))
      have hs2 : w.heap.size < w2.heap.size := by have := hb2.size; omega
      clear z0 z1 z2 hrow hans hb2
      go_wp2_with (fail)
      go_region_with (go_at_call 24; refine Run_nil.mono ?_; rintro x w3 ⟨B, cs', rfl, hB, hrow', hans', hb3⟩)
      all_goals (
        replace hb3 : Below w2.heap.size w2 w3 := ⟨hb3.os, hb3.tape, hb3.output, hb3.size, hb3.block⟩
        have HB3 := hide ((unhide HB2).trans (hb3.mono (by omega)))
        clear y0 y1 y2 hb3 hrow' hans'
        go_wp2_with (fail)
        refine wp_loop_rounds 1 ?_
        rw [rounds_succ]
        go_wp2_with (fail)
        go_ret
        exact ⟨rfl, unhide HB3⟩))
  refine hgo pa cap hcm hcb ?_
  cases pa with
  | none => exact Or.inl ⟨rfl, hpa rfl⟩
  | some a => exact Or.inr ⟨a, rfl⟩

end Go.Proofs.YtdpomdelmdofmaaGreatDoor

namespace Go.Proofs.YtdpomdelmdofmaaGreatDoor
open Go.RowKit

/-- the code of loading a text, and what is told then -/
def Sp.dmp (d e : Int) (t : Sp.By) : Nat × Sp.By := match Sp.readTo t d e with
  | (c, some v) => (c, Sp.can top v)
  | (c, none) => (c, [])
theorem run_dmp {d e n : Int} (hc : Sp.cfg d e n = true) (t : Sp.By) : ∃ k, Sp.run d e n none [(1, t, []), (2, [], [])] = [((Sp.dmp d e t).1, 0, []), (k, 0, (Sp.dmp d e t).2)] := by
  have s1 : Sp.step d e n none (1, t, []) = Sp.ldd (Sp.readTo t d e) none := by
    unfold Sp.step; rw [hc, if_pos rfl, if_neg (by simp), if_pos rfl]
  have s2 : ∀ v, Sp.step d e n (some v) (2, [], []) = ((0, 0, Sp.can top v.1), some v) := fun v => by
    unfold Sp.step; rw [hc, if_pos rfl, if_neg (by simp), if_neg (by simp)]; rfl
  have s3 : Sp.step d e n none (2, [], []) = ((3, 0, []), none) := by
    unfold Sp.step; rw [hc, if_pos rfl, if_neg (by simp), if_neg (by simp)]
  simp only [Sp.run, s1]
  unfold Sp.dmp
  match Sp.readTo t d e with
  | (c, some v) => exact ⟨0, by simp only [Sp.ldd, s2]⟩
  | (c, none) => exact ⟨3, by simp only [Sp.ldd, s3]⟩

theorem plain_dmp (t : Sp.By) : Plain [(1, t, []), (2, [], [])] := by
  intro o ho
  simp only [List.mem_cons, List.not_mem_nil, or_false] at ho
  rcases ho with rfl | rfl
  · exact Or.inl (Or.inl (show (1 : Int) < 3 by decide))
  · exact Or.inl (Or.inl (show (2 : Int) < 3 by decide))
def dmpCells (t : ByteArray) : Array Value := #[.int .i64 1, .string t, .string ⟨#[]⟩, .int .i64 2, .string ⟨#[]⟩, .string ⟨#[]⟩]
theorem scr_dmp {w : World} {g : Nat} {t : ByteArray} (h : w.heap[g]? = some (.cells (dmpCells t) 49 (0, 0))) : Scr w g 0 [(1, t.data.toList, []), (2, [], [])] := by
  intro i hi
  have hc : ∀ j, w.cell? ⟨g, j, none⟩ = (dmpCells t)[j]? := fun j => by simp [World.cell?, h]
  rw [hc, hc, hc]
  match i, hi with
  | 0, _ => exact ⟨rfl, by simp [dmpCells], rfl⟩
  | 1, _ => exact ⟨rfl, rfl, rfl⟩

theorem bel_any {B : Nat} {a w w' : World} (h : Below B a w) (e : w'.heap = w.heap := by rfl) (e1 : w'.os = w.os := by rfl) (e2 : w'.tape = w.tape := by rfl) (e3 : w'.output = w.output := by rfl) : Below B a w' :=
  ⟨e1.trans h.os, e2.trans h.tape, e3.trans h.output, by rw [e]; exact h.size, fun k hk => by rw [e]; exact h.block k hk⟩
theorem bel_from {B : Nat} {a a' w : World} (h : Below B a w) (e : a.heap = a'.heap := by rfl) (e1 : a.os = a'.os := by rfl) (e2 : a.tape = a'.tape := by rfl) (e3 : a.output = a'.output := by rfl) : Below B a' w :=
  ⟨h.os.trans e1, h.tape.trans e2, h.output.trans e3, by rw [← e]; exact h.size, fun k hk => by rw [← e]; exact h.block k hk⟩

set_option maxRecDepth 100000 in
set_option maxHeartbeats 8000000 in
theorem dumped_any {d e n : Int} (hc : Sp.cfg d e n = true) (t : ByteArray) (w : World) (hT : Laid w) :
    Calls Tryz.prog 19 #[.agg #[.int .i64 d, .int .i64 e, .int .i64 n], .string t] w fun x w' => x = .returned (.tuple #[.string ⟨(Sp.dmp d e t.data.toList).2.toArray⟩, .int .i64 (Sp.dmp d e t.data.toList).1]) ∧ Below w.heap.size w w' := by
  have HT := hide hT
  have hng := hT.ng
  have HC := hide hc
  have hz : (w.alloc (.cells #[.int .i64 d, .int .i64 e, .int .i64 n] 23)).heap[w.heap.size]? = some (.cells #[.int .i64 d, .int .i64 e, .int .i64 n] 23 (0, 0)) := heap_new _ _ _ rfl
  have hba : Below w.heap.size w (w.alloc (.cells #[.int .i64 d, .int .i64 e, .int .i64 n] 23)) := (Below.refl _ _).alloc (Nat.le_refl _) _
  clear hT hc
  go_enter Tryz.func19, Tryz.ntmps19
  go_wp2_with (fail)
  generalize w.alloc (.cells #[.int .i64 d, .int .i64 e, .int .i64 n] 23) = wa at *
  have hsa : w.heap.size < wa.heap.size := (Array.getElem?_eq_some_iff.1 hz).1
  have z0 : wa.cell? ⟨w.heap.size, 0, none⟩ = some (.int .i64 d) := by simp [World.cell?, hz]
  have z1 : wa.cell? ⟨w.heap.size, 1, none⟩ = some (.int .i64 e) := by simp [World.cell?, hz]
  have z2 : wa.cell? ⟨w.heap.size, 2, none⟩ = some (.int .i64 n) := by simp [World.cell?, hz]
  have HZ := hide hz
  have HBA := hide hba
  have HRUN : Hid (∀ (w0 : World) (g : Nat), Below w.heap.size w w0 → w0.heap[g]? = some (.cells (dmpCells t) 49 (0, 0)) → Calls Tryz.prog 24 #[.agg #[.int .i64 d, .int .i64 e, .int .i64 n], .slice (some ⟨g, 0, none⟩) 2 2] w0 fun x w' => RunEnd 2 (Sp.run d e n none [(1, t.data.toList, []), (2, [], [])]) w0 x w') := by
    intro w0 g h0 h1
    exact Run_some (d := d) (e := e) (n := n) (l := [(1, t.data.toList, []), (2, [], [])]) (m := 2) (cap := 2) (scr_dmp h1) (plain_dmp _) rfl (by decide) (by decide) (by decide) (Array.getElem?_eq_some_iff.1 h1).1 ((unhide HT).below (h0.mono hng))
  clear hz hba
  go_region_with (first
    | (go_at_call_of 26 t; refine (kstep_any 1 t _ _).mono ?_; rintro x w1 ⟨rfl, hb1⟩; have y0 := (hb1.cell (p := ⟨w.heap.size, 0, none⟩) hsa).trans z0; have y1 := (hb1.cell (p := ⟨w.heap.size, 1, none⟩) hsa).trans z1; have y2 := (hb1.cell (p := ⟨w.heap.size, 2, none⟩) hsa).trans z2; have hs1 := Nat.lt_of_lt_of_le hsa hb1.size)
    | (go_at_call 26; refine (kstep_any 2 _ _ _).mono ?_; rintro x w2 ⟨rfl, hb2⟩; have x0 := (hb2.cell (p := ⟨w.heap.size, 0, none⟩) hs1).trans y0; have x1 := (hb2.cell (p := ⟨w.heap.size, 1, none⟩) hs1).trans y1; have x2 := (hb2.cell (p := ⟨w.heap.size, 2, none⟩) hs1).trans y2; have hs2 := Nat.lt_of_lt_of_le hs1 hb2.size)
    | (go_at_call 24; refine (unhide HRUN _ _ ?_ ?_).mono ?_; exact bel_any ((((unhide HBA).trans (bel_from (hb1.mono (Nat.le_of_lt hsa)))).trans (bel_from (hb2.mono (Nat.le_of_lt hs1)))).alloc (Nat.le_of_lt hs2) _); exact heap_new _ _ _ rfl; rintro x w3 ⟨A, cs, rfl, hA, hrow, hans, hb3⟩; have hb4 := bel_any ((((unhide HBA).trans (bel_from (hb1.mono (Nat.le_of_lt hsa)))).trans (bel_from (hb2.mono (Nat.le_of_lt hs1)))).alloc (Nat.le_of_lt hs2) _) |>.trans (hb3.mono (Nat.le_trans (Nat.le_of_lt hs2) (by simp)))))
  all_goals (
    replace hb4 : Below w.heap.size w w3 := hb4
    have HB4 := hide hb4
    obtain ⟨k, hk⟩ := run_dmp (unhide HC) t.data.toList
    rw [hk] at hans
    obtain ⟨hsz, hc⟩ := hans
    have q0 := hc 0 (by simp)
    have q1 := hc 1 (by simp)
    simp only [List.getElem_cons_zero, List.getElem_cons_succ] at q0 q1
    have hcell : ∀ j, w3.cell? ⟨A, j, none⟩ = cs[j]? := fun j => by simp [World.cell?, hrow]
    have g00 := (hcell 0).trans q0.1
    have g12 := (hcell 5).trans q1.2.2
    clear q0 q1 hc hcell hrow hsz hb4 hb1 hb2 hb3 hk x0 x1 x2 y0 y1 y2 z0 z1 z2
    go_wp2_with (fail)
    go_quiet (fail)
    go_wp2_with (fail)
    go_ret2
    exact ⟨rfl, bel_any (unhide HB4)⟩)

end Go.Proofs.YtdpomdelmdofmaaGreatDoor

namespace Go.Proofs.YtdpomdelmdofmaaGreatDoor
open Go.RowKit

theorem dumped_is {d e n : Int} (hc : Sp.cfg d e n = true) {t s : ByteArray} {c : Nat} (h : Sp.dmp d e t.data.toList = (c, s.data.toList)) (w : World) (hT : Laid w) :
    Calls Tryz.prog 19 #[.agg #[.int .i64 d, .int .i64 e, .int .i64 n], .string t] w fun x w' => x = .returned (.tuple #[.string s, .int .i64 c]) ∧ Below w.heap.size w w' := by
  have h1 := dumped_any hc t w hT
  rw [h] at h1
  have : (⟨s.data.toList.toArray⟩ : ByteArray) = s := by simp
  simpa only [this] using h1
theorem read_two {t : Sp.By} {d x : Int} : (∃ c, Sp.readTo t d x = (c, none) ∧ 0 < c) ∨ ∃ v, Sp.readTo t d x = (0, some v) := by
  unfold Sp.readTo
  split
  · exact Or.inl ⟨4, rfl, by omega⟩
  · split
    · exact Or.inl ⟨5, rfl, by omega⟩
    · rename_i v r fl hv
      split
      · split
        · exact Or.inl ⟨6, rfl, by omega⟩
        · split
          · exact Or.inl ⟨7, rfl, by omega⟩
          · split
            · exact Or.inl ⟨8, rfl, by omega⟩
            · exact Or.inr ⟨v, rfl⟩
      · exact Or.inl ⟨5, rfl, by omega⟩

/-- what the three loadings tell -/
theorem dmp_three (d e : Int) (he0 : 0 ≤ e) (he : e ≤ 400) (t : ByteArray) : ∃ (c : Nat) (s : ByteArray), Sp.dmp d e t.data.toList = (c, s.data.toList) ∧ s.size ≤ 80000 ∧
    ((0 < c ∧ s = ⟨#[]⟩) ∨ (c = 0 ∧ Sp.scn (false, false) s.data.toList = some (false, false) ∧
      (s.size ≤ 1998 → Sp.dmp d e s.data.toList = (0, s.data.toList) ∧ Sp.dmp d e ((⟨#[32]⟩ ++ s) ++ ⟨#[10]⟩ : ByteArray).data.toList = (0, s.data.toList)))) := by
  rcases read_two (t := t.data.toList) (d := d) (x := e) with ⟨c, h, hc⟩ | ⟨v, h⟩
  · exact ⟨c, ⟨#[]⟩, by unfold Sp.dmp; rw [h], by decide, Or.inl ⟨hc, rfl⟩⟩
  · have hg := read_gd h
    have hb := read_bd h top
    have hsz : (⟨(Sp.can top v).toArray⟩ : ByteArray).size = (Sp.can top v).length := by rw [Lib.size_eq]
    refine ⟨0, ⟨(Sp.can top v).toArray⟩, by unfold Sp.dmp; rw [h], by omega, Or.inr ⟨rfl, scn_can _ _ _ hg, fun hl => ?_⟩⟩
    have r1 := reread hg he0 (by omega) [] [] (fun l => rfl) rfl (by intro c t e; cases e) (by simp; omega)
    have r2 := reread hg he0 (by omega) [32] [10] (fun l => rfl) rfl (by intro c t e; injection e with e1 e2; subst e1; exact ⟨by decide, by decide, by decide, by decide⟩) (by simp; omega)
    constructor
    · simp only [List.nil_append, List.append_nil] at r1
      unfold Sp.dmp
      rw [r1]
    · have e1 : ((⟨#[32]⟩ ++ ⟨(Sp.can top v).toArray⟩) ++ ⟨#[10]⟩ : ByteArray).data.toList = [32] ++ (Sp.can top v ++ [10]) := by simp
      rw [e1]
      unfold Sp.dmp
      rw [r2]

theorem stp_quote {c : UInt8} (h : c.toNat = 34) {b o : Bool} {st : Bool × Bool} (hs : Sp.stp (b, o) c = some st) : st = (if o then b else !b, false) := by
  obtain rfl : c = 34 := UInt8.toNat_inj.1 h
  cases b <;> cases o <;> (injection hs with hs; exact hs.symm)
theorem stp_other {c : UInt8} (h : ¬ c.toNat = 34) {b o : Bool} {st : Bool × Bool} (hs : Sp.stp (b, o) c = some st) : st = (b, c == 92 && !o) ∧ (c.toNat = 32 → b = true) ∧ 32 ≤ c.toNat := by
  have e : (c == 34) = false := by rw [ofNat_beq]; simpa using h
  unfold Sp.stp at hs
  simp only [e, Bool.false_and, Bool.false_eq_true, if_false] at hs
  split at hs
  · cases hs
  · rename_i hn
    injection hs with hs
    refine ⟨hs.symm, fun h2 => ?_, by omega⟩
    cases b with
    | true => rfl
    | false => exact absurd (Or.inr ⟨h2, rfl⟩) hn
theorem config_int (a b : Int) (ha0 : -9223372036854775808 ≤ a) (ha1 : a ≤ 9223372036854775807) (hb0 : -9223372036854775808 ≤ b) (hb1 : b ≤ 9223372036854775807) (w : World) :
    Calls Tryz.prog 18 #[.int .i64 a, .int .i64 b, .int .i64 0] w fun x w' => (∃ (d e n : Int), Sp.cfg d e n = true ∧ 0 ≤ e ∧ e ≤ 400 ∧ x = .returned (.agg #[.int .i64 d, .int .i64 e, .int .i64 n])) ∧ Below w.heap.size w w' := by
  refine (config_any a b ha0 ha1 hb0 hb1 w).mono ?_
  rintro x w' ⟨⟨d, e, n, hd, he, hn, rfl⟩, hb⟩
  exact ⟨⟨_, _, _, by simp [Sp.cfg, Sp.inB]; omega, by omega, by omega, rfl⟩, hb⟩

set_option maxRecDepth 100000 in
set_option maxHeartbeats 8000000 in
theorem Round_any {a b : Int} (ha0 : -9223372036854775808 ≤ a) (ha1 : a ≤ 9223372036854775807) (hb0 : -9223372036854775808 ≤ b) (hb1 : b ≤ 9223372036854775807) (t : ByteArray) (w : World) (hT : Laid w) :
    Calls Tryz.prog 4 #[.int .i64 a, .int .i64 b, .string t] w fun x w' => x = .returned (.bool true) ∧ Below w.heap.size w w' := by
  have HT := hide hT
  have hng := hT.ng
  clear hT
  go_enter Tryz.func4, Tryz.ntmps4
  go_wp2_with (fail)
  refine (loading_any _ (unhide HT)).mono ?_
  rintro x w1 ⟨rfl, hb1'⟩
  have HB1 := hide hb1'
  have hs1 := hb1'.size
  clear hb1'
  go_wp2_with (fail)
  refine (config_int a b ha0 ha1 hb0 hb1 _).mono ?_
  rintro x w2 ⟨⟨d, e, n, hc, he0, he1, rfl⟩, hb2⟩
  have HC := hide hc
  have HB2 := hide (((unhide HB1).trans (hb2.mono hs1)).alloc (Nat.le_trans hs1 hb2.size) (.cells #[.int .i64 d, .int .i64 e, .int .i64 n] 23))
  have hs2 : w.heap.size ≤ w2.heap.size := Nat.le_trans hs1 hb2.size
  have hz : (w2.alloc (.cells #[.int .i64 d, .int .i64 e, .int .i64 n] 23)).heap[w2.heap.size]? = some (.cells #[.int .i64 d, .int .i64 e, .int .i64 n] 23 (0, 0)) := heap_new _ _ _ rfl
  obtain ⟨c, s, hd1, hss, hcase⟩ := dmp_three d e he0 he1 t
  have HD1 := hide hd1
  have HCS := hide hcase
  clear hb2 hc hd1 hcase he0 he1 HB1
  go_wp2_with (fail)
  generalize w2.alloc (.cells #[.int .i64 d, .int .i64 e, .int .i64 n] 23) = w3 at *
  refine (dumped_is (unhide HC) (unhide HD1) _ ((unhide HT).below ((unhide HB2).mono hng))).mono ?_
  rintro x w4 ⟨rfl, hb4⟩
  have hs3 : w2.heap.size < w3.heap.size := (Array.getElem?_eq_some_iff.1 hz).1
  have HB4 := hide ((unhide HB2).trans (hb4.mono (by omega)))
  have hs4 : w2.heap.size < w4.heap.size := Nat.lt_of_lt_of_le hs3 hb4.size
  have hz4 : w4.heap[w2.heap.size]? = some (.cells #[.int .i64 d, .int .i64 e, .int .i64 n] 23 (0, 0)) := (hb4.block _ hs3).trans hz
  have z0 : w4.cell? ⟨w2.heap.size, 0, none⟩ = some (.int .i64 d) := by simp [World.cell?, hz4]
  have z1 : w4.cell? ⟨w2.heap.size, 1, none⟩ = some (.int .i64 e) := by simp [World.cell?, hz4]
  have z2 : w4.cell? ⟨w2.heap.size, 2, none⟩ = some (.int .i64 n) := by simp [World.cell?, hz4]
  clear hb4 hz hz4
  rcases unhide HCS with ⟨hpos, rfl⟩ | ⟨rfl, hscn, htwo⟩
  · have e0 : ((c : Int) != 0) = true := by simp; omega
    clear hpos
    go_wp2_with (fail)
    go_ret
    exact ⟨rfl, bel_any (unhide HB4)⟩
  · have HSC := hide hscn
    have HTW := hide htwo
    clear hscn htwo
    by_cases hl : s.size ≤ 1998
    · obtain ⟨h2, h3⟩ := unhide HTW hl
      have HD2 := hide h2
      have HD3 := hide h3
      clear h2 h3
      have e1 : decide ((1998 : Int) < (s.size : Int)) = false := by simp; omega
      go_wp2_with (fail)
      refine (dumped_is (unhide HC) (unhide HD2) _ ((unhide HT).below ((unhide HB4).mono hng))).mono ?_
      rintro x w5 ⟨rfl, hb5⟩
      have HB5 := hide ((unhide HB4).trans (hb5.mono (by omega)))
      have hs5 : w2.heap.size < w5.heap.size := Nat.lt_of_lt_of_le hs4 hb5.size
      have y0 := (hb5.cell (p := ⟨w2.heap.size, 0, none⟩) hs4).trans z0
      have y1 := (hb5.cell (p := ⟨w2.heap.size, 1, none⟩) hs4).trans z1
      have y2 := (hb5.cell (p := ⟨w2.heap.size, 2, none⟩) hs4).trans z2
      clear hb5 z0 z1 z2 HB4 HCS HTW HD1 HD2
      go_wp2_with (fail)
      refine (dumped_is (unhide HC) (unhide HD3) _ ((unhide HT).below ((unhide HB5).mono hng))).mono ?_
      rintro x w6 ⟨rfl, hb6⟩
      have HB6 := hide ((unhide HB5).trans (hb6.mono (by omega)))
      clear hb6 y0 y1 y2 HB5 HD3
      go_wp2_with (fail)
      go_loopw [15, 16] (fun ins i wr => ∃ (k : Nat) (b o : Bool), k ≤ s.size ∧ i = .int .i64 k ∧ ins = .bool b ∧ Sp.scn (false, false) (s.data.toList.take k) = some (b, o) ∧ Below w.heap.size w wr) (fun _ i _ => s.size - (intOf i).toNat)
      case atStart => exact ⟨0, false, false, by omega, rfl, rfl, rfl, unhide HB6⟩
      case round =>
        obtain ⟨k, b, o, hk, rfl, rfl, hsn, hbel⟩ := hrel
        have HBEL := hide hbel
        clear hbel
        by_cases hlt : k < s.size
        · have hkl : k < s.data.toList.length := by simpa using hlt
          have hodd : o = decide (Sp.trB (s.data.toList.take k) % 2 = 1) := scn_odd _ (unhide HSC) k _ (by omega) hsn
          obtain ⟨st', hst, hsn'⟩ := scn_next _ _ (unhide HSC) k hkl hsn
          have hst3 : Sp.stp (b, o) (s[k]'hlt) = some st' := hst
          have HSN := hide hsn'
          have HODD := hide hodd
          have HST := hide hst3
          clear hsn hodd hst hst3 hsn' hkl
          have hnlt := (s[k]'hlt).toNat_lt
          by_cases h34 : s[k].toNat = 34
          · have f34 : ((s[k].toNat : Int) == 34) = true := by rw [h34]; rfl
            have f32 : ((s[k].toNat : Int) == 32) = false := by rw [h34]; rfl
            have flt : decide ((s[k].toNat : Int) < 32) = false := by rw [h34]; rfl
            have H34 := hide h34
            clear h34
            go_wp2_with (fail)
            refine (escaped_any s k hk hss _).mono ?_
            rintro x w7 ⟨rfl, hb7⟩
            have HB7 := hide ((unhide HBEL).trans (hb7.mono (unhide HBEL).size))
            rw [← unhide HODD]
            clear hb7
            have hst := stp_quote (unhide H34) (unhide HST)
            have HST2 := hide hst
            clear hst
            cases o with
            | true =>
              have HS3 := hide (unhide HST2)
              go_wp2_with (fail)
              exact ⟨⟨k + 1, b, false, by omega, by go_num, rfl, (unhide HSN).trans (congrArg some (unhide HS3)), bel_any (unhide HB7)⟩, by simp [intOf]; omega⟩
            | false =>
              have HS3 := hide (unhide HST2)
              go_wp2_with (fail)
              exact ⟨⟨k + 1, !b, false, by omega, by go_num, rfl, (unhide HSN).trans (congrArg some (unhide HS3)), bel_any (unhide HB7)⟩, by simp [intOf]; omega⟩
          · have f34 : ((s[k].toNat : Int) == 34) = false := by simp; omega
            obtain ⟨hst, h32, h31⟩ := stp_other h34 (unhide HST)
            have flt : decide ((s[k].toNat : Int) < 32) = false := by simp; omega
            have HST2 := hide hst
            have H32 := hide h32
            clear h34 hst h32 h31
            by_cases hb : s[k].toNat = 32
            · have f32 : ((s[k].toNat : Int) == 32) = true := by rw [hb]; rfl
              obtain rfl := unhide H32 hb
              clear hb
              go_wp2_with (fail)
              exact ⟨⟨k + 1, true, _, by omega, by go_num, rfl, (unhide HSN).trans (congrArg some (unhide HST2)), bel_any (unhide HBEL)⟩, by simp [intOf]; omega⟩
            · have f32 : ((s[k].toNat : Int) == 32) = false := by simp; omega
              clear hb
              go_wp2_with (fail)
              exact ⟨⟨k + 1, b, _, by omega, by go_num, rfl, (unhide HSN).trans (congrArg some (unhide HST2)), bel_any (unhide HBEL)⟩, by simp [intOf]; omega⟩
        · have hke : k = s.size := by omega
          have hfull : s.data.toList.take k = s.data.toList := List.take_of_length_le (by simp; omega)
          rw [hfull, unhide HSC] at hsn
          injection hsn with hsn
          injection hsn with h1 h2
          subst h1
          clear h2 hfull hke
          go_wp2_with (fail)
          go_ret
          exact ⟨rfl, bel_any (unhide HBEL)⟩
    · have e1 : decide ((1998 : Int) < (s.size : Int)) = true := by simp; omega
      go_wp2_with (fail)
      go_ret
      exact ⟨rfl, bel_any (unhide HB4)⟩

end Go.Proofs.YtdpomdelmdofmaaGreatDoor
