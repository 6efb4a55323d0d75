/-
  Walks of the reference's (*Engine).Step, at GET and TEST.
-/
import Derived.Test.YtdpomdelmdofmaaGreatDoorPart39
import Derived.Test.YtdpomdelmdofmaaGreatDoorPart31
import Derived.Test.YtdpomdelmdofmaaGreatDoorPart32
namespace Go.Proofs.YtdpomdelmdofmaaGreatDoor
open Go.RowKit
def ANA (w : World) (g : Nat) (a : Sp.Ans) : Prop := w.heap[g]? = some (.cells #[.int .i64 a.1, .int .i64 a.2.1, .string ⟨a.2.2.toArray⟩] 46 (0, 0))
section
variable {w : World} {g : Nat} {a : Sp.Ans}
theorem ANA.c0 (h : ANA w g a) : w.cell? ⟨g, 0, none⟩ = some (.int .i64 a.1) := by simp [World.cell?, show w.heap[g]? = _ from h]
theorem ANA.c1 (h : ANA w g a) : w.cell? ⟨g, 1, none⟩ = some (.int .i64 a.2.1) := by simp [World.cell?, show w.heap[g]? = _ from h]
theorem ANA.c2 (h : ANA w g a) : w.cell? ⟨g, 2, none⟩ = some (.string ⟨a.2.2.toArray⟩) := by simp [World.cell?, show w.heap[g]? = _ from h]
theorem ANA.kept (h : ANA w g a) {w' : World} (e : w'.heap[g]? = w.heap[g]?) : ANA w' g a := e.trans h
end
section
variable {E : Nat} {d x n : Int} {p : Addr} {q : Value} {w : World} {F : Nat → Prop} {o : Sp.O}
set_option maxRecDepth 100000 in
set_option maxHeartbeats 8000000 in
theorem rStep_get (s t : Sp.By) (hn : s.length ≤ 1048576) (h : EB w E d x n (.pointer (some p)) q) (hrep : ORep top F w (.pointer (some p)) o) (hgo : Sp.goO top o) (hl : (Sp.can top (Sp.nrm top o)).length ≤ 80000) (hT : Laid w) :
  Calls Tryz.prog 39 #[.pointer (some ⟨E, 0, none⟩), .agg #[.int .i64 3, .string ⟨s.toArray⟩, .string ⟨t.toArray⟩], ansA (Sp.gotA (Sp.nrm top o) s)] w fun e w' => e = .returned (.bool true) ∧ Below w.heap.size w w' := by
 have hEl := h.lt
 obtain ⟨A, hA⟩ : ∃ A, A = Sp.gotA (Sp.nrm top o) s := ⟨_, rfl⟩
 obtain ⟨w1, hw1⟩ : ∃ w1, w1 = ((w.alloc (.cells #[.int .i64 3, .string ⟨s.toArray⟩, .string ⟨t.toArray⟩] 49)).alloc (.cells #[.int .i64 A.1, .int .i64 A.2.1, .string ⟨A.2.2.toArray⟩] 46)) := ⟨_, rfl⟩
 have hb1 : Below w.heap.size w w1 := by rw [hw1]; exact ((Below.refl _ _).alloc (Nat.le_refl _) _).alloc (by simp) _
 have ha1 : ANA w1 (w.heap.size + 1) A := by rw [hw1]; exact heap_new _ _ _ (by simp)
 have ho1 : w1.heap[w.heap.size]? = some (.cells #[.int .i64 3, .string ⟨s.toArray⟩, .string ⟨t.toArray⟩] 49 (0, 0)) := by
  rw [hw1]
  show ((w.heap.push _).push _)[w.heap.size]? = _
  simp [Array.getElem?_push]
 have hs1 : w.heap.size + 2 ≤ w1.heap.size := by rw [hw1]; simp
 have he1 := h.low hb1
 have e3 := he1.c3
 have o0 : w1.cell? ⟨w.heap.size, 0, none⟩ = some (.int .i64 3) := by simp [World.cell?, ho1]
 have o1 : w1.cell? ⟨w.heap.size, 1, none⟩ = some (.string ⟨s.toArray⟩) := by simp [World.cell?, ho1]
 have a0 := ha1.c0
 have a1 := ha1.c1
 have a2 := ha1.c2
 have HB1 := hide hb1
 have HA1 := hide ha1
 have hcall := hide (fun (W : World) (hW : Below w1.heap.size w1 W) => rGot_any s hn (he1.low hW) ((hrep.below hb1).below hW) hgo hl ((hT.below (hb1.mono hT.ng)).below (hW.mono (Nat.le_trans hT.ng hb1.size))))
 rw [← hA] at hcall ⊢
 have HW1 := hide hw1
 clear h hb1 ha1 he1 hrep hgo hT hl hA ho1 hw1
 unfold ansA at hcall ⊢
 go_enter Tryz.func39, Tryz.ntmps39
 go_upto_region 1 with (fail)
 rw [← unhide HW1]
 go_upto_region 16 with (fail)
 go_region_with (go_at_call 47; refine (unhide hcall _ ?_).mono ?_; exact ⟨rfl, rfl, rfl, Nat.le_refl _, fun _ _ => rfl⟩; rintro e w4 ⟨rfl, hb4⟩; have b0 := (hb4.cell (p := ⟨w.heap.size + 1, 0, none⟩) (show w.heap.size + 1 < w1.heap.size by omega)).trans a0; have b1 := (hb4.cell (p := ⟨w.heap.size + 1, 1, none⟩) (show w.heap.size + 1 < w1.heap.size by omega)).trans a1; have b2 := (hb4.cell (p := ⟨w.heap.size + 1, 2, none⟩) (show w.heap.size + 1 < w1.heap.size by omega)).trans a2)
 all_goals (
  have hb4' : Below w1.heap.size w1 w4 := ⟨hb4.os, hb4.tape, hb4.output, hb4.size, hb4.block⟩
  have HB4 := hide hb4'
  clear hb4 hb4' b0 b1 b2
  go_wp2_with (fail)
  go_ret
  exact ⟨by first | kernel_rfl | simp, (unhide HB1).trans ((unhide HB4).mono (unhide HB1).size)⟩)
set_option maxRecDepth 100000 in
set_option maxHeartbeats 8000000 in
theorem rStep_test (s t : Sp.By) (hn : s.length ≤ 1048576) (h : EB w E d x n (.pointer (some p)) q) (hrep : ORep top F w (.pointer (some p)) o) (hgo : Sp.goO top o) (hl : (Sp.can top (Sp.nrm top o)).length ≤ 80000) (hd : 1 ≤ d ∧ d ≤ 20) (hx : 0 ≤ x ∧ x ≤ 400) (hT : Laid w) :
  Calls Tryz.prog 39 #[.pointer (some ⟨E, 0, none⟩), .agg #[.int .i64 4, .string ⟨s.toArray⟩, .string ⟨t.toArray⟩], ansV (Sp.tst d x (Sp.nrm top o) s t) []] w fun e w' => e = .returned (.bool true) ∧ Below w.heap.size w w' := by
 have hEl := h.lt
 obtain ⟨A, hA⟩ : ∃ A, A = Sp.tst d x (Sp.nrm top o) s t := ⟨_, rfl⟩
 obtain ⟨w1, hw1⟩ : ∃ w1, w1 = ((w.alloc (.cells #[.int .i64 4, .string ⟨s.toArray⟩, .string ⟨t.toArray⟩] 49)).alloc (.cells #[.int .i64 A, .int .i64 0, .string ⟨([] : Sp.By).toArray⟩] 46)) := ⟨_, rfl⟩
 have hb1 : Below w.heap.size w w1 := by rw [hw1]; exact ((Below.refl _ _).alloc (Nat.le_refl _) _).alloc (by simp) _
 have ha1 : AN w1 (w.heap.size + 1) A [] := by rw [hw1]; exact heap_new _ _ _ (by simp)
 have ho1 : w1.heap[w.heap.size]? = some (.cells #[.int .i64 4, .string ⟨s.toArray⟩, .string ⟨t.toArray⟩] 49 (0, 0)) := by
  rw [hw1]
  show ((w.heap.push _).push _)[w.heap.size]? = _
  simp [Array.getElem?_push]
 have hs1 : w.heap.size + 2 ≤ w1.heap.size := by rw [hw1]; simp
 have he1 := h.low hb1
 have e3 := he1.c3
 have o0 : w1.cell? ⟨w.heap.size, 0, none⟩ = some (.int .i64 4) := by simp [World.cell?, ho1]
 have o1 : w1.cell? ⟨w.heap.size, 1, none⟩ = some (.string ⟨s.toArray⟩) := by simp [World.cell?, ho1]
 have o2 : w1.cell? ⟨w.heap.size, 2, none⟩ = some (.string ⟨t.toArray⟩) := by simp [World.cell?, ho1]
 have a0 := ha1.c0
 have a1 := ha1.c1
 have a2 := ha1.c2
 have HB1 := hide hb1
 have hcall := hide (fun (W : World) (hW : Below w1.heap.size w1 W) => rTested_any s t hn (he1.low hW) ((hrep.below hb1).below hW) hgo hl hd hx ((hT.below (hb1.mono hT.ng)).below (hW.mono (Nat.le_trans hT.ng hb1.size))))
 have HNO := hide (fun (k : Nat) (w : World) => rNo_any k w)
 rw [← hA] at hcall ⊢
 have HW1 := hide hw1
 clear h hb1 ha1 he1 hrep hgo hT hl hA ho1 hw1 hd hx
 unfold ansV at HNO ⊢
 go_enter Tryz.func39, Tryz.ntmps39
 go_upto_region 1 with (fail)
 rw [← unhide HW1]
 go_upto_region 18 with (fail)
 go_region_with (first
  | (go_at_call 48; refine (unhide hcall _ ?_).mono ?_; exact ⟨rfl, rfl, rfl, Nat.le_refl _, fun _ _ => rfl⟩; rintro e w4 ⟨rfl, hb4⟩; have b0 := (hb4.cell (p := ⟨w.heap.size + 1, 0, none⟩) (show w.heap.size + 1 < w1.heap.size by omega)).trans a0; have b1 := (hb4.cell (p := ⟨w.heap.size + 1, 1, none⟩) (show w.heap.size + 1 < w1.heap.size by omega)).trans a1; have b2 := (hb4.cell (p := ⟨w.heap.size + 1, 2, none⟩) (show w.heap.size + 1 < w1.heap.size by omega)).trans a2; have hs4 : w.heap.size + 1 < w4.heap.size := Nat.lt_of_lt_of_le (show w.heap.size + 1 < w1.heap.size by omega) hb4.size)
  | (go_at_call 38; refine (unhide HNO A _).mono ?_; rintro e w5 ⟨rfl, hb5⟩; have f0 := (hb5.cell (p := ⟨w.heap.size + 1, 0, none⟩) hs4).trans b0; have f1 := (hb5.cell (p := ⟨w.heap.size + 1, 1, none⟩) hs4).trans b1; have f2 := (hb5.cell (p := ⟨w.heap.size + 1, 2, none⟩) hs4).trans b2))
 all_goals (
  have hb4' : Below w1.heap.size w1 w4 := ⟨hb4.os, hb4.tape, hb4.output, hb4.size, hb4.block⟩
  have hb5' : Below w4.heap.size w4 w5 := ⟨hb5.os, hb5.tape, hb5.output, hb5.size, hb5.block⟩
  have HB5 := hide (hb4'.trans (hb5'.mono hb4'.size))
  clear hb4 hb4' hb5 hb5' b0 b1 b2 f0 f1 f2
  go_wp2_with (fail)
  go_ret
  exact ⟨by first | kernel_rfl | simp, (unhide HB1).trans ((unhide HB5).mono (unhide HB1).size)⟩)
end
end Go.Proofs.YtdpomdelmdofmaaGreatDoor

namespace Go.Proofs.YtdpomdelmdofmaaGreatDoor
open Go.RowKit
set_option maxRecDepth 100000 in
set_option maxHeartbeats 8000000 in
theorem rStep_nodoc {E : Nat} {d x n : Int} {q : Value} {w : World} (k : Int) (s t : ByteArray) (hk : 1 < k ∧ k ≤ 9) (h : EB w E d x n (.pointer none) q) :
  Calls Tryz.prog 39 #[.pointer (some ⟨E, 0, none⟩), .agg #[.int .i64 k, .string s, .string t], ansV 3 []] w fun e w' => e = .returned (.bool true) ∧ Below w.heap.size w w' := by
 have hEl := h.lt
 have hb1 : Below w.heap.size w ((w.alloc (.cells #[.int .i64 k, .string s, .string t] 49)).alloc (.cells #[.int .i64 3, .int .i64 0, .string ⟨#[]⟩] 46)) := ((Below.refl _ _).alloc (Nat.le_refl _) _).alloc (by simp) _
 have ha1 : AN ((w.alloc (.cells #[.int .i64 k, .string s, .string t] 49)).alloc (.cells #[.int .i64 3, .int .i64 0, .string ⟨#[]⟩] 46)) (w.heap.size + 1) 3 [] := heap_new _ _ _ (by simp)
 have he1 := h.low hb1
 have e3 := he1.c3
 have HB1 := hide hb1
 have HA1 := hide ha1
 have HNO := hide (fun (k : Nat) (w : World) => rNo_any k w)
 have k1 : decide (k < 1) = false := decide_eq_false (by omega)
 have k9 : decide (9 < k) = false := decide_eq_false (by omega)
 have k2 : (k != 1) = true := by rw [bne_iff_ne]; omega
 clear h hb1 ha1 he1 hk
 unfold ansV at HNO ⊢
 go_enter Tryz.func39, Tryz.ntmps39
 go_upto_region 4 with (fail)
 obtain ⟨w3, hw3⟩ : ∃ w3, w3 = ((w.alloc (.cells #[.int .i64 k, .string s, .string t] 49)).alloc (.cells #[.int .i64 3, .int .i64 0, .string ⟨#[]⟩] 46)) := ⟨_, rfl⟩
 have hs3 : w.heap.size + 1 < w3.heap.size := by rw [hw3]; simp
 have ha3 : AN w3 (w.heap.size + 1) 3 [] := by rw [hw3]; exact unhide HA1
 have hb3 : Below w.heap.size w w3 := by rw [hw3]; exact unhide HB1
 rw [← hw3]
 have HB3 := hide hb3
 have a0 := ha3.c0
 have a1 := ha3.c1
 have a2 := ha3.c2
 clear hw3 e3 ha3 hb3 HB1 HA1
 go_region_with (go_at_call 38; refine (unhide HNO 3 _).mono ?_; rintro e w4 ⟨rfl, hb4⟩; have b0 := (hb4.cell (p := ⟨w.heap.size + 1, 0, none⟩) (show w.heap.size + 1 < w3.heap.size by omega)).trans a0; have b1 := (hb4.cell (p := ⟨w.heap.size + 1, 1, none⟩) (show w.heap.size + 1 < w3.heap.size by omega)).trans a1; have b2 := (hb4.cell (p := ⟨w.heap.size + 1, 2, none⟩) (show w.heap.size + 1 < w3.heap.size by omega)).trans a2)
 all_goals (
  have hb4' : Below w3.heap.size w3 w4 := ⟨hb4.os, hb4.tape, hb4.output, hb4.size, hb4.block⟩
  have HB4 := hide hb4'
  clear hb4 hb4' b0 b1 b2
  go_wp2_with (fail)
  go_ret
  exact ⟨by kernel_rfl, (unhide HB3).trans ((unhide HB4).mono (unhide HB3).size)⟩)
def StepOk (d x n : Int) (o : Sp.St) : Prop := ∀ (E : Nat) (p q : Value) (od : Option Sp.O) (w : World), EB w E d x n p q → OD w E p od → Laid w →
 Calls Tryz.prog 39 #[.pointer (some ⟨E, 0, none⟩), .agg #[.int .i64 o.1, .string ⟨o.2.1.toArray⟩, .string ⟨o.2.2.toArray⟩], ansA (Sp.step d x n (docOf od) o).1] w fun e w' => OStep E d x n od o w e w'
theorem stepG_ok {d x n : Int} (o : Sp.St) (hk : o.1 = 1 ∨ o.1 = 2 ∨ o.1 = 3 ∨ o.1 = 4) (hn : o.2.1.length ≤ 1048576) (hc : Sp.cfg d x n = true) : StepOk d x n o := by
 intro E p q od w h hd hT
 obtain ⟨k, s, t⟩ := o
 simp only at hk hn
 by_cases h12 : k = 1 ∨ k = 2
 ·exact rStep_any k s t h12 h hd hc hT
 have h34 : k = 3 ∨ k = 4 := by omega
 obtain ⟨hdb, hxb⟩ := cfg_bd hc
 obtain ⟨pa, rfl⟩ := hd.ptr
 cases od with
 | none =>
  obtain rfl : pa = none := by injection hd
  have hst : Sp.step d x n (docOf none) (k, s, t) = ((3, 0, []), none) := by unfold Sp.step; rw [hc, if_pos rfl, if_neg (by simp only; omega), if_neg (by simp only; omega)]; rfl
  rw [hst]
  refine (rStep_nodoc k ⟨s.toArray⟩ ⟨t.toArray⟩ (by omega) h).mono ?_
  rintro e w' ⟨rfl, hb⟩
  exact ⟨rfl, KeptX.of_below hb, _, _, none, h.low hb, rfl, by rw [hst]; rfl⟩
 | some o =>
  obtain ⟨a, h1, h2, h3, h4⟩ := hd
  obtain rfl : pa = some a := by injection h1
  have hst : Sp.step d x n (docOf (some o)) (k, s, t) = (Sp.ask d x (Sp.nrm top o) (k, s, t), some (Sp.nrm top o, none)) := by unfold Sp.step; rw [hc, if_pos rfl, if_neg (by simp only; omega), if_neg (by simp only; omega)]; show (if k < 5 then _ else _) = _; rw [if_pos (by omega)]; rfl
  rw [hst]
  rcases h34 with rfl | rfl
  ·have hask : Sp.ask d x (Sp.nrm top o) (3, s, t) = Sp.gotA (Sp.nrm top o) s := by unfold Sp.ask; rw [if_neg (by simp), if_pos rfl]
   rw [hask]
   refine (rStep_get s t hn h h2 h3 h4 hT).mono ?_
   rintro e w' ⟨rfl, hb⟩
   exact ⟨rfl, KeptX.of_below hb, _, _, some o, h.low hb, ⟨a, rfl, h2.below hb, h3, h4⟩, by rw [hst]; rfl⟩
  ·have hask : Sp.ask d x (Sp.nrm top o) (4, s, t) = (Sp.tst d x (Sp.nrm top o) s t, 0, []) := by unfold Sp.ask; rw [if_neg (by simp), if_neg (by simp), if_pos rfl]
   rw [hask]
   refine (rStep_test s t hn h h2 h3 h4 hdb hxb hT).mono ?_
   rintro e w' ⟨rfl, hb⟩
   exact ⟨rfl, KeptX.of_below hb, _, _, some o, h.low hb, ⟨a, rfl, h2.below hb, h3, h4⟩, by rw [hst]; rfl⟩
def Gts (l : List Sp.St) : Prop := ∀ o ∈ l, (o.1 = 1 ∨ o.1 = 2 ∨ o.1 = 3 ∨ o.1 = 4) ∧ o.2.1.length ≤ 1048576
theorem Gts.plain {l : List Sp.St} (h : Gts l) : Plain l := fun o ho => by
 obtain ⟨h1, h2⟩ := h o ho
 by_cases h12 : o.1 < 3
 ·exact Or.inl (Or.inl h12)
 ·exact Or.inr (Or.inl ⟨by omega, get_ok, test_ok, h2⟩)
theorem gotA_at (v : Sp.V) (s : Sp.By) : (Sp.gotA v s).2.1 = 0 := by
 unfold Sp.gotA
 repeat' split
 all_goals rfl
theorem step_at0 (d x n : Int) (doc : Sp.Doc) (o : Sp.St) (h5 : o.1 < 5) : (Sp.step d x n doc o).1.2.1 = 0 := by
 unfold Sp.step
 simp only [if_pos h5]
 unfold Sp.ask
 repeat' split
 all_goals first | rfl | omega | exact gotA_at _ _ | (unfold Sp.ldd; split <;> rfl)
end Go.Proofs.YtdpomdelmdofmaaGreatDoor

namespace Go.Proofs.YtdpomdelmdofmaaGreatDoor
open Go.RowKit
set_option maxRecDepth 100000 in
set_option maxHeartbeats 16000000 in
theorem FitsG_good {d x n : Int} {sb so ab m cap : Nat} {l : List Sp.St} {cs : Array Value} {w : World} (hc : Sp.cfg d x n = true) (hs : Scr w sb so l) (hst : ∀ o ∈ l, StepOk d x n o) (hz0 : ∀ o ∈ l, ∀ doc : Sp.Doc, (Sp.step d x n doc o).1.2.1 = 0) (hm : m = l.length) (hcap : m ≤ cap) (hcm : cap ≤ maxLen)
  (hrow : w.heap[ab]? = some (.cells cs 46 (0, 0))) (hans : AnsC cs m (Sp.run d x n none l)) (hsb : sb < w.heap.size) (hT : Laid w) :
  Calls Tryz.prog 29 #[.agg #[.int .i64 d, .int .i64 x, .int .i64 n], .slice (some ⟨sb, so, none⟩) m cap, .slice (some ⟨ab, 0, none⟩) m m] w fun e w' => e = .returned (.bool true) ∧ Below w.heap.size w w' := by
 have hab : ab < w.heap.size := (Array.getElem?_eq_some_iff.1 hrow).1
 have hc2 := hc
 unfold Sp.cfg at hc2
 simp only [Bool.and_eq_true] at hc2
 obtain ⟨i1, i2, i3⟩ := hc2
 have hmb : (m : Int) ≤ 9223372036854775807 := by unfold maxLen at hcm; omega
 have hlen : (Sp.run d x n none l).length = m := by rw [Sp.run_len, hm]
 have HANS := hide (fun (k : Nat) (hk : k < (Sp.run d x n none l).length) => hans.at hrow k hk)
 have HLEN := hide hlen
 have HM := hide hm
 have HS := hide hs
 have HL := hide (And.intro hst hz0)
 have HT := hide hT
 have HC := hide hc
 have hng := hT.ng
 have hE0 : EB ((w.alloc (.cells #[.int .i64 d, .int .i64 x, .int .i64 n] 23)).alloc (.cells #[.int .i64 d, .int .i64 x, .int .i64 n, .pointer none, .pointer none] 68)) (w.heap.size + 1) d x n (.pointer none) (.pointer none) := heap_new _ _ _ (by simp)
 have hb0 : Below w.heap.size w ((w.alloc (.cells #[.int .i64 d, .int .i64 x, .int .i64 n] 23)).alloc (.cells #[.int .i64 d, .int .i64 x, .int .i64 n, .pointer none, .pointer none] 68)) := ((Below.refl _ _).alloc (Nat.le_refl _) _).alloc (by simp) _
 have HE0 := hide hE0
 have HB0 := hide hb0
 have HNO := hide (fun (k : Nat) (w : World) => rNo_any k w)
 unfold ansV at HNO
 clear hc hs hst hz0 hm hrow hans hT hlen hE0 hb0
 go_enter Tryz.func29, Tryz.ntmps29
 go_wp2_with (fail)
 refine (rIn_any d 1 20 _).mono ?_
 rintro e wA ⟨rfl, rfl⟩
 rw [i1]
 go_wp2_with (fail)
 refine (rIn_any x 0 400 _).mono ?_
 rintro e wA ⟨rfl, rfl⟩
 rw [i2]
 go_wp2_with (fail)
 refine (rIn_any n 0 2000 _).mono ?_
 rintro e wA ⟨rfl, rfl⟩
 rw [i3]
 go_wp2_with (fail)
 clear i1 i2 i3
 go_loopw [11] (fun i wr => ∃ (k : Nat) (p q : Value) (od : Option Sp.O), k ≤ m ∧ i = .int .i64 k ∧ EB wr (w.heap.size + 1) d x n p q ∧ OD wr (w.heap.size + 1) p od ∧ docOf od = Sp.docAfter d x n none (l.take k) ∧ Below w.heap.size w wr) (fun i _ => m - (intOf i).toNat)
 case atStart => exact ⟨0, .pointer none, .pointer none, none, by omega, rfl, unhide HE0, rfl, rfl, unhide HB0⟩
 case round =>
  obtain ⟨k, p, q, od, hk, rfl, heb, hod, hdoc, hbel⟩ := hrel
  by_cases hlt : k < m
  ·have hkl : k < l.length := by have := unhide HM; omega
   have hkr : k < (Sp.run d x n none l).length := by have := unhide HLEN; omega
   obtain ⟨q0, q1, q2⟩ := unhide HS k hkl
   obtain ⟨r0, r1, r2⟩ := unhide HANS k hkr
   rw [run_at d x n l none k hkl hkr, ← hdoc] at r0 r1 r2
   obtain ⟨o, ho⟩ : ∃ o, o = l[k] := ⟨_, rfl⟩
   rw [← ho] at q0 q1 q2 r0 r1 r2
   have hom : o ∈ l := by rw [ho]; exact List.getElem_mem hkl
   have hok := (unhide HL).1 o hom
   have hat0 : (Sp.step d x n (docOf od) o).1.2.1 = 0 := (unhide HL).2 o hom _
   rw [hat0] at r1
   obtain ⟨ct, hct⟩ : ∃ ct, ct = (Sp.step d x n (docOf od) o).1 := ⟨_, rfl⟩
   rw [← hct] at r0 r2 hat0
   have s0 := cell_low hbel _ _ hsb q0
   have s1 := cell_low hbel _ _ hsb q1
   have s2 := cell_low hbel _ _ hsb q2
   have a0 := cell_low hbel _ _ hab r0
   have a1 := cell_low hbel _ _ hab r1
   have a2 := cell_low hbel _ _ hab r2
   have hszr := hbel.size
   have hsbr : sb < wr.heap.size := by omega
   have habr : ab < wr.heap.size := by omega
   have HSTEP : Hid (∀ W : World, Below wr.heap.size wr W → Calls Tryz.prog 39 #[.pointer (some ⟨w.heap.size + 1, 0, none⟩), .agg #[.int .i64 o.1, .string ⟨o.2.1.toArray⟩, .string ⟨o.2.2.toArray⟩], .agg #[.int .i64 ct.1, .int .i64 0, .string ⟨ct.2.2.toArray⟩]] W fun e w' => OStep (w.heap.size + 1) d x n od o W e w') := by
    intro W hW
    have := hok _ _ _ _ W (heb.low hW) (hod.kept (KeptX.of_below hW)) ((unhide HT).below ((hbel.trans (hW.mono hszr)).mono hng))
    rw [← hct] at this
    unfold ansA at this
    rw [hat0] at this
    exact this
   have HDOC := hide hdoc
   have HBEL := hide hbel
   have HO := hide ho
   clear q0 q1 q2 r0 r1 r2 heb hod hdoc hbel hct hok ho hat0
   obtain ⟨c1, c0, c2⟩ := ct
   simp only at a0 a2 HSTEP
   go_upto_region 10 with (fail)
   go_cut [12] (fun s12 wx => (∃ b : Bool, s12 = .bool b) ∧ Below wr.heap.size wr wx)
   case first =>
    by_cases hc1 : c1 = 2
    ·subst hc1
     cases c2 with
     | nil =>
      go_region_with (go_at_call 38; refine (unhide HNO 2 _).mono ?_; rintro e w4 ⟨rfl, hb4⟩; have b0 := cell_low (a := wr) (w := w4) ⟨hb4.os, hb4.tape, hb4.output, hb4.size, hb4.block⟩ _ _ habr a0; have b1 := cell_low (a := wr) (w := w4) ⟨hb4.os, hb4.tape, hb4.output, hb4.size, hb4.block⟩ _ _ habr a1; have b2 := cell_low (a := wr) (w := w4) ⟨hb4.os, hb4.tape, hb4.output, hb4.size, hb4.block⟩ _ _ habr a2)
      all_goals (
       go_wp2_with (fail)
       go_meet
       exact ⟨⟨_, rfl⟩, ⟨hb4.os, hb4.tape, hb4.output, hb4.size, hb4.block⟩⟩)
     | cons z zs =>
      go_region_with (go_at_call 38; refine (unhide HNO 2 _).mono ?_; rintro e w4 ⟨rfl, hb4⟩; have b0 := cell_low (a := wr) (w := w4) ⟨hb4.os, hb4.tape, hb4.output, hb4.size, hb4.block⟩ _ _ habr a0; have b1 := cell_low (a := wr) (w := w4) ⟨hb4.os, hb4.tape, hb4.output, hb4.size, hb4.block⟩ _ _ habr a1; have b2 := cell_low (a := wr) (w := w4) ⟨hb4.os, hb4.tape, hb4.output, hb4.size, hb4.block⟩ _ _ habr a2)
      all_goals (
       go_wp2_with (fail)
       go_meet
       exact ⟨⟨_, rfl⟩, ⟨hb4.os, hb4.tape, hb4.output, hb4.size, hb4.block⟩⟩)
    ·have hc1' : ((c1 : Int) == 2) = false := by rw [beq_eq_false_iff_ne]; omega
     clear hc1
     go_region_with (go_at_call 38; refine (unhide HNO 2 _).mono ?_; rintro e w4 ⟨rfl, hb4⟩; have b0 := cell_low (a := wr) (w := w4) ⟨hb4.os, hb4.tape, hb4.output, hb4.size, hb4.block⟩ _ _ habr a0; have b1 := cell_low (a := wr) (w := w4) ⟨hb4.os, hb4.tape, hb4.output, hb4.size, hb4.block⟩ _ _ habr a1; have b2 := cell_low (a := wr) (w := w4) ⟨hb4.os, hb4.tape, hb4.output, hb4.size, hb4.block⟩ _ _ habr a2)
     all_goals (
      go_wp2_with (fail)
      go_meet
      exact ⟨⟨_, rfl⟩, ⟨hb4.os, hb4.tape, hb4.output, hb4.size, hb4.block⟩⟩)
   case rest =>
   obtain ⟨⟨b, rfl⟩, hbc⟩ := hcut
   have t0 := cell_low hbc _ _ hsbr s0
   have t1 := cell_low hbc _ _ hsbr s1
   have t2 := cell_low hbc _ _ hsbr s2
   have b0 := cell_low hbc _ _ habr a0
   have b1 := cell_low hbc _ _ habr a1
   have b2 := cell_low hbc _ _ habr a2
   have HBC := hide hbc
   clear s0 s1 s2 a0 a1 a2 hbc
   go_upto_region 12 with (fail)
   go_region_with (go_at_call 39; refine (unhide HSTEP _ ?_).mono ?_; exact ⟨(unhide HBC).os, (unhide HBC).tape, (unhide HBC).output, (unhide HBC).size, (unhide HBC).block⟩; rintro e w5 ⟨rfl, hk5, hex⟩)
   all_goals (
    obtain ⟨p', q', od', he5, hd5, hdoc5⟩ := hex
    have hwc : Below w.heap.size w wc.drew := by
     have h := (unhide HBEL).trans ((unhide HBC).mono (unhide HBEL).size)
     exact ⟨h.os, h.tape, h.output, h.size, h.block⟩
    have hb5 : Below w.heap.size w w5 := hwc.trans (hk5.below (Nat.le_succ _) hwc.size)
    have hdoc6 : docOf od' = Sp.docAfter d x n none (l.take (k + 1)) := by
     rw [List.take_succ_eq_append_getElem hkl, Sp.after_snoc, ← unhide HDOC, ← unhide HO]; exact hdoc5
    have HE5 := hide he5
    have HD5 := hide hd5
    have HDOC6 := hide hdoc6
    have HB5 := hide hb5
    clear he5 hd5 hdoc5 hdoc6 hb5 hwc hk5 t0 t1 t2 b0 b1 b2
    go_wp2_with (fail)
    go_roundw
    case rel => (repeat apply Exists.intro); exact ⟨show k + 1 ≤ m by omega, by go_num, unhide HE5, unhide HD5, unhide HDOC6, unhide HB5⟩
    case measure => simp only [intOf]; omega)
  ·go_wp2_with (fail)
   go_ret
   exact ⟨rfl, hbel⟩
end Go.Proofs.YtdpomdelmdofmaaGreatDoor

namespace Go.Proofs.YtdpomdelmdofmaaGreatDoor
open Go.RowKit
set_option maxRecDepth 100000 in
set_option maxHeartbeats 8000000 in
theorem runsG_ok {d x n : Int} {B : Nat} {sl : Value} {L3 : List Tri} {w : World} (hown : w.ownsRow B 49 3 sl L3.length (flat3 L3)) (hl : Gts (L3.map prT)) (hmx : L3.length * 40 ≤ 140737488355328) (hT : Laid w) :
  Calls Tryz.prog 15 #[.agg #[.int .i64 d, .int .i64 x, .int .i64 n], sl] w fun e w' => e = .returned (.bool true) ∧ Below w.heap.size w w' := by
 have hba : Below w.heap.size w (w.alloc (.cells #[.int .i64 d, .int .i64 x, .int .i64 n] 23)) := (Below.refl _ _).alloc (Nat.le_refl _) _
 have hng := hT.ng
 have hz : (w.alloc (.cells #[.int .i64 d, .int .i64 x, .int .i64 n] 23)).heap[w.heap.size]? = some (.cells #[.int .i64 d, .int .i64 x, .int .i64 n] 23 (0, 0)) := heap_new _ _ _ rfl
 have HZ := hide hz
 have HBA := hide hba
 have HT := hide (hT.below (hba.mono hng))
 by_cases h0 : L3.length = 0
 ·have hz : ∃ a c, sl = .slice a 0 c := by
   rcases hown.2 with ⟨e, _⟩ | ⟨g, cap, cur, e, _⟩
   ·exact ⟨none, 0, e⟩
   ·exact ⟨_, cap, by rw [e, h0]⟩
  obtain ⟨a, c, rfl⟩ := hz
  clear hown hl hT hba hz
  go_enter Tryz.func15, Tryz.ntmps15
  go_wp2_with (fail)
  refine (Run_nil (d := d) (e := x) (n := n)).mono ?_
  rintro e w2 ⟨A, cs, rfl, hA, hrow, hans, hb2⟩
  have hs2 := hb2.size
  have q := (hb2.block w.heap.size (by simp)).trans (unhide HZ)
  have q0 : w2.cell? ⟨w.heap.size, 0, none⟩ = some (.int .i64 d) := by simp [World.cell?, q]
  have q1 : w2.cell? ⟨w.heap.size, 1, none⟩ = some (.int .i64 x) := by simp [World.cell?, q]
  have q2 : w2.cell? ⟨w.heap.size, 2, none⟩ = some (.int .i64 n) := by simp [World.cell?, q]
  have HB2 := hide ((unhide HBA).trans (hb2.mono (unhide HBA).size))
  clear hrow hans hb2 q
  go_wp2_with (fail)
  refine (Fits_nil).mono ?_
  rintro e w3 ⟨rfl, hb3⟩
  have HB3 := hide ((unhide HB2).trans (hb3.mono (unhide HB2).size))
  clear hb3
  go_wp2_with (fail)
  go_ret
  exact ⟨rfl, unhide HB3⟩
 ·obtain ⟨g, cap, rfl, _, hcap2⟩ : ∃ g cap, sl = .slice (some ⟨g, 0, none⟩) L3.length cap ∧ L3.length ≤ cap ∧ cap ≤ maxLen := by
   rcases hown.2 with ⟨_, e⟩ | ⟨g, cap, cur, e, _, _, h4, h5, _⟩
   ·exact absurd e h0
   ·exact ⟨g, cap, e, h4, h5⟩
  obtain ⟨hscr, hg, hcap⟩ := scr_of hown (by omega)
  obtain ⟨N, hN⟩ : ∃ N, N = L3.length := ⟨_, rfl⟩
  rw [← hN] at hcap hmx h0 hown ⊢
  have hlen : N = (L3.map prT).length := by rw [hN]; simp
  have HS := hide hscr
  have HL := hide hl
  have HLEN := hide hlen
  clear hown hl hT hba hN hscr hz hlen
  go_enter Tryz.func15, Tryz.ntmps15
  go_wp2_with (fail)
  refine (Run_some (d := d) (e := x) (n := n) (l := L3.map prT) ((unhide HS).low (unhide HBA) hg) (unhide HL).plain (unhide HLEN) (by omega) hcap (by omega) (by have := (unhide HBA).size; omega) (unhide HT)).mono ?_
  rintro e w2 ⟨A, cs, rfl, hA, hrow, hans, hb2⟩
  have hs2 := hb2.size
  have q := (hb2.block w.heap.size (by simp)).trans (unhide HZ)
  have q0 : w2.cell? ⟨w.heap.size, 0, none⟩ = some (.int .i64 d) := by simp [World.cell?, q]
  have q1 : w2.cell? ⟨w.heap.size, 1, none⟩ = some (.int .i64 x) := by simp [World.cell?, q]
  have q2 : w2.cell? ⟨w.heap.size, 2, none⟩ = some (.int .i64 n) := by simp [World.cell?, q]
  have hbw := (unhide HBA).trans (hb2.mono (unhide HBA).size)
  have HB2 := hide hbw
  have hA2 : A < w2.heap.size := (Array.getElem?_eq_some_iff.1 hrow).1
  have HFIT : Hid (Calls Tryz.prog 29 #[.agg #[.int .i64 d, .int .i64 x, .int .i64 n], .slice (some ⟨g, 0, none⟩) N cap, .slice (some ⟨A, 0, none⟩) N N] w2 fun e w' => e = .returned (.bool true) ∧ Below w2.heap.size w2 w') := by
   cases hc : Sp.cfg d x n with
   | true => exact FitsG_good hc ((unhide HS).low hbw hg) (fun o ho => stepG_ok o ((unhide HL) o ho).1 ((unhide HL) o ho).2 hc) (fun o ho doc => step_at0 _ _ _ doc o (by have := ((unhide HL) o ho).1; omega)) (unhide HLEN) hcap hcap2 hrow hans (by have := hbw.size; omega) ((unhide HT).below (hb2.mono (unhide HT).ng))
   | false =>
    have han : ∀ k, k < N → w2.cell? ⟨A, k * 3, none⟩ = some (.int .i64 2) ∧ w2.cell? ⟨A, k * 3 + 1, none⟩ = some (.int .i64 0) ∧ w2.cell? ⟨A, k * 3 + 2, none⟩ = some (.string ⟨#[]⟩) := by
     intro k hk
     have hkl : k < (L3.map prT).length := by have := unhide HLEN; omega
     have hkr : k < (Sp.run d x n none (L3.map prT)).length := by rw [Sp.run_len]; exact hkl
     have h := hans.at hrow k hkr
     rw [run_bad hc _ none k hkl hkr] at h
     exact h
    unfold Sp.cfg at hc
    cases i1 : Sp.inB d 1 20 with
    | false => exact Fits_bad1 i1 hcap hcap2 han hA2
    | true =>
     cases i2 : Sp.inB x 0 400 with
     | false => exact Fits_bad2 i1 i2 hcap hcap2 han hA2
     | true =>
      rw [i1, i2] at hc
      exact Fits_bad3 i1 i2 (by simpa using hc) hcap hcap2 han hA2
  clear hrow hans hb2 q hbw
  go_wp2_with (fail)
  refine (unhide HFIT).mono ?_
  rintro e w3 ⟨rfl, hb3⟩
  have HB3 := hide ((unhide HB2).trans (hb3.mono (unhide HB2).size))
  clear hb3
  go_wp2_with (fail)
  go_ret
  exact ⟨rfl, unhide HB3⟩
end Go.Proofs.YtdpomdelmdofmaaGreatDoor
