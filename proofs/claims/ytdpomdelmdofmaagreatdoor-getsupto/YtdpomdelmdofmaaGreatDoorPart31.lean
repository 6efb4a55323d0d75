/-
  Walks of the reference's in, no, (*Engine).read.
-/
import Derived.Test.YtdpomdelmdofmaaGreatDoorPart30
import Derived.Test.YtdpomdelmdofmaaGreatDoorPart20
namespace Go.Proofs.YtdpomdelmdofmaaGreatDoor
open Go.RowKit
set_option maxHeartbeats 1000000 in
theorem rIn_any (n a b : Int) (w : World) : Calls Tryz.prog 37 #[.int .i64 n, .int .i64 a, .int .i64 b] w fun e w' => e = .returned (.bool (Sp.inB n a b)) ∧ w' = w := by
 by_cases h1 : a ≤ n
 ·by_cases h2 : n ≤ b
  ·have e1 : decide (a ≤ n) = true := by simpa using h1
   have e2 : decide (n ≤ b) = true := by simpa using h2
   have HE := hide (show Sp.inB n a b = true by unfold Sp.inB; rw [e1, e2]; rfl)
   clear h1 h2
   go_enter Tryz.func37, Tryz.ntmps37
   go_wp2_with (fail)
   go_ret
   exact ⟨by rw [unhide HE]; rfl, rfl⟩
  ·have e1 : decide (a ≤ n) = true := by simpa using h1
   have e2 : decide (n ≤ b) = false := by simpa using h2
   have HE := hide (show Sp.inB n a b = false by unfold Sp.inB; rw [e1, e2]; rfl)
   clear h1 h2
   go_enter Tryz.func37, Tryz.ntmps37
   go_wp2_with (fail)
   go_ret
   exact ⟨by rw [unhide HE]; rfl, rfl⟩
 ·have e1 : decide (a ≤ n) = false := by simpa using h1
  have HE := hide (show Sp.inB n a b = false by unfold Sp.inB; rw [e1]; rfl)
  clear h1
  go_enter Tryz.func37, Tryz.ntmps37
  go_wp2_with (fail)
  go_ret
  exact ⟨by rw [unhide HE]; rfl, rfl⟩
set_option maxHeartbeats 1000000 in
theorem rNo_any (c : Nat) (w : World) : Calls Tryz.prog 38 #[.int .i64 c] w fun x w' => x = .returned (ansV c []) ∧ Below w.heap.size w w' := by
 unfold ansV
 go_enter Tryz.func38, Tryz.ntmps38
 go_wp2_with (fail)
 refine bodyPost_ret (v := .agg #[.int .i64 c, .int .i64 0, .string ⟨([] : Sp.By).toArray⟩]) (by simp [results, Tryz.results38, go_sem]) rfl ⟨rfl, ?_⟩
 exact (Below.refl _ w).alloc (Nat.le_refl _) _
def EB (w : World) (E : Nat) (d x n : Int) (p q : Value) : Prop := w.heap[E]? = some (.cells #[.int .i64 d, .int .i64 x, .int .i64 n, p, q] 68 (0, 0))
section
variable {w : World} {E : Nat} {d x n : Int} {p q : Value}
theorem EB.lt (h : EB w E d x n p q) : E < w.heap.size := (Array.getElem?_eq_some_iff.1 h).1
theorem EB.c0 (h : EB w E d x n p q) : w.cell? ⟨E, 0, none⟩ = some (.int .i64 d) := by simp [World.cell?, show w.heap[E]? = _ from h]
theorem EB.c1 (h : EB w E d x n p q) : w.cell? ⟨E, 1, none⟩ = some (.int .i64 x) := by simp [World.cell?, show w.heap[E]? = _ from h]
theorem EB.c3 (h : EB w E d x n p q) : w.cell? ⟨E, 3, none⟩ = some p := by simp [World.cell?, show w.heap[E]? = _ from h]
theorem EB.c4 (h : EB w E d x n p q) : w.cell? ⟨E, 4, none⟩ = some q := by simp [World.cell?, show w.heap[E]? = _ from h]
theorem EB.fz (h : EB w E d x n p q) (o : Nat) : w.frozen? ⟨E, o, none⟩ = false := by simp [World.frozen?, show w.heap[E]? = _ from h]
theorem EB.low {w' : World} (h : EB w E d x n p q) (hb : Below w.heap.size w w') : EB w' E d x n p q := (hb.block E h.lt).trans h
theorem EB.set3 (h : EB w E d x n p q) (u : Value) : EB (w.setCell ⟨E, 3, none⟩ u) E d x n u q := by unfold EB at h ⊢; rw [row_set h]; rfl
theorem EB.set4 (h : EB w E d x n p q) (u : Value) : EB (w.setCell ⟨E, 4, none⟩ u) E d x n p u := by unfold EB at h ⊢; rw [row_set h]; rfl
end
theorem RfEnd.form {s : Sp.By} {d x : Int} {w w' : World} {e : Ending} (h : RfEnd s d x w e w') : ∃ (p : Option Addr) (c : Nat), e = .returned (.tuple #[.pointer p, .int .i64 c]) := by
 rcases h.2 with ⟨c, _, _, h⟩ | ⟨p, o, _, h, _⟩
 ·exact ⟨none, c, h⟩
 ·exact ⟨some p, 0, h⟩
theorem RfEnd.from {s : Sp.By} {d x : Int} {w w0 w' : World} {e : Ending} (h : RfEnd s d x w e w') (hh : w.heap = w0.heap) (ho : w.os = w0.os) (ht : w.tape = w0.tape) (hu : w.output = w0.output) : RfEnd s d x w0 e w' := by
 obtain ⟨h1, h2⟩ := h
 have hs : w.heap.size = w0.heap.size := by rw [hh]
 refine ⟨⟨h1.os.trans ho, h1.tape.trans ht, h1.output.trans hu, by rw [← hs]; exact h1.size, fun k hk => by rw [← hh]; exact h1.block k (by omega)⟩, h2.imp id ?_⟩
 rintro ⟨p, o, a, b, c, d⟩
 exact ⟨p, o, a, b, by rw [← hs]; exact c, d⟩
set_option maxHeartbeats 4000000 in
theorem rERead_any {E : Nat} {d x n : Int} {p q : Value} {w : World} (s : Sp.By) (h : EB w E d x n p q) (hd : 1 ≤ d ∧ d ≤ 20) (hx : 0 ≤ x ∧ x ≤ 400) :
  Calls Tryz.prog 45 #[.pointer (some ⟨E, 0, none⟩), .string ⟨s.toArray⟩, .int .i64 0] w fun e w' => RfEnd s d x w e w' := by
 have c0 := h.c0
 have c1 := h.c1
 have HR := hide (fun w0 => rRead_any s d x hx w0)
 have hw : IntKind.i64.wrap d = d := by rw [IntKind.wrap_i64]; omega
 clear h
 go_enter Tryz.func45, Tryz.ntmps45
 go_wp2_with (fail)
 go_region_with (go_at_call 64; refine (unhide HR _).mono ?_; rintro e w2 hend; obtain ⟨pp, c, rfl⟩ := hend.form)
 all_goals (
  replace hend := hend.from (w0 := w) rfl rfl rfl rfl
  have HEND := hide hend
  clear hend
  go_wp2_with (fail)
  go_ret2
  exact unhide HEND)
end Go.Proofs.YtdpomdelmdofmaaGreatDoor

namespace Go.Proofs.YtdpomdelmdofmaaGreatDoor
open Go.RowKit
def AN (w : World) (g c : Nat) (t : Sp.By) : Prop := w.heap[g]? = some (.cells #[.int .i64 c, .int .i64 0, .string ⟨t.toArray⟩] 46 (0, 0))
section
variable {w : World} {g c : Nat} {t : Sp.By}
theorem AN.c0 (h : AN w g c t) : w.cell? ⟨g, 0, none⟩ = some (.int .i64 c) := by simp [World.cell?, show w.heap[g]? = _ from h]
theorem AN.c1 (h : AN w g c t) : w.cell? ⟨g, 1, none⟩ = some (.int .i64 0) := by simp [World.cell?, show w.heap[g]? = _ from h]
theorem AN.c2 (h : AN w g c t) : w.cell? ⟨g, 2, none⟩ = some (.string ⟨t.toArray⟩) := by simp [World.cell?, show w.heap[g]? = _ from h]
theorem AN.kept (h : AN w g c t) {w' : World} (e : w'.heap[g]? = w.heap[g]?) : AN w' g c t := e.trans h
end
set_option maxRecDepth 100000 in
set_option maxHeartbeats 8000000 in
theorem rStep_load {E : Nat} {d x n : Int} {pa : Option Addr} {q : Value} {w : World} (s : Sp.By) (t : ByteArray) (c : Nat) (hc : (Sp.readTo s d x).1 = c) (h : EB w E d x n (.pointer pa) q) (hd : 1 ≤ d ∧ d ≤ 20) (hx : 0 ≤ x ∧ x ≤ 400) :
  Calls Tryz.prog 39 #[.pointer (some ⟨E, 0, none⟩), .agg #[.int .i64 1, .string ⟨s.toArray⟩, .string t], ansV c []] w fun e w' => e = .returned (.bool true) ∧ KeptX E w w' ∧
   ((∃ c', Sp.readTo s d x = (c', none) ∧ EB w' E d x n (.pointer pa) q) ∨ (∃ p' o, Sp.readTo s d x = (0, some (Sp.nrm top o)) ∧ EB w' E d x n (.pointer (some p')) (.pointer none) ∧ ORep top (fun j => w.heap.size ≤ j) w' (.pointer (some p')) o ∧ Sp.goO top o)) := by
 have hEl := h.lt
 have hb1 : Below w.heap.size w ((w.alloc (.cells #[.int .i64 1, .string ⟨s.toArray⟩, .string t] 49)).alloc (.cells #[.int .i64 c, .int .i64 0, .string ⟨#[]⟩] 46)) := ((Below.refl _ _).alloc (Nat.le_refl _) _).alloc (by simp) _
 have ha1 : AN ((w.alloc (.cells #[.int .i64 1, .string ⟨s.toArray⟩, .string t] 49)).alloc (.cells #[.int .i64 c, .int .i64 0, .string ⟨#[]⟩] 46)) (w.heap.size + 1) c [] := heap_new _ _ _ (by simp)
 have he1 := h.low hb1
 have HC := hide hc
 have HB1 := hide hb1
 have HA1 := hide ha1
 have HE1 := hide he1
 have e3 := he1.c3
 have HCALL := hide (rERead_any s he1 hd hx)
 clear hc h hb1 ha1 he1
 unfold ansV
 cases pa
 all_goals (
  go_enter Tryz.func39, Tryz.ntmps39
  go_wp2_with (fail)
  refine (unhide HCALL).mono ?_
  rintro e w2 ⟨hb2, hcase⟩
  have hs2 := hb2.size
  have hs2b : w.heap.size + 2 ≤ w2.heap.size := by simpa using hs2
  have hbw2 : Below w.heap.size w w2 := (unhide HB1).trans (hb2.mono (unhide HB1).size)
  have ha2 : AN w2 (w.heap.size + 1) c [] := (unhide HA1).kept (hb2.block (w.heap.size + 1) (by simp))
  have he2 : EB w2 E d x n _ q := (unhide HE1).low hb2
  have a0 := ha2.c0
  have a1 := ha2.c1
  have a2 := ha2.c2
  have HA2 := hide ha2
  have HE2 := hide he2
  have HBW2 := hide hbw2
  have HNO := hide (fun (k : Nat) (w : World) => rNo_any k w)
  rcases hcase with ⟨c', hpos, hrt, rfl⟩ | ⟨p', o, hrt, rfl, hrep, hgo⟩
  ·obtain rfl : c' = c := by rw [← unhide HC, hrt]
   have e0 : ((c' : Int) == 0) = false := by rw [beq_eq_false_iff_ne]; omega
   have HRT := hide hrt
   clear hb2 ha2 he2 hbw2 hrt e3 hs2
   go_upto_region 11 with (fail)
   unfold ansV at HNO
   go_region_with (go_at_call 38; refine (unhide HNO c' _).mono ?_; rintro e w3 ⟨rfl, hb3⟩; have b0 := (hb3.cell (p := ⟨w.heap.size + 1, 0, none⟩) (show w.heap.size + 1 < w2.heap.size by omega)).trans a0; have b1 := (hb3.cell (p := ⟨w.heap.size + 1, 1, none⟩) (show w.heap.size + 1 < w2.heap.size by omega)).trans a1; have b2 := (hb3.cell (p := ⟨w.heap.size + 1, 2, none⟩) (show w.heap.size + 1 < w2.heap.size by omega)).trans a2)
   all_goals (
    have hb3' : Below w2.heap.size w2 w3 := ⟨hb3.os, hb3.tape, hb3.output, hb3.size, hb3.block⟩
    have HB3 := hide hb3'
    clear hb3 hb3' b0 b1 b2
    go_wp2_with (fail)
    go_ret
    have hbl : Below w.heap.size w w3 := (unhide HBW2).trans ((unhide HB3).mono (unhide HBW2).size)
    exact ⟨by kernel_rfl, KeptX.of_below hbl, Or.inl ⟨c', unhide HRT, (unhide HE2).low (unhide HB3)⟩⟩)
  ·obtain rfl : c = 0 := by rw [← unhide HC, hrt]
   have HRT := hide hrt
   have HREP := hide hrep
   have HGO := hide hgo
   have y3 := he2.c3
   have y4 := he2.c4
   have z3 := he2.fz 3
   have z4 := he2.fz 4
   clear hb2 ha2 he2 hbw2 hrt hrep hgo e3 hs2
   go_upto_region 11 with (fail)
   unfold ansV at HNO
   obtain ⟨w3, hw3⟩ : ∃ w3, w3 = (w2.setCell ⟨E, 3, none⟩ (.pointer (some p'))).setCell ⟨E, 4, none⟩ (.pointer none) := ⟨_, rfl⟩
   rw [← hw3]
   have he3 : EB w3 E d x n (.pointer (some p')) (.pointer none) := by rw [hw3]; exact ((unhide HE2).set3 _).set4 _
   have hk3 : KeptX E w2 w3 := by rw [hw3]; exact KeptX.setCell (p := ⟨E, 4, none⟩) (KeptX.setCell (p := ⟨E, 3, none⟩) (KeptX.refl _ _) rfl _) rfl _
   have ha3 : AN w3 (w.heap.size + 1) 0 [] := (unhide HA2).kept (hk3.block (w.heap.size + 1) (by omega) (by omega))
   have hs3 := hk3.size
   have HE3 := hide he3
   have HK3 := hide hk3
   clear hw3 a0 a1 a2 y3 y4 z3 z4
   have a0 := ha3.c0
   have a1 := ha3.c1
   have a2 := ha3.c2
   clear he3 hk3 ha3
   go_region_with (go_at_call 38; refine (unhide HNO 0 _).mono ?_; rintro e w4 ⟨rfl, hb4⟩; have b0 := (hb4.cell (p := ⟨w.heap.size + 1, 0, none⟩) (show w.heap.size + 1 < w3.heap.size by omega)).trans a0; have b1 := (hb4.cell (p := ⟨w.heap.size + 1, 1, none⟩) (show w.heap.size + 1 < w3.heap.size by omega)).trans a1; have b2 := (hb4.cell (p := ⟨w.heap.size + 1, 2, none⟩) (show w.heap.size + 1 < w3.heap.size by omega)).trans a2)
   all_goals (
    have hb4' : Below w3.heap.size w3 w4 := ⟨hb4.os, hb4.tape, hb4.output, hb4.size, hb4.block⟩
    have HB4 := hide hb4'
    clear hb4 hb4' b0 b1 b2
    go_wp2_with (fail)
    go_ret
    have hk24 : KeptX E w2 w4 := (unhide HK3).trans (KeptX.of_below (unhide HB4))
    refine ⟨by kernel_rfl, (KeptX.of_below (unhide HBW2)).trans hk24, Or.inr ⟨p', o, unhide HRT, (unhide HE3).low (unhide HB4), (unhide HREP).move fun k h1 h2 => ⟨hk24.block k h2 ?_, ?_⟩, unhide HGO⟩⟩
    ·simp at h1; omega
    ·simp at h1; omega))
set_option maxRecDepth 100000 in
set_option maxHeartbeats 8000000 in
theorem rStep_none {E : Nat} {d x n : Int} {q : Value} {w : World} (s t : ByteArray) (h : EB w E d x n (.pointer none) q) :
  Calls Tryz.prog 39 #[.pointer (some ⟨E, 0, none⟩), .agg #[.int .i64 2, .string s, .string t], ansV 3 []] w fun e w' => e = .returned (.bool true) ∧ Below w.heap.size w w' := by
 have hEl := h.lt
 have hb1 : Below w.heap.size w ((w.alloc (.cells #[.int .i64 2, .string s, .string t] 49)).alloc (.cells #[.int .i64 3, .int .i64 0, .string ⟨#[]⟩] 46)) := ((Below.refl _ _).alloc (Nat.le_refl _) _).alloc (by simp) _
 have ha1 : AN ((w.alloc (.cells #[.int .i64 2, .string s, .string t] 49)).alloc (.cells #[.int .i64 3, .int .i64 0, .string ⟨#[]⟩] 46)) (w.heap.size + 1) 3 [] := heap_new _ _ _ (by simp)
 have he1 := h.low hb1
 have e3 := he1.c3
 have HB1 := hide hb1
 have HA1 := hide ha1
 have HNO := hide (fun (k : Nat) (w : World) => rNo_any k w)
 clear h hb1 ha1 he1
 unfold ansV at HNO ⊢
 go_enter Tryz.func39, Tryz.ntmps39
 go_upto_region 4 with (fail)
 obtain ⟨w3, hw3⟩ : ∃ w3, w3 = ((w.alloc (.cells #[.int .i64 2, .string s, .string t] 49)).alloc (.cells #[.int .i64 3, .int .i64 0, .string ⟨#[]⟩] 46)) := ⟨_, rfl⟩
 have hs3 : w.heap.size + 1 < w3.heap.size := by rw [hw3]; simp
 have ha3 : AN w3 (w.heap.size + 1) 3 [] := by rw [hw3]; exact unhide HA1
 have hb3 : Below w.heap.size w w3 := by rw [hw3]; exact unhide HB1
 rw [← hw3]
 have HB3 := hide hb3
 have a0 := ha3.c0
 have a1 := ha3.c1
 have a2 := ha3.c2
 clear hw3 e3 ha3 hb3 HB1 HA1
 go_region_with (go_at_call 38; refine (unhide HNO 3 _).mono ?_; rintro e w4 ⟨rfl, hb4⟩; have b0 := (hb4.cell (p := ⟨w.heap.size + 1, 0, none⟩) (show w.heap.size + 1 < w3.heap.size by omega)).trans a0; have b1 := (hb4.cell (p := ⟨w.heap.size + 1, 1, none⟩) (show w.heap.size + 1 < w3.heap.size by omega)).trans a1; have b2 := (hb4.cell (p := ⟨w.heap.size + 1, 2, none⟩) (show w.heap.size + 1 < w3.heap.size by omega)).trans a2)
 all_goals (
  have hb4' : Below w3.heap.size w3 w4 := ⟨hb4.os, hb4.tape, hb4.output, hb4.size, hb4.block⟩
  have HB4 := hide hb4'
  clear hb4 hb4' b0 b1 b2
  go_wp2_with (fail)
  go_ret
  exact ⟨by kernel_rfl, (unhide HB3).trans ((unhide HB4).mono (unhide HB3).size)⟩)
set_option maxRecDepth 100000 in
set_option maxHeartbeats 8000000 in
theorem rStep_dump {E : Nat} {d x n : Int} {p : Addr} {q : Value} {w : World} {F : Nat → Prop} {o : Sp.O} (s t : ByteArray) (h : EB w E d x n (.pointer (some p)) q) (hrep : ORep top F w (.pointer (some p)) o) (hgo : Sp.goO top o) (hl : (Sp.can top (Sp.nrm top o)).length ≤ 80000) (hT : Laid w) :
  Calls Tryz.prog 39 #[.pointer (some ⟨E, 0, none⟩), .agg #[.int .i64 2, .string s, .string t], ansV 0 (Sp.can top (Sp.nrm top o))] w fun e w' => e = .returned (.bool true) ∧ Below w.heap.size w w' := by
 have hEl := h.lt
 obtain ⟨tx, htx⟩ : ∃ tx, tx = Sp.can top (Sp.nrm top o) := ⟨_, rfl⟩
 rw [← htx]
 have hb1 : Below w.heap.size w ((w.alloc (.cells #[.int .i64 2, .string s, .string t] 49)).alloc (.cells #[.int .i64 0, .int .i64 0, .string ⟨tx.toArray⟩] 46)) := ((Below.refl _ _).alloc (Nat.le_refl _) _).alloc (by simp) _
 have ha1 : AN ((w.alloc (.cells #[.int .i64 2, .string s, .string t] 49)).alloc (.cells #[.int .i64 0, .int .i64 0, .string ⟨tx.toArray⟩] 46)) (w.heap.size + 1) 0 tx := heap_new _ _ _ (by simp)
 have he1 := h.low hb1
 have e3 := he1.c3
 have HB1 := hide hb1
 have HA1 := hide ha1
 have hcall := canonical_ok top F _ (.pointer (some p)) o (hrep.below hb1) hgo (hT.below (hb1.mono hT.ng)) hl
 rw [← htx] at hcall
 have HCALL := hide hcall
 clear h hb1 ha1 he1 hrep hgo hT hl hcall htx
 unfold ansV
 go_enter Tryz.func39, Tryz.ntmps39
 go_wp2_with (fail)
 refine (unhide HCALL).mono ?_
 rintro e w3 ⟨rfl, hb3⟩
 have ha3 : AN w3 (w.heap.size + 1) 0 tx := (unhide HA1).kept (hb3.block (w.heap.size + 1) (by simp))
 have HB3 := hide ((unhide HB1).trans (hb3.mono (unhide HB1).size))
 have a0 := ha3.c0
 have a1 := ha3.c1
 have a2 := ha3.c2
 clear ha3 hb3 e3
 go_wp2_with (fail)
 go_ret
 exact ⟨by first | kernel_rfl | simp, unhide HB3⟩
end Go.Proofs.YtdpomdelmdofmaaGreatDoor

namespace Go.Proofs.YtdpomdelmdofmaaGreatDoor
open Go.RowKit
def OD (w : World) (E : Nat) (p : Value) : Option Sp.O → Prop
 | none => p = .pointer none
 | some o => ∃ a, p = .pointer (some a) ∧ ORep top (fun j => j ≠ E) w p o ∧ Sp.goO top o ∧ (Sp.can top (Sp.nrm top o)).length ≤ 80000
def docOf (od : Option Sp.O) : Sp.Doc := od.map fun o => (Sp.nrm top o, none)
theorem OD.kept {w w' : World} {E : Nat} {p : Value} {od : Option Sp.O} (h : OD w E p od) (hk : KeptX E w w') : OD w' E p od := by
 cases od with
 | none => exact h
 | some o =>
  obtain ⟨a, h1, h2, h3, h4⟩ := h
  exact ⟨a, h1, h2.move (fun k hk1 hk2 => ⟨hk.block k hk2 hk1, hk1⟩), h3, h4⟩
theorem OD.ptr {w : World} {E : Nat} {p : Value} {od : Option Sp.O} (h : OD w E p od) : ∃ pa, p = .pointer pa := by
 cases od with
 | none => exact ⟨none, h⟩
 | some o => obtain ⟨a, h1, _⟩ := h; exact ⟨_, h1⟩
theorem cfg_bd {d x n : Int} (h : Sp.cfg d x n = true) : (1 ≤ d ∧ d ≤ 20) ∧ (0 ≤ x ∧ x ≤ 400) := by
 unfold Sp.cfg Sp.inB at h
 simp only [Bool.and_eq_true, decide_eq_true_eq] at h
 omega
def OStep (E : Nat) (d x n : Int) (od : Option Sp.O) (o : Sp.St) (w : World) (e : Ending) (w' : World) : Prop :=
 e = .returned (.bool true) ∧ KeptX E w w' ∧ ∃ p' q' od', EB w' E d x n p' q' ∧ OD w' E p' od' ∧ docOf od' = (Sp.step d x n (docOf od) o).2
theorem rStep_any {E : Nat} {d x n : Int} {p q : Value} {od : Option Sp.O} {w : World} (k : Int) (s t : Sp.By) (hk : k = 1 ∨ k = 2) (h : EB w E d x n p q) (hd : OD w E p od) (hc : Sp.cfg d x n = true) (hT : Laid w) :
  Calls Tryz.prog 39 #[.pointer (some ⟨E, 0, none⟩), .agg #[.int .i64 k, .string ⟨s.toArray⟩, .string ⟨t.toArray⟩], ansA (Sp.step d x n (docOf od) (k, s, t)).1] w fun e w' => OStep E d x n od (k, s, t) w e w' := by
 obtain ⟨hdb, hxb⟩ := cfg_bd hc
 have hEl := h.lt
 obtain ⟨pa, rfl⟩ := hd.ptr
 rcases hk with rfl | rfl
 ·have hst : Sp.step d x n (docOf od) (1, s, t) = Sp.ldd (Sp.readTo s d x) (docOf od) := by unfold Sp.step; rw [hc, if_pos rfl, if_neg (by simp), if_pos rfl]
  have h1 : (Sp.step d x n (docOf od) (1, s, t)).1 = ((Sp.readTo s d x).1, 0, []) := by
   rw [hst]; unfold Sp.ldd
   split <;> rfl
  rw [h1]
  refine (rStep_load s ⟨t.toArray⟩ (Sp.readTo s d x).1 rfl h hdb hxb).mono ?_
  rintro e w' ⟨rfl, hk, hcase⟩
  refine ⟨rfl, hk, ?_⟩
  rcases hcase with ⟨c', hrt, he⟩ | ⟨p', o, hrt, he, hrep, hgo⟩
  ·exact ⟨_, _, od, he, hd.kept hk, by rw [hst, hrt]; rfl⟩
  ·exact ⟨_, _, some o, he, ⟨p', rfl, hrep.move (fun j h1 _ => ⟨rfl, by omega⟩), hgo, read_bd hrt top⟩, by rw [hst, hrt]; rfl⟩
 ·cases od with
  | none =>
   obtain rfl : pa = none := by injection hd
   have hst : Sp.step d x n (docOf none) (2, s, t) = ((3, 0, []), none) := by unfold Sp.step; rw [hc, if_pos rfl, if_neg (by simp), if_neg (by simp)]; rfl
   rw [hst]
   refine (rStep_none _ ⟨t.toArray⟩ h).mono ?_
   rintro e w' ⟨rfl, hb⟩
   exact ⟨rfl, KeptX.of_below hb, _, _, none, h.low hb, rfl, by rw [hst]; rfl⟩
  | some o =>
   obtain ⟨a, h1, h2, h3, h4⟩ := hd
   obtain rfl : pa = some a := by injection h1
   have hst : Sp.step d x n (docOf (some o)) (2, s, t) = ((0, 0, Sp.can top (Sp.nrm top o)), some (Sp.nrm top o, none)) := by unfold Sp.step; rw [hc, if_pos rfl, if_neg (by simp), if_neg (by simp)]; rfl
   rw [hst]
   refine (rStep_dump _ ⟨t.toArray⟩ h h2 h3 h4 hT).mono ?_
   rintro e w' ⟨rfl, hb⟩
   exact ⟨rfl, KeptX.of_below hb, _, _, some o, h.low hb, ⟨a, rfl, h2.below hb, h3, h4⟩, by rw [hst]; rfl⟩
def Lod (l : List Sp.St) : Prop := ∀ o ∈ l, o.1 = 1 ∨ o.1 = 2
theorem Lod.plain {l : List Sp.St} (h : Lod l) : Plain l := fun o ho => by rcases h o ho with h | h <;> exact Or.inl (Or.inl (by omega))
theorem Lod.at0 {d x n : Int} {doc : Sp.Doc} {o : Sp.St} (h : o.1 = 1 ∨ o.1 = 2) : (Sp.step d x n doc o).1.2.1 = 0 := by
 unfold Sp.step Sp.ask
 repeat' split
 all_goals first | rfl | omega | (unfold Sp.ldd; split <;> rfl)
theorem run_at (d x n : Int) : ∀ (l : List Sp.St) (doc : Sp.Doc) (k : Nat) (hk : k < l.length) (hr : k < (Sp.run d x n doc l).length), (Sp.run d x n doc l)[k] = (Sp.step d x n (Sp.docAfter d x n doc (l.take k)) l[k]).1 := by
 intro l
 induction l with
 | nil => intro doc k hk; simp at hk
 | cons o r ih =>
  intro doc k hk hr
  cases k with
  | zero => rfl
  | succ k =>
   have := ih (Sp.step d x n doc o).2 k (by simpa using hk) (by simpa [Sp.run] using hr)
   simpa [Sp.run, Sp.docAfter] using this
end Go.Proofs.YtdpomdelmdofmaaGreatDoor

namespace Go.Proofs.YtdpomdelmdofmaaGreatDoor
open Go.RowKit
theorem cell_low {B : Nat} {a w : World} (h : Below B a w) (g o : Nat) (hg : g < B) {u : Value} (hu : a.cell? ⟨g, o, none⟩ = some u) : w.cell? ⟨g, o, none⟩ = some u := (h.cell (p := ⟨g, o, none⟩) hg).trans hu
set_option maxRecDepth 100000 in
set_option maxHeartbeats 16000000 in
theorem Fits_good {d x n : Int} {sb so ab m cap : Nat} {l : List Sp.St} {cs : Array Value} {w : World} (hc : Sp.cfg d x n = true) (hs : Scr w sb so l) (hl : Lod l) (hm : m = l.length) (hcap : m ≤ cap) (hcm : cap ≤ maxLen)
  (hrow : w.heap[ab]? = some (.cells cs 46 (0, 0))) (hans : AnsC cs m (Sp.run d x n none l)) (hsb : sb < w.heap.size) (hT : Laid w) :
  Calls Tryz.prog 29 #[.agg #[.int .i64 d, .int .i64 x, .int .i64 n], .slice (some ⟨sb, so, none⟩) m cap, .slice (some ⟨ab, 0, none⟩) m m] w fun e w' => e = .returned (.bool true) ∧ Below w.heap.size w w' := by
 have hab : ab < w.heap.size := (Array.getElem?_eq_some_iff.1 hrow).1
 have hc2 := hc
 unfold Sp.cfg at hc2
 simp only [Bool.and_eq_true] at hc2
 obtain ⟨i1, i2, i3⟩ := hc2
 have hmb : (m : Int) ≤ 9223372036854775807 := by unfold maxLen at hcm; omega
 have hlen : (Sp.run d x n none l).length = m := by rw [Sp.run_len, hm]
 have HANS := hide (fun (k : Nat) (hk : k < (Sp.run d x n none l).length) => hans.at hrow k hk)
 have HLEN := hide hlen
 have HM := hide hm
 have HS := hide hs
 have HL := hide hl
 have HT := hide hT
 have HC := hide hc
 have hng := hT.ng
 have hE0 : EB ((w.alloc (.cells #[.int .i64 d, .int .i64 x, .int .i64 n] 23)).alloc (.cells #[.int .i64 d, .int .i64 x, .int .i64 n, .pointer none, .pointer none] 68)) (w.heap.size + 1) d x n (.pointer none) (.pointer none) := heap_new _ _ _ (by simp)
 have hb0 : Below w.heap.size w ((w.alloc (.cells #[.int .i64 d, .int .i64 x, .int .i64 n] 23)).alloc (.cells #[.int .i64 d, .int .i64 x, .int .i64 n, .pointer none, .pointer none] 68)) := ((Below.refl _ _).alloc (Nat.le_refl _) _).alloc (by simp) _
 have HE0 := hide hE0
 have HB0 := hide hb0
 have HNO := hide (fun (k : Nat) (w : World) => rNo_any k w)
 unfold ansV at HNO
 clear hc hs hl hm hrow hans hT hlen hE0 hb0
 go_enter Tryz.func29, Tryz.ntmps29
 go_wp2_with (fail)
 refine (rIn_any d 1 20 _).mono ?_
 rintro e wA ⟨rfl, rfl⟩
 rw [i1]
 go_wp2_with (fail)
 refine (rIn_any x 0 400 _).mono ?_
 rintro e wA ⟨rfl, rfl⟩
 rw [i2]
 go_wp2_with (fail)
 refine (rIn_any n 0 2000 _).mono ?_
 rintro e wA ⟨rfl, rfl⟩
 rw [i3]
 go_wp2_with (fail)
 clear i1 i2 i3
 go_loopw [11] (fun i wr => ∃ (k : Nat) (p q : Value) (od : Option Sp.O), k ≤ m ∧ i = .int .i64 k ∧ EB wr (w.heap.size + 1) d x n p q ∧ OD wr (w.heap.size + 1) p od ∧ docOf od = Sp.docAfter d x n none (l.take k) ∧ Below w.heap.size w wr) (fun i _ => m - (intOf i).toNat)
 case atStart => exact ⟨0, .pointer none, .pointer none, none, by omega, rfl, unhide HE0, rfl, rfl, unhide HB0⟩
 case round =>
  obtain ⟨k, p, q, od, hk, rfl, heb, hod, hdoc, hbel⟩ := hrel
  by_cases hlt : k < m
  ·have hkl : k < l.length := by have := unhide HM; omega
   have hkr : k < (Sp.run d x n none l).length := by have := unhide HLEN; omega
   obtain ⟨q0, q1, q2⟩ := unhide HS k hkl
   obtain ⟨r0, r1, r2⟩ := unhide HANS k hkr
   rw [run_at d x n l none k hkl hkr, ← hdoc] at r0 r1 r2
   obtain ⟨o, ho⟩ : ∃ o, o = l[k] := ⟨_, rfl⟩
   rw [← ho] at q0 q1 q2 r0 r1 r2
   have hok := unhide HL o (by rw [ho]; exact List.getElem_mem hkl)
   rw [Lod.at0 hok] at r1
   have hat0 : (Sp.step d x n (docOf od) o).1.2.1 = 0 := Lod.at0 hok
   obtain ⟨ct, hct⟩ : ∃ ct, ct = (Sp.step d x n (docOf od) o).1 := ⟨_, rfl⟩
   rw [← hct] at r0 r2 hat0
   have s0 := cell_low hbel _ _ hsb q0
   have s1 := cell_low hbel _ _ hsb q1
   have s2 := cell_low hbel _ _ hsb q2
   have a0 := cell_low hbel _ _ hab r0
   have a1 := cell_low hbel _ _ hab r1
   have a2 := cell_low hbel _ _ hab r2
   have hszr := hbel.size
   have hsbr : sb < wr.heap.size := by omega
   have habr : ab < wr.heap.size := by omega
   have HSTEP : Hid (∀ W : World, Below wr.heap.size wr W → Calls Tryz.prog 39 #[.pointer (some ⟨w.heap.size + 1, 0, none⟩), .agg #[.int .i64 o.1, .string ⟨o.2.1.toArray⟩, .string ⟨o.2.2.toArray⟩], .agg #[.int .i64 ct.1, .int .i64 0, .string ⟨ct.2.2.toArray⟩]] W fun e w' => OStep (w.heap.size + 1) d x n od o W e w') := by
    intro W hW
    have := rStep_any (k := o.1) (s := o.2.1) (t := o.2.2) hok (heb.low hW) (hod.kept (KeptX.of_below hW)) (unhide HC) ((unhide HT).below ((hbel.trans (hW.mono hszr)).mono hng))
    rw [show ((o.1, o.2.1, o.2.2) : Sp.St) = o from rfl, ← hct] at this
    unfold ansA at this
    rw [hat0] at this
    exact this
   have HDOC := hide hdoc
   have HBEL := hide hbel
   have HO := hide ho
   clear q0 q1 q2 r0 r1 r2 heb hod hdoc hbel hct hok ho hat0
   obtain ⟨c1, c0, c2⟩ := ct
   simp only at a0 a2 HSTEP
   go_upto_region 10 with (fail)
   go_cut [12] (fun s12 wx => (∃ b : Bool, s12 = .bool b) ∧ Below wr.heap.size wr wx)
   case first =>
    by_cases hc1 : c1 = 2
    ·subst hc1
     cases c2 with
     | nil =>
      go_region_with (go_at_call 38; refine (unhide HNO 2 _).mono ?_; rintro e w4 ⟨rfl, hb4⟩; have b0 := cell_low (a := wr) (w := w4) ⟨hb4.os, hb4.tape, hb4.output, hb4.size, hb4.block⟩ _ _ habr a0; have b1 := cell_low (a := wr) (w := w4) ⟨hb4.os, hb4.tape, hb4.output, hb4.size, hb4.block⟩ _ _ habr a1; have b2 := cell_low (a := wr) (w := w4) ⟨hb4.os, hb4.tape, hb4.output, hb4.size, hb4.block⟩ _ _ habr a2)
      all_goals (
       go_wp2_with (fail)
       go_meet
       exact ⟨⟨_, rfl⟩, ⟨hb4.os, hb4.tape, hb4.output, hb4.size, hb4.block⟩⟩)
     | cons z zs =>
      go_region_with (go_at_call 38; refine (unhide HNO 2 _).mono ?_; rintro e w4 ⟨rfl, hb4⟩; have b0 := cell_low (a := wr) (w := w4) ⟨hb4.os, hb4.tape, hb4.output, hb4.size, hb4.block⟩ _ _ habr a0; have b1 := cell_low (a := wr) (w := w4) ⟨hb4.os, hb4.tape, hb4.output, hb4.size, hb4.block⟩ _ _ habr a1; have b2 := cell_low (a := wr) (w := w4) ⟨hb4.os, hb4.tape, hb4.output, hb4.size, hb4.block⟩ _ _ habr a2)
      all_goals (
       go_wp2_with (fail)
       go_meet
       exact ⟨⟨_, rfl⟩, ⟨hb4.os, hb4.tape, hb4.output, hb4.size, hb4.block⟩⟩)
    ·have hc1' : ((c1 : Int) == 2) = false := by rw [beq_eq_false_iff_ne]; omega
     clear hc1
     go_region_with (go_at_call 38; refine (unhide HNO 2 _).mono ?_; rintro e w4 ⟨rfl, hb4⟩; have b0 := cell_low (a := wr) (w := w4) ⟨hb4.os, hb4.tape, hb4.output, hb4.size, hb4.block⟩ _ _ habr a0; have b1 := cell_low (a := wr) (w := w4) ⟨hb4.os, hb4.tape, hb4.output, hb4.size, hb4.block⟩ _ _ habr a1; have b2 := cell_low (a := wr) (w := w4) ⟨hb4.os, hb4.tape, hb4.output, hb4.size, hb4.block⟩ _ _ habr a2)
     all_goals (
      go_wp2_with (fail)
      go_meet
      exact ⟨⟨_, rfl⟩, ⟨hb4.os, hb4.tape, hb4.output, hb4.size, hb4.block⟩⟩)
   case rest =>
   obtain ⟨⟨b, rfl⟩, hbc⟩ := hcut
   have t0 := cell_low hbc _ _ hsbr s0
   have t1 := cell_low hbc _ _ hsbr s1
   have t2 := cell_low hbc _ _ hsbr s2
   have b0 := cell_low hbc _ _ habr a0
   have b1 := cell_low hbc _ _ habr a1
   have b2 := cell_low hbc _ _ habr a2
   have HBC := hide hbc
   clear s0 s1 s2 a0 a1 a2 hbc
   go_upto_region 12 with (fail)
   go_region_with (go_at_call 39; refine (unhide HSTEP _ ?_).mono ?_; exact ⟨(unhide HBC).os, (unhide HBC).tape, (unhide HBC).output, (unhide HBC).size, (unhide HBC).block⟩; rintro e w5 ⟨rfl, hk5, hex⟩)
   all_goals (
    obtain ⟨p', q', od', he5, hd5, hdoc5⟩ := hex
    have hwc : Below w.heap.size w wc.drew := by
     have h := (unhide HBEL).trans ((unhide HBC).mono (unhide HBEL).size)
     exact ⟨h.os, h.tape, h.output, h.size, h.block⟩
    have hb5 : Below w.heap.size w w5 := hwc.trans (hk5.below (Nat.le_succ _) hwc.size)
    have hdoc6 : docOf od' = Sp.docAfter d x n none (l.take (k + 1)) := by
     rw [List.take_succ_eq_append_getElem hkl, Sp.after_snoc, ← unhide HDOC, ← unhide HO]; exact hdoc5
    have HE5 := hide he5
    have HD5 := hide hd5
    have HDOC6 := hide hdoc6
    have HB5 := hide hb5
    clear he5 hd5 hdoc5 hdoc6 hb5 hwc hk5 t0 t1 t2 b0 b1 b2
    go_wp2_with (fail)
    go_roundw
    case rel => (repeat apply Exists.intro); exact ⟨show k + 1 ≤ m by omega, by go_num, unhide HE5, unhide HD5, unhide HDOC6, unhide HB5⟩
    case measure => simp only [intOf]; omega)
  ·go_wp2_with (fail)
   go_ret
   exact ⟨rfl, hbel⟩
end Go.Proofs.YtdpomdelmdofmaaGreatDoor
