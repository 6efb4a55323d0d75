/-
  Walk of the reference's own tested.
-/
import Derived.Test.YtdpomdelmdofmaaGreatDoorPart51
import Derived.Test.YtdpomdelmdofmaaGreatDoorPart52
namespace Go.Proofs.YtdpomdelmdofmaaGreatDoor
open Go.RowKit
set_option maxRecDepth 100000 in
set_option maxHeartbeats 16000000 in
theorem rTested_any {E : Nat} {d x n : Int} {p : Addr} {q : Value} {w : World} {F : Nat → Prop} {o : Sp.O} (s t : Sp.By) (hn : s.length ≤ 1048576) (h : EB w E d x n (.pointer (some p)) q) (hrep : ORep top F w (.pointer (some p)) o) (hgo : Sp.goO top o)
  (hl : (Sp.can top (Sp.nrm top o)).length ≤ 80000) (hd : 1 ≤ d ∧ d ≤ 20) (hx : 0 ≤ x ∧ x ≤ 400) (hT : Laid w) :
  Calls Tryz.prog 48 #[.pointer (some ⟨E, 0, none⟩), .string ⟨s.toArray⟩, .string ⟨t.toArray⟩] w fun e w' => e = .returned (.int .i64 (Sp.tst d x (Sp.nrm top o) s t)) ∧ Below w.heap.size w w' := by
 obtain ⟨RR, hRR⟩ : ∃ RR, RR = Sp.tst d x (Sp.nrm top o) s t := ⟨_, rfl⟩
 rw [← hRR]
 have HRR := hide hRR
 have HTK := hide (rTokens_any s hn w)
 have hTL := hide (fun ks (h : Sp.toks s = some ks) => toks_len h)
 have HE := hide h
 have HREP := hide hrep
 have HGO := hide hgo
 have HL := hide hl
 have HT := hide hT
 have HDX := hide (And.intro hd hx)
 clear h hrep hgo hl hT hRR hd hx
 go_enter Tryz.func48, Tryz.ntmps48
 go_wp2_with (fail)
 refine (unhide HTK).mono ?_
 rintro e w1 ⟨he, hb1⟩
 have E1 := hide ((unhide HE).low hb1)
 have R1 := hide ((unhide HREP).below hb1)
 have T1 := hide ((unhide HT).below (hb1.mono (unhide HT).ng))
 have HB1 := hide hb1
 clear hb1 HE HREP HT HTK
 obtain ⟨ks, ok, lv, rfl, hlv, hks⟩ : ∃ (ks : List Sp.By) (ok : Bool) (lv : Value), e = .returned (.tuple #[lv, .bool ok]) ∧ TokR w1 lv ks ∧ ((ok = true ∧ Sp.toks s = some ks) ∨ (ok = false ∧ ks = [] ∧ Sp.toks s = none)) := by
  cases htk : Sp.toks s with
  | none =>
   rw [htk] at he
   exact ⟨[], false, _, he, Or.inl ⟨rfl, none, 0, rfl⟩, Or.inr ⟨rfl, rfl, rfl⟩⟩
  | some ks =>
   rw [htk] at he
   obtain ⟨lv, h1, h2⟩ := he
   exact ⟨ks, true, lv, h1, h2, Or.inl ⟨rfl, rfl⟩⟩
 have HLV := hide hlv
 have HKS := hide hks
 clear he hlv hks
 go_wp2_with (fail)
 refine (rERead_any t (unhide E1) (unhide HDX).1 (unhide HDX).2).mono ?_
 rintro e w2 ⟨hb2, hcase⟩
 have E2 := hide ((unhide E1).low hb2)
 have R2 := hide ((unhide R1).below hb2)
 have T2 := hide ((unhide T1).below (hb2.mono (unhide T1).ng))
 have LV2 := hide ((unhide HLV).bel hb2)
 have HB2 := hide ((unhide HB1).trans (hb2.mono (unhide HB1).size))
 have hkl : (∀ t ∈ ks, t.length ≤ 1048576) := by
  rcases unhide HKS with ⟨_, h⟩ | ⟨_, h, _⟩
  ·exact fun t ht => Nat.le_trans ((unhide hTL ks h).2 t ht) hn
  ·intro t ht; rw [h] at ht; cases ht
 have HKL := hide hkl
 obtain ⟨px, cx, rfl, hread⟩ : ∃ (px : Option Addr) (cx : Nat), e = .returned (.tuple #[.pointer px, .int .i64 cx]) ∧ ((0 < cx ∧ Sp.readTo t d x = (cx, none)) ∨ (cx = 0 ∧ ∃ p' o', px = some p' ∧ Sp.readTo t d x = (0, some (Sp.nrm top o')) ∧ ORep top (fun k => w1.heap.size ≤ k) w2 (.pointer (some p')) o' ∧ Sp.goO top o')) := by
  rcases hcase with ⟨c', h1, h2, h3⟩ | ⟨p', o', h1, h2, h3, h4⟩
  ·exact ⟨none, c', h3, Or.inl ⟨h1, h2⟩⟩
  ·exact ⟨some p', 0, h2, Or.inr ⟨rfl, p', o', rfl, h1, h3, h4⟩⟩
 have HREAD := hide hread
 have e3 := (unhide E2).c3
 clear hb2 hcase hread hkl E1 R1 T1 HLV HB1
 go_wp2_with (fail)
 refine (rFind_any (F := F) ks (unhide HKL) top o w2 (.pointer (some p)) lv (unhide R2) (unhide HGO) (unhide HL) (unhide LV2)).mono ?_
 rintro e w3 ⟨ho, hb3⟩
 have T3 := hide ((unhide T2).below (hb3.mono (unhide T2).ng))
 have HB3 := hide ((unhide HB2).trans (hb3.mono (unhide HB2).size))
 have HREAD3 := hide ((unhide HREAD).imp id fun ⟨a, p', o', b, c, dd, e⟩ => (⟨a, p', o', b, c, dd.below hb3, e⟩ : cx = 0 ∧ ∃ p' o', px = some p' ∧ Sp.readTo t d x = (0, some (Sp.nrm top o')) ∧ ORep top (fun k => w1.heap.size ≤ k) w3 (.pointer (some p')) o' ∧ Sp.goO top o'))
 clear hb3 T2 R2 E2 HB2 e3 LV2 HREAD
 obtain ⟨u, cf, rfl, hfind⟩ : ∃ (u : Value) (cf : Nat), e = .returned (.tuple #[u, .int .i64 cf]) ∧ ((cf = 0 ∧ ∃ y f', f' + ks.length = top ∧ Sp.goO f' y ∧ ORep f' F w3 u y ∧ Sp.find (Sp.nrm top o) ks = .ok (Sp.nrm f' y)) ∨ ((cf = 11 ∨ cf = 12) ∧ Sp.find (Sp.nrm top o) ks = .error cf)) := by
  rcases nrm_find ks top o (unhide HGO) with ⟨y, f', h1, h2, h3, h4⟩ | ⟨c, hc, h1, h2⟩
  ·rw [h1] at ho
   obtain ⟨u, f2, h5, hf2, hrep2⟩ := ho
   obtain rfl : f2 = f' := by omega
   exact ⟨u, 0, h5, Or.inl ⟨rfl, y, f2, h2, h3, hrep2, h4⟩⟩
  ·rw [h1] at ho
   exact ⟨_, c, ho, Or.inr ⟨hc, h2⟩⟩
 have HFIND := hide hfind
 clear ho hfind
 rcases unhide HKS with ⟨rfl, hks⟩ | ⟨rfl, rfl, hks⟩
 rotate_left
 ·have HF := hide (show RR = 9 by rw [unhide HRR, tst_none hks])
  clear hks
  go_wp2_with (fail)
  go_ret
  exact ⟨by rw [unhide HF]; rfl, unhide HB3⟩
 rcases unhide HREAD3 with ⟨hpos, hrd⟩ | ⟨rfl, p', o', rfl, hrd, hrep', hgo'⟩
 ·have HF := hide (show RR = cx by rw [unhide HRR, tst_bad hks hrd])
  have e0 : ((cx : Int) != 0) = true := by rw [bne_iff_ne]; omega
  clear hks hrd hpos
  go_wp2_with (fail)
  go_ret
  exact ⟨by rw [unhide HF]; rfl, unhide HB3⟩
 rcases unhide HFIND with ⟨rfl, y, f', hf', hgy, hry, hfd⟩ | ⟨hcf, hfd⟩
 rotate_left
 ·have HF := hide (show RR = cf by rw [unhide HRR, tst_err hks hrd hfd])
  have e0 : ((cf : Int) != 0) = true := by rw [bne_iff_ne]; omega
  clear hks hrd hfd hcf hrep' hgo'
  go_wp2_with (fail)
  go_ret
  exact ⟨by rw [unhide HF]; rfl, unhide HB3⟩
 have HF := hide (show RR = if veq (Sp.nrm f' y) (Sp.nrm top o') = true then 0 else 14 by rw [unhide HRR, tst_ok hks hrd hfd])
 have hft : f' ≤ top := by omega
 have hsame := rSame_any top F _ w3 u (.pointer (some p')) y o' (hry.up hft) hrep' (goO.up hgy hft) hgo'
 rw [go_up f' top y hgy hft] at hsame
 have HSAME := hide hsame
 obtain ⟨ub, hub, _⟩ := hry.ptr
 subst hub
 clear hks hrd hfd hrep' hgo' hgy hry hf' hft hsame
 go_wp2_with (fail)
 refine (unhide HSAME).mono ?_
 rintro e w4 ⟨rfl, hb4⟩
 have HB4 := hide ((unhide HB3).trans (hb4.mono (unhide HB3).size))
 clear hb4 HSAME
 cases hq : veq (Sp.nrm f' y) (Sp.nrm top o') with
 | false =>
  have HF2 := hide (show RR = 14 by rw [unhide HF, hq, if_neg (by decide)])
  clear hq
  go_wp2_with (fail)
  go_ret
  exact ⟨by rw [unhide HF2]; rfl, unhide HB4⟩
 | true =>
  have HF2 := hide (show RR = 0 by rw [unhide HF, hq, if_pos rfl])
  clear hq
  go_wp2_with (fail)
  go_ret
  exact ⟨by rw [unhide HF2]; rfl, unhide HB4⟩
end Go.Proofs.YtdpomdelmdofmaaGreatDoor

namespace Go.Proofs.YtdpomdelmdofmaaGreatDoor
open Go.RowKit
def ANA (w : World) (g : Nat) (a : Sp.Ans) : Prop := w.heap[g]? = some (.cells #[.int .i64 a.1, .int .i64 a.2.1, .string ⟨a.2.2.toArray⟩] 46 (0, 0))
section
variable {w : World} {g : Nat} {a : Sp.Ans}
theorem ANA.c0 (h : ANA w g a) : w.cell? ⟨g, 0, none⟩ = some (.int .i64 a.1) := by simp [World.cell?, show w.heap[g]? = _ from h]
theorem ANA.c1 (h : ANA w g a) : w.cell? ⟨g, 1, none⟩ = some (.int .i64 a.2.1) := by simp [World.cell?, show w.heap[g]? = _ from h]
theorem ANA.c2 (h : ANA w g a) : w.cell? ⟨g, 2, none⟩ = some (.string ⟨a.2.2.toArray⟩) := by simp [World.cell?, show w.heap[g]? = _ from h]
theorem ANA.kept (h : ANA w g a) {w' : World} (e : w'.heap[g]? = w.heap[g]?) : ANA w' g a := e.trans h
end
section
variable {E : Nat} {d x n : Int} {p : Addr} {q : Value} {w : World} {F : Nat → Prop} {o : Sp.O}
set_option maxRecDepth 100000 in
set_option maxHeartbeats 8000000 in
theorem rStep_get (s t : Sp.By) (hn : s.length ≤ 1048576) (h : EB w E d x n (.pointer (some p)) q) (hrep : ORep top F w (.pointer (some p)) o) (hgo : Sp.goO top o) (hl : (Sp.can top (Sp.nrm top o)).length ≤ 80000) (hT : Laid w) :
  Calls Tryz.prog 39 #[.pointer (some ⟨E, 0, none⟩), .agg #[.int .i64 3, .string ⟨s.toArray⟩, .string ⟨t.toArray⟩], ansA (Sp.gotA (Sp.nrm top o) s)] w fun e w' => e = .returned (.bool true) ∧ Below w.heap.size w w' := by
 have hEl := h.lt
 obtain ⟨A, hA⟩ : ∃ A, A = Sp.gotA (Sp.nrm top o) s := ⟨_, rfl⟩
 obtain ⟨w1, hw1⟩ : ∃ w1, w1 = ((w.alloc (.cells #[.int .i64 3, .string ⟨s.toArray⟩, .string ⟨t.toArray⟩] 49)).alloc (.cells #[.int .i64 A.1, .int .i64 A.2.1, .string ⟨A.2.2.toArray⟩] 46)) := ⟨_, rfl⟩
 have hb1 : Below w.heap.size w w1 := by rw [hw1]; exact ((Below.refl _ _).alloc (Nat.le_refl _) _).alloc (by simp) _
 have ha1 : ANA w1 (w.heap.size + 1) A := by rw [hw1]; exact heap_new _ _ _ (by simp)
 have ho1 : w1.heap[w.heap.size]? = some (.cells #[.int .i64 3, .string ⟨s.toArray⟩, .string ⟨t.toArray⟩] 49 (0, 0)) := by
  rw [hw1]
  show ((w.heap.push _).push _)[w.heap.size]? = _
  simp [Array.getElem?_push]
 have hs1 : w.heap.size + 2 ≤ w1.heap.size := by rw [hw1]; simp
 have he1 := h.low hb1
 have e3 := he1.c3
 have o0 : w1.cell? ⟨w.heap.size, 0, none⟩ = some (.int .i64 3) := by simp [World.cell?, ho1]
 have o1 : w1.cell? ⟨w.heap.size, 1, none⟩ = some (.string ⟨s.toArray⟩) := by simp [World.cell?, ho1]
 have a0 := ha1.c0
 have a1 := ha1.c1
 have a2 := ha1.c2
 have HB1 := hide hb1
 have HA1 := hide ha1
 have hcall := hide (fun (W : World) (hW : Below w1.heap.size w1 W) => rGot_any s hn (he1.low hW) ((hrep.below hb1).below hW) hgo hl ((hT.below (hb1.mono hT.ng)).below (hW.mono (Nat.le_trans hT.ng hb1.size))))
 rw [← hA] at hcall ⊢
 have HW1 := hide hw1
 clear h hb1 ha1 he1 hrep hgo hT hl hA ho1 hw1
 unfold ansA at hcall ⊢
 go_enter Tryz.func39, Tryz.ntmps39
 go_upto_region 1 with (fail)
 rw [← unhide HW1]
 go_upto_region 16 with (fail)
 go_region_with (go_at_call 47; refine (unhide hcall _ ?_).mono ?_; exact ⟨rfl, rfl, rfl, Nat.le_refl _, fun _ _ => rfl⟩; rintro e w4 ⟨rfl, hb4⟩; have b0 := (hb4.cell (p := ⟨w.heap.size + 1, 0, none⟩) (show w.heap.size + 1 < w1.heap.size by omega)).trans a0; have b1 := (hb4.cell (p := ⟨w.heap.size + 1, 1, none⟩) (show w.heap.size + 1 < w1.heap.size by omega)).trans a1; have b2 := (hb4.cell (p := ⟨w.heap.size + 1, 2, none⟩) (show w.heap.size + 1 < w1.heap.size by omega)).trans a2)
 all_goals (
  have hb4' : Below w1.heap.size w1 w4 := ⟨hb4.os, hb4.tape, hb4.output, hb4.size, hb4.block⟩
  have HB4 := hide hb4'
  clear hb4 hb4' b0 b1 b2
  go_wp2_with (fail)
  go_ret
  exact ⟨by first | kernel_rfl | simp, (unhide HB1).trans ((unhide HB4).mono (unhide HB1).size)⟩)
set_option maxRecDepth 100000 in
set_option maxHeartbeats 8000000 in
theorem rStep_test (s t : Sp.By) (hn : s.length ≤ 1048576) (h : EB w E d x n (.pointer (some p)) q) (hrep : ORep top F w (.pointer (some p)) o) (hgo : Sp.goO top o) (hl : (Sp.can top (Sp.nrm top o)).length ≤ 80000) (hd : 1 ≤ d ∧ d ≤ 20) (hx : 0 ≤ x ∧ x ≤ 400) (hT : Laid w) :
  Calls Tryz.prog 39 #[.pointer (some ⟨E, 0, none⟩), .agg #[.int .i64 4, .string ⟨s.toArray⟩, .string ⟨t.toArray⟩], ansV (Sp.tst d x (Sp.nrm top o) s t) []] w fun e w' => e = .returned (.bool true) ∧ Below w.heap.size w w' := by
 have hEl := h.lt
 obtain ⟨A, hA⟩ : ∃ A, A = Sp.tst d x (Sp.nrm top o) s t := ⟨_, rfl⟩
 obtain ⟨w1, hw1⟩ : ∃ w1, w1 = ((w.alloc (.cells #[.int .i64 4, .string ⟨s.toArray⟩, .string ⟨t.toArray⟩] 49)).alloc (.cells #[.int .i64 A, .int .i64 0, .string ⟨([] : Sp.By).toArray⟩] 46)) := ⟨_, rfl⟩
 have hb1 : Below w.heap.size w w1 := by rw [hw1]; exact ((Below.refl _ _).alloc (Nat.le_refl _) _).alloc (by simp) _
 have ha1 : AN w1 (w.heap.size + 1) A [] := by rw [hw1]; exact heap_new _ _ _ (by simp)
 have ho1 : w1.heap[w.heap.size]? = some (.cells #[.int .i64 4, .string ⟨s.toArray⟩, .string ⟨t.toArray⟩] 49 (0, 0)) := by
  rw [hw1]
  show ((w.heap.push _).push _)[w.heap.size]? = _
  simp [Array.getElem?_push]
 have hs1 : w.heap.size + 2 ≤ w1.heap.size := by rw [hw1]; simp
 have he1 := h.low hb1
 have e3 := he1.c3
 have o0 : w1.cell? ⟨w.heap.size, 0, none⟩ = some (.int .i64 4) := by simp [World.cell?, ho1]
 have o1 : w1.cell? ⟨w.heap.size, 1, none⟩ = some (.string ⟨s.toArray⟩) := by simp [World.cell?, ho1]
 have o2 : w1.cell? ⟨w.heap.size, 2, none⟩ = some (.string ⟨t.toArray⟩) := by simp [World.cell?, ho1]
 have a0 := ha1.c0
 have a1 := ha1.c1
 have a2 := ha1.c2
 have HB1 := hide hb1
 have hcall := hide (fun (W : World) (hW : Below w1.heap.size w1 W) => rTested_any s t hn (he1.low hW) ((hrep.below hb1).below hW) hgo hl hd hx ((hT.below (hb1.mono hT.ng)).below (hW.mono (Nat.le_trans hT.ng hb1.size))))
 have HNO := hide (fun (k : Nat) (w : World) => rNo_any k w)
 rw [← hA] at hcall ⊢
 have HW1 := hide hw1
 clear h hb1 ha1 he1 hrep hgo hT hl hA ho1 hw1 hd hx
 unfold ansV at HNO ⊢
 go_enter Tryz.func39, Tryz.ntmps39
 go_upto_region 1 with (fail)
 rw [← unhide HW1]
 go_upto_region 18 with (fail)
 go_region_with (first
  | (go_at_call 48; refine (unhide hcall _ ?_).mono ?_; exact ⟨rfl, rfl, rfl, Nat.le_refl _, fun _ _ => rfl⟩; rintro e w4 ⟨rfl, hb4⟩; have b0 := (hb4.cell (p := ⟨w.heap.size + 1, 0, none⟩) (show w.heap.size + 1 < w1.heap.size by omega)).trans a0; have b1 := (hb4.cell (p := ⟨w.heap.size + 1, 1, none⟩) (show w.heap.size + 1 < w1.heap.size by omega)).trans a1; have b2 := (hb4.cell (p := ⟨w.heap.size + 1, 2, none⟩) (show w.heap.size + 1 < w1.heap.size by omega)).trans a2; have hs4 : w.heap.size + 1 < w4.heap.size := Nat.lt_of_lt_of_le (show w.heap.size + 1 < w1.heap.size by omega) hb4.size)
  | (go_at_call 38; refine (unhide HNO A _).mono ?_; rintro e w5 ⟨rfl, hb5⟩; have f0 := (hb5.cell (p := ⟨w.heap.size + 1, 0, none⟩) hs4).trans b0; have f1 := (hb5.cell (p := ⟨w.heap.size + 1, 1, none⟩) hs4).trans b1; have f2 := (hb5.cell (p := ⟨w.heap.size + 1, 2, none⟩) hs4).trans b2))
 all_goals (
  have hb4' : Below w1.heap.size w1 w4 := ⟨hb4.os, hb4.tape, hb4.output, hb4.size, hb4.block⟩
  have hb5' : Below w4.heap.size w4 w5 := ⟨hb5.os, hb5.tape, hb5.output, hb5.size, hb5.block⟩
  have HB5 := hide (hb4'.trans (hb5'.mono hb4'.size))
  clear hb4 hb4' hb5 hb5' b0 b1 b2 f0 f1 f2
  go_wp2_with (fail)
  go_ret
  exact ⟨by first | kernel_rfl | simp, (unhide HB1).trans ((unhide HB5).mono (unhide HB1).size)⟩)
end
end Go.Proofs.YtdpomdelmdofmaaGreatDoor

namespace Go.Proofs.YtdpomdelmdofmaaGreatDoor
open Go.RowKit
set_option maxRecDepth 100000 in
set_option maxHeartbeats 8000000 in
theorem rStep_nodoc {E : Nat} {d x n : Int} {q : Value} {w : World} (k : Int) (s t : ByteArray) (hk : 1 < k ∧ k ≤ 9) (h : EB w E d x n (.pointer none) q) :
  Calls Tryz.prog 39 #[.pointer (some ⟨E, 0, none⟩), .agg #[.int .i64 k, .string s, .string t], ansV 3 []] w fun e w' => e = .returned (.bool true) ∧ Below w.heap.size w w' := by
 have hEl := h.lt
 have hb1 : Below w.heap.size w ((w.alloc (.cells #[.int .i64 k, .string s, .string t] 49)).alloc (.cells #[.int .i64 3, .int .i64 0, .string ⟨#[]⟩] 46)) := ((Below.refl _ _).alloc (Nat.le_refl _) _).alloc (by simp) _
 have ha1 : AN ((w.alloc (.cells #[.int .i64 k, .string s, .string t] 49)).alloc (.cells #[.int .i64 3, .int .i64 0, .string ⟨#[]⟩] 46)) (w.heap.size + 1) 3 [] := heap_new _ _ _ (by simp)
 have he1 := h.low hb1
 have e3 := he1.c3
 have HB1 := hide hb1
 have HA1 := hide ha1
 have HNO := hide (fun (k : Nat) (w : World) => rNo_any k w)
 have k1 : decide (k < 1) = false := decide_eq_false (by omega)
 have k9 : decide (9 < k) = false := decide_eq_false (by omega)
 have k2 : (k != 1) = true := by rw [bne_iff_ne]; omega
 clear h hb1 ha1 he1 hk
 unfold ansV at HNO ⊢
 go_enter Tryz.func39, Tryz.ntmps39
 go_upto_region 4 with (fail)
 obtain ⟨w3, hw3⟩ : ∃ w3, w3 = ((w.alloc (.cells #[.int .i64 k, .string s, .string t] 49)).alloc (.cells #[.int .i64 3, .int .i64 0, .string ⟨#[]⟩] 46)) := ⟨_, rfl⟩
 have hs3 : w.heap.size + 1 < w3.heap.size := by rw [hw3]; simp
 have ha3 : AN w3 (w.heap.size + 1) 3 [] := by rw [hw3]; exact unhide HA1
 have hb3 : Below w.heap.size w w3 := by rw [hw3]; exact unhide HB1
 rw [← hw3]
 have HB3 := hide hb3
 have a0 := ha3.c0
 have a1 := ha3.c1
 have a2 := ha3.c2
 clear hw3 e3 ha3 hb3 HB1 HA1
 go_region_with (go_at_call 38; refine (unhide HNO 3 _).mono ?_; rintro e w4 ⟨rfl, hb4⟩; have b0 := (hb4.cell (p := ⟨w.heap.size + 1, 0, none⟩) (show w.heap.size + 1 < w3.heap.size by omega)).trans a0; have b1 := (hb4.cell (p := ⟨w.heap.size + 1, 1, none⟩) (show w.heap.size + 1 < w3.heap.size by omega)).trans a1; have b2 := (hb4.cell (p := ⟨w.heap.size + 1, 2, none⟩) (show w.heap.size + 1 < w3.heap.size by omega)).trans a2)
 all_goals (
  have hb4' : Below w3.heap.size w3 w4 := ⟨hb4.os, hb4.tape, hb4.output, hb4.size, hb4.block⟩
  have HB4 := hide hb4'
  clear hb4 hb4' b0 b1 b2
  go_wp2_with (fail)
  go_ret
  exact ⟨by kernel_rfl, (unhide HB3).trans ((unhide HB4).mono (unhide HB3).size)⟩)
def StepOk (d x n : Int) (o : Sp.St) : Prop := ∀ (E : Nat) (p q : Value) (od : Option Sp.O) (w : World), EB w E d x n p q → OD w E p od → Laid w →
 Calls Tryz.prog 39 #[.pointer (some ⟨E, 0, none⟩), .agg #[.int .i64 o.1, .string ⟨o.2.1.toArray⟩, .string ⟨o.2.2.toArray⟩], ansA (Sp.step d x n (docOf od) o).1] w fun e w' => OStep E d x n od o w e w'
theorem stepG_ok {d x n : Int} (o : Sp.St) (hk : o.1 = 1 ∨ o.1 = 2 ∨ o.1 = 3 ∨ o.1 = 4) (hn : o.2.1.length ≤ 1048576) (hc : Sp.cfg d x n = true) : StepOk d x n o := by
 intro E p q od w h hd hT
 obtain ⟨k, s, t⟩ := o
 simp only at hk hn
 by_cases h12 : k = 1 ∨ k = 2
 ·exact rStep_any k s t h12 h hd hc hT
 have h34 : k = 3 ∨ k = 4 := by omega
 obtain ⟨hdb, hxb⟩ := cfg_bd hc
 obtain ⟨pa, rfl⟩ := hd.ptr
 cases od with
 | none =>
  obtain rfl : pa = none := by injection hd
  have hst : Sp.step d x n (docOf none) (k, s, t) = ((3, 0, []), none) := by unfold Sp.step; rw [hc, if_pos rfl, if_neg (by simp only; omega), if_neg (by simp only; omega)]; rfl
  rw [hst]
  refine (rStep_nodoc k ⟨s.toArray⟩ ⟨t.toArray⟩ (by omega) h).mono ?_
  rintro e w' ⟨rfl, hb⟩
  exact ⟨rfl, KeptX.of_below hb, _, _, none, h.low hb, rfl, by rw [hst]; rfl⟩
 | some o =>
  obtain ⟨a, h1, h2, h3, h4⟩ := hd
  obtain rfl : pa = some a := by injection h1
  have hst : Sp.step d x n (docOf (some o)) (k, s, t) = (Sp.ask d x (Sp.nrm top o) (k, s, t), some (Sp.nrm top o, none)) := by unfold Sp.step; rw [hc, if_pos rfl, if_neg (by simp only; omega), if_neg (by simp only; omega)]; show (if k < 5 then _ else _) = _; rw [if_pos (by omega)]; rfl
  rw [hst]
  rcases h34 with rfl | rfl
  ·have hask : Sp.ask d x (Sp.nrm top o) (3, s, t) = Sp.gotA (Sp.nrm top o) s := by unfold Sp.ask; rw [if_neg (by simp), if_pos rfl]
   rw [hask]
   refine (rStep_get s t hn h h2 h3 h4 hT).mono ?_
   rintro e w' ⟨rfl, hb⟩
   exact ⟨rfl, KeptX.of_below hb, _, _, some o, h.low hb, ⟨a, rfl, h2.below hb, h3, h4⟩, by rw [hst]; rfl⟩
  ·have hask : Sp.ask d x (Sp.nrm top o) (4, s, t) = (Sp.tst d x (Sp.nrm top o) s t, 0, []) := by unfold Sp.ask; rw [if_neg (by simp), if_neg (by simp), if_pos rfl]
   rw [hask]
   refine (rStep_test s t hn h h2 h3 h4 hdb hxb hT).mono ?_
   rintro e w' ⟨rfl, hb⟩
   exact ⟨rfl, KeptX.of_below hb, _, _, some o, h.low hb, ⟨a, rfl, h2.below hb, h3, h4⟩, by rw [hst]; rfl⟩
def Gts (l : List Sp.St) : Prop := ∀ o ∈ l, (o.1 = 1 ∨ o.1 = 2 ∨ o.1 = 3 ∨ o.1 = 4) ∧ o.2.1.length ≤ 1048576
theorem Gts.plain {l : List Sp.St} (h : Gts l) : Plain l := fun o ho => by
 obtain ⟨h1, h2⟩ := h o ho
 by_cases h12 : o.1 < 3
 ·exact Or.inl (Or.inl h12)
 ·exact Or.inr (Or.inl ⟨by omega, get_ok, test_ok, h2⟩)
theorem gotA_at (v : Sp.V) (s : Sp.By) : (Sp.gotA v s).2.1 = 0 := by
 unfold Sp.gotA
 repeat' split
 all_goals rfl
theorem step_at0 (d x n : Int) (doc : Sp.Doc) (o : Sp.St) (h5 : o.1 < 5) : (Sp.step d x n doc o).1.2.1 = 0 := by
 unfold Sp.step
 simp only [if_pos h5]
 unfold Sp.ask
 repeat' split
 all_goals first | rfl | omega | exact gotA_at _ _ | (unfold Sp.ldd; split <;> rfl)
end Go.Proofs.YtdpomdelmdofmaaGreatDoor
