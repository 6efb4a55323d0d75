/-
  The reference's step, at LOAD and DUMP, as the program's.
-/
import Derived.Test.YtdpomdelmdofmaaGreatDoorPart41
import Derived.Test.YtdpomdelmdofmaaGreatDoorPart27
namespace Go.Proofs.YtdpomdelmdofmaaGreatDoor
open Go.RowKit
def OD (w : World) (E : Nat) (p : Value) : Option Sp.O → Prop
 | none => p = .pointer none
 | some o => ∃ a, p = .pointer (some a) ∧ ORep top (fun j => j ≠ E) w p o ∧ Sp.goO top o ∧ (Sp.can top (Sp.nrm top o)).length ≤ 80000
def docOf (od : Option Sp.O) : Sp.Doc := od.map fun o => (Sp.nrm top o, none)
theorem OD.kept {w w' : World} {E : Nat} {p : Value} {od : Option Sp.O} (h : OD w E p od) (hk : KeptX E w w') : OD w' E p od := by
 cases od with
 | none => exact h
 | some o =>
  obtain ⟨a, h1, h2, h3, h4⟩ := h
  exact ⟨a, h1, h2.move (fun k hk1 hk2 => ⟨hk.block k hk2 hk1, hk1⟩), h3, h4⟩
theorem OD.ptr {w : World} {E : Nat} {p : Value} {od : Option Sp.O} (h : OD w E p od) : ∃ pa, p = .pointer pa := by
 cases od with
 | none => exact ⟨none, h⟩
 | some o => obtain ⟨a, h1, _⟩ := h; exact ⟨_, h1⟩
theorem cfg_bd {d x n : Int} (h : Sp.cfg d x n = true) : (1 ≤ d ∧ d ≤ 20) ∧ (0 ≤ x ∧ x ≤ 400) := by
 unfold Sp.cfg Sp.inB at h
 simp only [Bool.and_eq_true, decide_eq_true_eq] at h
 omega
def OStep (E : Nat) (d x n : Int) (od : Option Sp.O) (o : Sp.St) (w : World) (e : Ending) (w' : World) : Prop :=
 e = .returned (.bool true) ∧ KeptX E w w' ∧ ∃ p' q' od', EB w' E d x n p' q' ∧ OD w' E p' od' ∧ docOf od' = (Sp.step d x n (docOf od) o).2
theorem rStep_any {E : Nat} {d x n : Int} {p q : Value} {od : Option Sp.O} {w : World} (k : Int) (s t : Sp.By) (hk : k = 1 ∨ k = 2) (h : EB w E d x n p q) (hd : OD w E p od) (hc : Sp.cfg d x n = true) (hT : Laid w) :
  Calls Tryz.prog 39 #[.pointer (some ⟨E, 0, none⟩), .agg #[.int .i64 k, .string ⟨s.toArray⟩, .string ⟨t.toArray⟩], ansA (Sp.step d x n (docOf od) (k, s, t)).1] w fun e w' => OStep E d x n od (k, s, t) w e w' := by
 obtain ⟨hdb, hxb⟩ := cfg_bd hc
 have hEl := h.lt
 obtain ⟨pa, rfl⟩ := hd.ptr
 rcases hk with rfl | rfl
 ·have hst : Sp.step d x n (docOf od) (1, s, t) = Sp.ldd (Sp.readTo s d x) (docOf od) := by unfold Sp.step; rw [hc, if_pos rfl, if_neg (by simp), if_pos rfl]
  have h1 : (Sp.step d x n (docOf od) (1, s, t)).1 = ((Sp.readTo s d x).1, 0, []) := by
   rw [hst]; unfold Sp.ldd
   split <;> rfl
  rw [h1]
  refine (rStep_load s ⟨t.toArray⟩ (Sp.readTo s d x).1 rfl h hdb hxb).mono ?_
  rintro e w' ⟨rfl, hk, hcase⟩
  refine ⟨rfl, hk, ?_⟩
  rcases hcase with ⟨c', hrt, he⟩ | ⟨p', o, hrt, he, hrep, hgo⟩
  ·exact ⟨_, _, od, he, hd.kept hk, by rw [hst, hrt]; rfl⟩
  ·exact ⟨_, _, some o, he, ⟨p', rfl, hrep.move (fun j h1 _ => ⟨rfl, by omega⟩), hgo, read_bd hrt top⟩, by rw [hst, hrt]; rfl⟩
 ·cases od with
  | none =>
   obtain rfl : pa = none := by injection hd
   have hst : Sp.step d x n (docOf none) (2, s, t) = ((3, 0, []), none) := by unfold Sp.step; rw [hc, if_pos rfl, if_neg (by simp), if_neg (by simp)]; rfl
   rw [hst]
   refine (rStep_none _ ⟨t.toArray⟩ h).mono ?_
   rintro e w' ⟨rfl, hb⟩
   exact ⟨rfl, KeptX.of_below hb, _, _, none, h.low hb, rfl, by rw [hst]; rfl⟩
  | some o =>
   obtain ⟨a, h1, h2, h3, h4⟩ := hd
   obtain rfl : pa = some a := by injection h1
   have hst : Sp.step d x n (docOf (some o)) (2, s, t) = ((0, 0, Sp.can top (Sp.nrm top o)), some (Sp.nrm top o, none)) := by unfold Sp.step; rw [hc, if_pos rfl, if_neg (by simp), if_neg (by simp)]; rfl
   rw [hst]
   refine (rStep_dump _ ⟨t.toArray⟩ h h2 h3 h4 hT).mono ?_
   rintro e w' ⟨rfl, hb⟩
   exact ⟨rfl, KeptX.of_below hb, _, _, some o, h.low hb, ⟨a, rfl, h2.below hb, h3, h4⟩, by rw [hst]; rfl⟩
def Lod (l : List Sp.St) : Prop := ∀ o ∈ l, o.1 = 1 ∨ o.1 = 2
theorem Lod.plain {l : List Sp.St} (h : Lod l) : Plain l := fun o ho => by rcases h o ho with h | h <;> exact Or.inl (Or.inl (by omega))
theorem Lod.at0 {d x n : Int} {doc : Sp.Doc} {o : Sp.St} (h : o.1 = 1 ∨ o.1 = 2) : (Sp.step d x n doc o).1.2.1 = 0 := by
 unfold Sp.step Sp.ask
 repeat' split
 all_goals first | rfl | omega | (unfold Sp.ldd; split <;> rfl)
theorem run_at (d x n : Int) : ∀ (l : List Sp.St) (doc : Sp.Doc) (k : Nat) (hk : k < l.length) (hr : k < (Sp.run d x n doc l).length), (Sp.run d x n doc l)[k] = (Sp.step d x n (Sp.docAfter d x n doc (l.take k)) l[k]).1 := by
 intro l
 induction l with
 | nil => intro doc k hk; simp at hk
 | cons o r ih =>
  intro doc k hk hr
  cases k with
  | zero => rfl
  | succ k =>
   have := ih (Sp.step d x n doc o).2 k (by simpa using hk) (by simpa [Sp.run] using hr)
   simpa [Sp.run, Sp.docAfter] using this
end Go.Proofs.YtdpomdelmdofmaaGreatDoor

namespace Go.Proofs.YtdpomdelmdofmaaGreatDoor
open Go.RowKit
theorem cell_low {B : Nat} {a w : World} (h : Below B a w) (g o : Nat) (hg : g < B) {u : Value} (hu : a.cell? ⟨g, o, none⟩ = some u) : w.cell? ⟨g, o, none⟩ = some u := (h.cell (p := ⟨g, o, none⟩) hg).trans hu
set_option maxRecDepth 100000 in
set_option maxHeartbeats 16000000 in
theorem Fits_good {d x n : Int} {sb so ab m cap : Nat} {l : List Sp.St} {cs : Array Value} {w : World} (hc : Sp.cfg d x n = true) (hs : Scr w sb so l) (hl : Lod l) (hm : m = l.length) (hcap : m ≤ cap) (hcm : cap ≤ maxLen)
  (hrow : w.heap[ab]? = some (.cells cs 46 (0, 0))) (hans : AnsC cs m (Sp.run d x n none l)) (hsb : sb < w.heap.size) (hT : Laid w) :
  Calls Tryz.prog 29 #[.agg #[.int .i64 d, .int .i64 x, .int .i64 n], .slice (some ⟨sb, so, none⟩) m cap, .slice (some ⟨ab, 0, none⟩) m m] w fun e w' => e = .returned (.bool true) ∧ Below w.heap.size w w' := by
 have hab : ab < w.heap.size := (Array.getElem?_eq_some_iff.1 hrow).1
 have hc2 := hc
 unfold Sp.cfg at hc2
 simp only [Bool.and_eq_true] at hc2
 obtain ⟨i1, i2, i3⟩ := hc2
 have hmb : (m : Int) ≤ 9223372036854775807 := by unfold maxLen at hcm; omega
 have hlen : (Sp.run d x n none l).length = m := by rw [Sp.run_len, hm]
 have HANS := hide (fun (k : Nat) (hk : k < (Sp.run d x n none l).length) => hans.at hrow k hk)
 have HLEN := hide hlen
 have HM := hide hm
 have HS := hide hs
 have HL := hide hl
 have HT := hide hT
 have HC := hide hc
 have hng := hT.ng
 have hE0 : EB ((w.alloc (.cells #[.int .i64 d, .int .i64 x, .int .i64 n] 23)).alloc (.cells #[.int .i64 d, .int .i64 x, .int .i64 n, .pointer none, .pointer none] 68)) (w.heap.size + 1) d x n (.pointer none) (.pointer none) := heap_new _ _ _ (by simp)
 have hb0 : Below w.heap.size w ((w.alloc (.cells #[.int .i64 d, .int .i64 x, .int .i64 n] 23)).alloc (.cells #[.int .i64 d, .int .i64 x, .int .i64 n, .pointer none, .pointer none] 68)) := ((Below.refl _ _).alloc (Nat.le_refl _) _).alloc (by simp) _
 have HE0 := hide hE0
 have HB0 := hide hb0
 have HNO := hide (fun (k : Nat) (w : World) => rNo_any k w)
 unfold ansV at HNO
 clear hc hs hl hm hrow hans hT hlen hE0 hb0
 go_enter Tryz.func29, Tryz.ntmps29
 go_wp2_with (fail)
 refine (rIn_any d 1 20 _).mono ?_
 rintro e wA ⟨rfl, rfl⟩
 rw [i1]
 go_wp2_with (fail)
 refine (rIn_any x 0 400 _).mono ?_
 rintro e wA ⟨rfl, rfl⟩
 rw [i2]
 go_wp2_with (fail)
 refine (rIn_any n 0 2000 _).mono ?_
 rintro e wA ⟨rfl, rfl⟩
 rw [i3]
 go_wp2_with (fail)
 clear i1 i2 i3
 go_loopw [11] (fun i wr => ∃ (k : Nat) (p q : Value) (od : Option Sp.O), k ≤ m ∧ i = .int .i64 k ∧ EB wr (w.heap.size + 1) d x n p q ∧ OD wr (w.heap.size + 1) p od ∧ docOf od = Sp.docAfter d x n none (l.take k) ∧ Below w.heap.size w wr) (fun i _ => m - (intOf i).toNat)
 case atStart => exact ⟨0, .pointer none, .pointer none, none, by omega, rfl, unhide HE0, rfl, rfl, unhide HB0⟩
 case round =>
  obtain ⟨k, p, q, od, hk, rfl, heb, hod, hdoc, hbel⟩ := hrel
  by_cases hlt : k < m
  ·have hkl : k < l.length := by have := unhide HM; omega
   have hkr : k < (Sp.run d x n none l).length := by have := unhide HLEN; omega
   obtain ⟨q0, q1, q2⟩ := unhide HS k hkl
   obtain ⟨r0, r1, r2⟩ := unhide HANS k hkr
   rw [run_at d x n l none k hkl hkr, ← hdoc] at r0 r1 r2
   obtain ⟨o, ho⟩ : ∃ o, o = l[k] := ⟨_, rfl⟩
   rw [← ho] at q0 q1 q2 r0 r1 r2
   have hok := unhide HL o (by rw [ho]; exact List.getElem_mem hkl)
   rw [Lod.at0 hok] at r1
   have hat0 : (Sp.step d x n (docOf od) o).1.2.1 = 0 := Lod.at0 hok
   obtain ⟨ct, hct⟩ : ∃ ct, ct = (Sp.step d x n (docOf od) o).1 := ⟨_, rfl⟩
   rw [← hct] at r0 r2 hat0
   have s0 := cell_low hbel _ _ hsb q0
   have s1 := cell_low hbel _ _ hsb q1
   have s2 := cell_low hbel _ _ hsb q2
   have a0 := cell_low hbel _ _ hab r0
   have a1 := cell_low hbel _ _ hab r1
   have a2 := cell_low hbel _ _ hab r2
   have hszr := hbel.size
   have hsbr : sb < wr.heap.size := by omega
   have habr : ab < wr.heap.size := by omega
   have HSTEP : Hid (∀ W : World, Below wr.heap.size wr W → Calls Tryz.prog 39 #[.pointer (some ⟨w.heap.size + 1, 0, none⟩), .agg #[.int .i64 o.1, .string ⟨o.2.1.toArray⟩, .string ⟨o.2.2.toArray⟩], .agg #[.int .i64 ct.1, .int .i64 0, .string ⟨ct.2.2.toArray⟩]] W fun e w' => OStep (w.heap.size + 1) d x n od o W e w') := by
    intro W hW
    have := rStep_any (k := o.1) (s := o.2.1) (t := o.2.2) hok (heb.low hW) (hod.kept (KeptX.of_below hW)) (unhide HC) ((unhide HT).below ((hbel.trans (hW.mono hszr)).mono hng))
    rw [show ((o.1, o.2.1, o.2.2) : Sp.St) = o from rfl, ← hct] at this
    unfold ansA at this
    rw [hat0] at this
    exact this
   have HDOC := hide hdoc
   have HBEL := hide hbel
   have HO := hide ho
   clear q0 q1 q2 r0 r1 r2 heb hod hdoc hbel hct hok ho hat0
   obtain ⟨c1, c0, c2⟩ := ct
   simp only at a0 a2 HSTEP
   go_upto_region 10 with (fail)
   go_cut [12] (fun s12 wx => (∃ b : Bool, s12 = .bool b) ∧ Below wr.heap.size wr wx)
   case first =>
    by_cases hc1 : c1 = 2
    ·subst hc1
     cases c2 with
     | nil =>
      go_region_with (go_at_call 38; refine (unhide HNO 2 _).mono ?_; rintro e w4 ⟨rfl, hb4⟩; have b0 := cell_low (a := wr) (w := w4) ⟨hb4.os, hb4.tape, hb4.output, hb4.size, hb4.block⟩ _ _ habr a0; have b1 := cell_low (a := wr) (w := w4) ⟨hb4.os, hb4.tape, hb4.output, hb4.size, hb4.block⟩ _ _ habr a1; have b2 := cell_low (a := wr) (w := w4) ⟨hb4.os, hb4.tape, hb4.output, hb4.size, hb4.block⟩ _ _ habr a2)
      all_goals (
       go_wp2_with (fail)
       go_meet
       exact ⟨⟨_, rfl⟩, ⟨hb4.os, hb4.tape, hb4.output, hb4.size, hb4.block⟩⟩)
     | cons z zs =>
      go_region_with (go_at_call 38; refine (unhide HNO 2 _).mono ?_; rintro e w4 ⟨rfl, hb4⟩; have b0 := cell_low (a := wr) (w := w4) ⟨hb4.os, hb4.tape, hb4.output, hb4.size, hb4.block⟩ _ _ habr a0; have b1 := cell_low (a := wr) (w := w4) ⟨hb4.os, hb4.tape, hb4.output, hb4.size, hb4.block⟩ _ _ habr a1; have b2 := cell_low (a := wr) (w := w4) ⟨hb4.os, hb4.tape, hb4.output, hb4.size, hb4.block⟩ _ _ habr a2)
      all_goals (
       go_wp2_with (fail)
       go_meet
       exact ⟨⟨_, rfl⟩, ⟨hb4.os, hb4.tape, hb4.output, hb4.size, hb4.block⟩⟩)
    ·have hc1' : ((c1 : Int) == 2) = false := by rw [beq_eq_false_iff_ne]; omega
     clear hc1
     go_region_with (go_at_call 38; refine (unhide HNO 2 _).mono ?_; rintro e w4 ⟨rfl, hb4⟩; have b0 := cell_low (a := wr) (w := w4) ⟨hb4.os, hb4.tape, hb4.output, hb4.size, hb4.block⟩ _ _ habr a0; have b1 := cell_low (a := wr) (w := w4) ⟨hb4.os, hb4.tape, hb4.output, hb4.size, hb4.block⟩ _ _ habr a1; have b2 := cell_low (a := wr) (w := w4) ⟨hb4.os, hb4.tape, hb4.output, hb4.size, hb4.block⟩ _ _ habr a2)
     all_goals (
      go_wp2_with (fail)
      go_meet
      exact ⟨⟨_, rfl⟩, ⟨hb4.os, hb4.tape, hb4.output, hb4.size, hb4.block⟩⟩)
   case rest =>
   obtain ⟨⟨b, rfl⟩, hbc⟩ := hcut
   have t0 := cell_low hbc _ _ hsbr s0
   have t1 := cell_low hbc _ _ hsbr s1
   have t2 := cell_low hbc _ _ hsbr s2
   have b0 := cell_low hbc _ _ habr a0
   have b1 := cell_low hbc _ _ habr a1
   have b2 := cell_low hbc _ _ habr a2
   have HBC := hide hbc
   clear s0 s1 s2 a0 a1 a2 hbc
   go_upto_region 12 with (fail)
   go_region_with (go_at_call 39; refine (unhide HSTEP _ ?_).mono ?_; exact ⟨(unhide HBC).os, (unhide HBC).tape, (unhide HBC).output, (unhide HBC).size, (unhide HBC).block⟩; rintro e w5 ⟨rfl, hk5, hex⟩)
   all_goals (
    obtain ⟨p', q', od', he5, hd5, hdoc5⟩ := hex
    have hwc : Below w.heap.size w wc.drew := by
     have h := (unhide HBEL).trans ((unhide HBC).mono (unhide HBEL).size)
     exact ⟨h.os, h.tape, h.output, h.size, h.block⟩
    have hb5 : Below w.heap.size w w5 := hwc.trans (hk5.below (Nat.le_succ _) hwc.size)
    have hdoc6 : docOf od' = Sp.docAfter d x n none (l.take (k + 1)) := by
     rw [List.take_succ_eq_append_getElem hkl, Sp.after_snoc, ← unhide HDOC, ← unhide HO]; exact hdoc5
    have HE5 := hide he5
    have HD5 := hide hd5
    have HDOC6 := hide hdoc6
    have HB5 := hide hb5
    clear he5 hd5 hdoc5 hdoc6 hb5 hwc hk5 t0 t1 t2 b0 b1 b2
    go_wp2_with (fail)
    go_roundw
    case rel => (repeat apply Exists.intro); exact ⟨show k + 1 ≤ m by omega, by go_num, unhide HE5, unhide HD5, unhide HDOC6, unhide HB5⟩
    case measure => simp only [intOf]; omega)
  ·go_wp2_with (fail)
   go_ret
   exact ⟨rfl, hbel⟩
end Go.Proofs.YtdpomdelmdofmaaGreatDoor

namespace Go.Proofs.YtdpomdelmdofmaaGreatDoor
open Go.RowKit
set_option maxRecDepth 100000 in
set_option maxHeartbeats 16000000 in
theorem Fits_bad1 {d x n : Int} {sb so ab m cap : Nat} {w : World} (i1 : Sp.inB d 1 20 = false) (hcap : m ≤ cap) (hcm : cap ≤ maxLen)
  (han : ∀ k, k < m → w.cell? ⟨ab, k * 3, none⟩ = some (.int .i64 2) ∧ w.cell? ⟨ab, k * 3 + 1, none⟩ = some (.int .i64 0) ∧ w.cell? ⟨ab, k * 3 + 2, none⟩ = some (.string ⟨#[]⟩)) (hab : ab < w.heap.size) :
  Calls Tryz.prog 29 #[.agg #[.int .i64 d, .int .i64 x, .int .i64 n], .slice (some ⟨sb, so, none⟩) m cap, .slice (some ⟨ab, 0, none⟩) m m] w fun e w' => e = .returned (.bool true) ∧ Below w.heap.size w w' := by
 have hmb : (m : Int) ≤ 9223372036854775807 := by unfold maxLen at hcm; omega
 have HAN := hide han
 have hb0 : Below w.heap.size w ((w.alloc (.cells #[.int .i64 d, .int .i64 x, .int .i64 n] 23)).alloc (.cells #[.int .i64 d, .int .i64 x, .int .i64 n, .pointer none, .pointer none] 68)) := ((Below.refl _ _).alloc (Nat.le_refl _) _).alloc (by simp) _
 have HB0 := hide hb0
 have HNO := hide (fun (k : Nat) (w : World) => rNo_any k w)
 unfold ansV at HNO
 clear han hb0
 go_enter Tryz.func29, Tryz.ntmps29
 go_wp2_with (fail)
 refine (rIn_any d 1 20 _).mono ?_
 rintro e wA ⟨rfl, rfl⟩
 rw [i1]
 go_wp2_with (fail)
 refine (rIn_any x 0 400 _).mono ?_
 rintro e wA ⟨rfl, rfl⟩
 skip
 go_wp2_with (fail)
 refine (rIn_any n 0 2000 _).mono ?_
 rintro e wA ⟨rfl, rfl⟩
 skip
 go_wp2_with (fail)
 go_loopw [11] (fun i wr => ∃ (k : Nat), k ≤ m ∧ i = .int .i64 k ∧ Below w.heap.size w wr) (fun i _ => m - (intOf i).toNat)
 case atStart => exact ⟨0, by omega, rfl, unhide HB0⟩
 case round =>
  obtain ⟨k, hk, rfl, hbel⟩ := hrel
  by_cases hlt : k < m
  ·obtain ⟨r0, r1, r2⟩ := unhide HAN k hlt
   have a0 := cell_low hbel _ _ hab r0
   have a1 := cell_low hbel _ _ hab r1
   have a2 := cell_low hbel _ _ hab r2
   have hszr := hbel.size
   have habr : ab < wr.heap.size := by omega
   have HBEL := hide hbel
   clear r0 r1 r2 hbel
   go_upto_region 10 with (fail)
   go_region_with (go_at_call 38; refine (unhide HNO 2 _).mono ?_; rintro e w4 ⟨rfl, hb4⟩; have b0 := cell_low (a := wr) (w := w4) ⟨hb4.os, hb4.tape, hb4.output, hb4.size, hb4.block⟩ _ _ habr a0; have b1 := cell_low (a := wr) (w := w4) ⟨hb4.os, hb4.tape, hb4.output, hb4.size, hb4.block⟩ _ _ habr a1; have b2 := cell_low (a := wr) (w := w4) ⟨hb4.os, hb4.tape, hb4.output, hb4.size, hb4.block⟩ _ _ habr a2)
   all_goals (
    have hb5 : Below w.heap.size w w4 := (unhide HBEL).trans (Below.mono (B := wr.heap.size) (w := wr) ⟨hb4.os, hb4.tape, hb4.output, hb4.size, hb4.block⟩ hszr)
    have HB5 := hide hb5
    clear hb4 hb5 b0 b1 b2
    go_wp2_with (fail)
    exact ⟨⟨k + 1, by omega, by go_num, unhide HB5⟩, by simp only [intOf]; omega⟩)
  ·go_wp2_with (fail)
   go_ret
   exact ⟨rfl, hbel⟩
set_option maxRecDepth 100000 in
set_option maxHeartbeats 16000000 in
theorem Fits_bad2 {d x n : Int} {sb so ab m cap : Nat} {w : World} (i1 : Sp.inB d 1 20 = true) (i2 : Sp.inB x 0 400 = false) (hcap : m ≤ cap) (hcm : cap ≤ maxLen)
  (han : ∀ k, k < m → w.cell? ⟨ab, k * 3, none⟩ = some (.int .i64 2) ∧ w.cell? ⟨ab, k * 3 + 1, none⟩ = some (.int .i64 0) ∧ w.cell? ⟨ab, k * 3 + 2, none⟩ = some (.string ⟨#[]⟩)) (hab : ab < w.heap.size) :
  Calls Tryz.prog 29 #[.agg #[.int .i64 d, .int .i64 x, .int .i64 n], .slice (some ⟨sb, so, none⟩) m cap, .slice (some ⟨ab, 0, none⟩) m m] w fun e w' => e = .returned (.bool true) ∧ Below w.heap.size w w' := by
 have hmb : (m : Int) ≤ 9223372036854775807 := by unfold maxLen at hcm; omega
 have HAN := hide han
 have hb0 : Below w.heap.size w ((w.alloc (.cells #[.int .i64 d, .int .i64 x, .int .i64 n] 23)).alloc (.cells #[.int .i64 d, .int .i64 x, .int .i64 n, .pointer none, .pointer none] 68)) := ((Below.refl _ _).alloc (Nat.le_refl _) _).alloc (by simp) _
 have HB0 := hide hb0
 have HNO := hide (fun (k : Nat) (w : World) => rNo_any k w)
 unfold ansV at HNO
 clear han hb0
 go_enter Tryz.func29, Tryz.ntmps29
 go_wp2_with (fail)
 refine (rIn_any d 1 20 _).mono ?_
 rintro e wA ⟨rfl, rfl⟩
 rw [i1]
 go_wp2_with (fail)
 refine (rIn_any x 0 400 _).mono ?_
 rintro e wA ⟨rfl, rfl⟩
 rw [i2]
 go_wp2_with (fail)
 refine (rIn_any n 0 2000 _).mono ?_
 rintro e wA ⟨rfl, rfl⟩
 skip
 go_wp2_with (fail)
 go_loopw [11] (fun i wr => ∃ (k : Nat), k ≤ m ∧ i = .int .i64 k ∧ Below w.heap.size w wr) (fun i _ => m - (intOf i).toNat)
 case atStart => exact ⟨0, by omega, rfl, unhide HB0⟩
 case round =>
  obtain ⟨k, hk, rfl, hbel⟩ := hrel
  by_cases hlt : k < m
  ·obtain ⟨r0, r1, r2⟩ := unhide HAN k hlt
   have a0 := cell_low hbel _ _ hab r0
   have a1 := cell_low hbel _ _ hab r1
   have a2 := cell_low hbel _ _ hab r2
   have hszr := hbel.size
   have habr : ab < wr.heap.size := by omega
   have HBEL := hide hbel
   clear r0 r1 r2 hbel
   go_upto_region 10 with (fail)
   go_region_with (go_at_call 38; refine (unhide HNO 2 _).mono ?_; rintro e w4 ⟨rfl, hb4⟩; have b0 := cell_low (a := wr) (w := w4) ⟨hb4.os, hb4.tape, hb4.output, hb4.size, hb4.block⟩ _ _ habr a0; have b1 := cell_low (a := wr) (w := w4) ⟨hb4.os, hb4.tape, hb4.output, hb4.size, hb4.block⟩ _ _ habr a1; have b2 := cell_low (a := wr) (w := w4) ⟨hb4.os, hb4.tape, hb4.output, hb4.size, hb4.block⟩ _ _ habr a2)
   all_goals (
    have hb5 : Below w.heap.size w w4 := (unhide HBEL).trans (Below.mono (B := wr.heap.size) (w := wr) ⟨hb4.os, hb4.tape, hb4.output, hb4.size, hb4.block⟩ hszr)
    have HB5 := hide hb5
    clear hb4 hb5 b0 b1 b2
    go_wp2_with (fail)
    exact ⟨⟨k + 1, by omega, by go_num, unhide HB5⟩, by simp only [intOf]; omega⟩)
  ·go_wp2_with (fail)
   go_ret
   exact ⟨rfl, hbel⟩
set_option maxRecDepth 100000 in
set_option maxHeartbeats 16000000 in
theorem Fits_bad3 {d x n : Int} {sb so ab m cap : Nat} {w : World} (i1 : Sp.inB d 1 20 = true) (i2 : Sp.inB x 0 400 = true) (i3 : Sp.inB n 0 2000 = false) (hcap : m ≤ cap) (hcm : cap ≤ maxLen)
  (han : ∀ k, k < m → w.cell? ⟨ab, k * 3, none⟩ = some (.int .i64 2) ∧ w.cell? ⟨ab, k * 3 + 1, none⟩ = some (.int .i64 0) ∧ w.cell? ⟨ab, k * 3 + 2, none⟩ = some (.string ⟨#[]⟩)) (hab : ab < w.heap.size) :
  Calls Tryz.prog 29 #[.agg #[.int .i64 d, .int .i64 x, .int .i64 n], .slice (some ⟨sb, so, none⟩) m cap, .slice (some ⟨ab, 0, none⟩) m m] w fun e w' => e = .returned (.bool true) ∧ Below w.heap.size w w' := by
 have hmb : (m : Int) ≤ 9223372036854775807 := by unfold maxLen at hcm; omega
 have HAN := hide han
 have hb0 : Below w.heap.size w ((w.alloc (.cells #[.int .i64 d, .int .i64 x, .int .i64 n] 23)).alloc (.cells #[.int .i64 d, .int .i64 x, .int .i64 n, .pointer none, .pointer none] 68)) := ((Below.refl _ _).alloc (Nat.le_refl _) _).alloc (by simp) _
 have HB0 := hide hb0
 have HNO := hide (fun (k : Nat) (w : World) => rNo_any k w)
 unfold ansV at HNO
 clear han hb0
 go_enter Tryz.func29, Tryz.ntmps29
 go_wp2_with (fail)
 refine (rIn_any d 1 20 _).mono ?_
 rintro e wA ⟨rfl, rfl⟩
 rw [i1]
 go_wp2_with (fail)
 refine (rIn_any x 0 400 _).mono ?_
 rintro e wA ⟨rfl, rfl⟩
 rw [i2]
 go_wp2_with (fail)
 refine (rIn_any n 0 2000 _).mono ?_
 rintro e wA ⟨rfl, rfl⟩
 rw [i3]
 go_wp2_with (fail)
 go_loopw [11] (fun i wr => ∃ (k : Nat), k ≤ m ∧ i = .int .i64 k ∧ Below w.heap.size w wr) (fun i _ => m - (intOf i).toNat)
 case atStart => exact ⟨0, by omega, rfl, unhide HB0⟩
 case round =>
  obtain ⟨k, hk, rfl, hbel⟩ := hrel
  by_cases hlt : k < m
  ·obtain ⟨r0, r1, r2⟩ := unhide HAN k hlt
   have a0 := cell_low hbel _ _ hab r0
   have a1 := cell_low hbel _ _ hab r1
   have a2 := cell_low hbel _ _ hab r2
   have hszr := hbel.size
   have habr : ab < wr.heap.size := by omega
   have HBEL := hide hbel
   clear r0 r1 r2 hbel
   go_upto_region 10 with (fail)
   go_region_with (go_at_call 38; refine (unhide HNO 2 _).mono ?_; rintro e w4 ⟨rfl, hb4⟩; have b0 := cell_low (a := wr) (w := w4) ⟨hb4.os, hb4.tape, hb4.output, hb4.size, hb4.block⟩ _ _ habr a0; have b1 := cell_low (a := wr) (w := w4) ⟨hb4.os, hb4.tape, hb4.output, hb4.size, hb4.block⟩ _ _ habr a1; have b2 := cell_low (a := wr) (w := w4) ⟨hb4.os, hb4.tape, hb4.output, hb4.size, hb4.block⟩ _ _ habr a2)
   all_goals (
    have hb5 : Below w.heap.size w w4 := (unhide HBEL).trans (Below.mono (B := wr.heap.size) (w := wr) ⟨hb4.os, hb4.tape, hb4.output, hb4.size, hb4.block⟩ hszr)
    have HB5 := hide hb5
    clear hb4 hb5 b0 b1 b2
    go_wp2_with (fail)
    exact ⟨⟨k + 1, by omega, by go_num, unhide HB5⟩, by simp only [intOf]; omega⟩)
  ·go_wp2_with (fail)
   go_ret
   exact ⟨rfl, hbel⟩
set_option maxRecDepth 100000 in
set_option maxHeartbeats 16000000 in
theorem Fits_nil {d x n : Int} {pa pb : Option Addr} {cap cap2 : Nat} {w : World} :
  Calls Tryz.prog 29 #[.agg #[.int .i64 d, .int .i64 x, .int .i64 n], .slice pa 0 cap, .slice pb 0 cap2] w fun e w' => e = .returned (.bool true) ∧ Below w.heap.size w w' := by
 go_enter Tryz.func29, Tryz.ntmps29
 go_wp2_with (fail)
 refine (rIn_any d 1 20 _).mono ?_
 rintro e wA ⟨rfl, rfl⟩
 go_wp2_with (fail)
 refine (rIn_any x 0 400 _).mono ?_
 rintro e wA ⟨rfl, rfl⟩
 go_wp2_with (fail)
 refine (rIn_any n 0 2000 _).mono ?_
 rintro e wA ⟨rfl, rfl⟩
 go_wp2_with (fail)
 refine wp_loop_rounds 1 ?_
 rw [rounds_succ]
 go_wp2_with (fail)
 go_ret
 exact ⟨rfl, ((Below.refl _ _).alloc (Nat.le_refl _) _).alloc (by simp) _⟩
end Go.Proofs.YtdpomdelmdofmaaGreatDoor
