/-
  Walk of the reference's own escape.
-/
import Derived.Test.YtdpomdelmdofmaaGreatDoorPart30
import Derived.Test.YtdpomdelmdofmaaGreatDoorPart21
namespace Go.Proofs.YtdpomdelmdofmaaGreatDoor
open Go.RowKit
theorem short_0 (w : World) : (Instr.index 9 (.string ⟨#[34, 92, 47, 98, 102, 110, 114, 116]⟩) (.int .i64 0)).run Tryz.prog w = .ok (.int .u8 34) w := by kernel_rfl
theorem short_1 (w : World) : (Instr.index 9 (.string ⟨#[34, 92, 47, 98, 102, 110, 114, 116]⟩) (.int .i64 1)).run Tryz.prog w = .ok (.int .u8 92) w := by kernel_rfl
theorem short_2 (w : World) : (Instr.index 9 (.string ⟨#[34, 92, 47, 98, 102, 110, 114, 116]⟩) (.int .i64 2)).run Tryz.prog w = .ok (.int .u8 47) w := by kernel_rfl
theorem short_3 (w : World) : (Instr.index 9 (.string ⟨#[34, 92, 47, 98, 102, 110, 114, 116]⟩) (.int .i64 3)).run Tryz.prog w = .ok (.int .u8 98) w := by kernel_rfl
theorem short_4 (w : World) : (Instr.index 9 (.string ⟨#[34, 92, 47, 98, 102, 110, 114, 116]⟩) (.int .i64 4)).run Tryz.prog w = .ok (.int .u8 102) w := by kernel_rfl
theorem short_5 (w : World) : (Instr.index 9 (.string ⟨#[34, 92, 47, 98, 102, 110, 114, 116]⟩) (.int .i64 5)).run Tryz.prog w = .ok (.int .u8 110) w := by kernel_rfl
theorem short_6 (w : World) : (Instr.index 9 (.string ⟨#[34, 92, 47, 98, 102, 110, 114, 116]⟩) (.int .i64 6)).run Tryz.prog w = .ok (.int .u8 114) w := by kernel_rfl
theorem short_7 (w : World) : (Instr.index 9 (.string ⟨#[34, 92, 47, 98, 102, 110, 114, 116]⟩) (.int .i64 7)).run Tryz.prog w = .ok (.int .u8 116) w := by kernel_rfl
theorem short_i (j : Nat) (hj : j < 8) (w : World) : (Instr.index 9 (.string ⟨#[34, 92, 47, 98, 102, 110, 114, 116]⟩) (.int .i64 j)).run Tryz.prog w = .ok (.int .u8 (escL j).toNat) w := by
 match j, hj with
 | 0, _ => exact short_0 w
 | 1, _ => exact short_1 w
 | 2, _ => exact short_2 w
 | 3, _ => exact short_3 w
 | 4, _ => exact short_4 w
 | 5, _ => exact short_5 w
 | 6, _ => exact short_6 w
 | 7, _ => exact short_7 w
theorem means_i (j : Nat) (hj : j < 8) : ∃ s : ByteArray, s.data.toList = Sp.encN (escV j) ∧ ∀ w : World, (Instr.slice 9 (.string ⟨#[34, 92, 47, 8, 12, 10, 13, 9]⟩) (some (.int .i64 j)) (some (.int .i64 ((j : Int) + 1))) none).run Tryz.prog w = .ok (.string s) w := by
 match j, hj with
 | 0, _ => exact ⟨⟨#[34]⟩, by decide, fun w => by kernel_rfl⟩
 | 1, _ => exact ⟨⟨#[92]⟩, by decide, fun w => by kernel_rfl⟩
 | 2, _ => exact ⟨⟨#[47]⟩, by decide, fun w => by kernel_rfl⟩
 | 3, _ => exact ⟨⟨#[8]⟩, by decide, fun w => by kernel_rfl⟩
 | 4, _ => exact ⟨⟨#[12]⟩, by decide, fun w => by kernel_rfl⟩
 | 5, _ => exact ⟨⟨#[10]⟩, by decide, fun w => by kernel_rfl⟩
 | 6, _ => exact ⟨⟨#[13]⟩, by decide, fun w => by kernel_rfl⟩
 | 7, _ => exact ⟨⟨#[9]⟩, by decide, fun w => by kernel_rfl⟩
theorem hexs_drop (k : Nat) : ∀ (n : Nat) (l : Sp.By) (m : Nat) (r : Sp.By), Sp.hexs k n l = some (m, r) → r = l.drop k := by
 induction k with
 | zero => intro n l m r h; injection h with h; injection h with h1 h2; rw [← h2]; rfl
 | succ k ih =>
  intro n l m r h
  rw [Sp.hexs] at h
  split at h
  ·cases h
  ·have := ih _ _ _ _ h
   cases l with
   | nil => simpa using this
   | cons c l => simpa using this
theorem esc_tab {c : UInt8} {r : Sp.By} {j : Nat} (hk : Sp.tk (c :: r) (escL j) = true) (hj : j < 8) : Sp.esc (c :: r) = Sp.escIn (c :: r) Sp.escT := by
 have hne : ∀ j : Fin 8, escL j.val ≠ 117 := by decide
 unfold Sp.esc
 rw [if_neg]
 rw [tk_hd] at hk ⊢
 rw [eq_of_beq hk, beq_iff_eq]
 exact hne ⟨j, hj⟩
theorem four_cases {t : ByteArray} {p : Nat} {c : UInt8} {r2 : Sp.By} (hno : Sp.escIn (c :: r2) Sp.escT = none) (ha : At t p (92 :: c :: r2)) :
  (Sp.fourI (92 :: c :: r2) = -1 ∧ Sp.esc (c :: r2) = none) ∨ ∃ (u : Nat) (r4 : Sp.By), Sp.fourI (92 :: c :: r2) = (u : Int) ∧ u < 65536 ∧ At t (p + 6) r4 ∧
   ((56320 ≤ u ∧ u < 57344 ∧ Sp.esc (c :: r2) = none) ∨ ((u < 55296 ∨ 57344 ≤ u) ∧ Sp.esc (c :: r2) = some (u, r4)) ∨
    (55296 ≤ u ∧ u < 56320 ∧ ((Sp.fourI r4 < 56320 ∨ 57344 ≤ Sp.fourI r4) ∧ Sp.esc (c :: r2) = none ∨ ∃ (b : Nat) (r5 : Sp.By), Sp.fourI r4 = (b : Int) ∧ 56320 ≤ b ∧ b < 57344 ∧ At t (p + 12) r5 ∧ Sp.esc (c :: r2) = some (65536 + (u - 55296) * 1024 + (b - 56320), r5)))) := by
 by_cases hk : Sp.tk (c :: r2) 117 = true
 ·have he : Sp.esc (c :: r2) = Sp.scal r2 := by unfold Sp.esc; rw [if_pos hk]; rfl
  rw [he]
  cases hx : Sp.hexs 4 0 r2 with
  | none =>
   left
   refine ⟨?_, by unfold Sp.scal; rw [hx]⟩
   unfold Sp.fourI
   split
   ·rw [show (92 :: c :: r2 : Sp.By).drop 2 = r2 from rfl, hx]
   ·rfl
  | some y =>
   obtain ⟨u, r4⟩ := y
   have hl := hexs_len _ _ _ _ _ hx
   have hu := hexs4 hx
   have hd := hexs_drop _ _ _ _ _ hx
   have hf : Sp.fourI (92 :: c :: r2) = (u : Int) := by
    rw [fourI_yes (l := 92 :: c :: r2) ⟨by simp; omega, rfl, hk⟩, show (92 :: c :: r2 : Sp.By).drop 2 = r2 from rfl, hx]
   have hat : At t (p + 6) r4 := by
    have := ha.add 6 (by simp; omega)
    rw [hd]
    exact this
   right
   refine ⟨u, r4, hf, hu, hat, ?_⟩
   unfold Sp.scal
   rw [hx]
   simp only
   by_cases c1 : u < 55296 ∨ 57344 ≤ u
   ·rw [if_pos c1]; exact Or.inr (Or.inl ⟨c1, rfl⟩)
   ·rw [if_neg c1]
    by_cases c2 : 56320 ≤ u
    ·rw [if_pos c2]; exact Or.inl ⟨c2, by omega, rfl⟩
    ·rw [if_neg c2]
     refine Or.inr (Or.inr ⟨by omega, by omega, ?_⟩)
     by_cases c3 : Sp.tk r4 92 = true
     ·rw [if_pos c3]
      by_cases c4 : Sp.tk r4.tail 117 = true
      ·rw [if_pos c4]
       have e2 : r4.drop 2 = r4.tail.tail := by
        match r4 with
        | [] => rfl
        | [_] => rfl
        | _ :: _ :: _ => rfl
       have k1 := tk_cons c3
       have k2 := tk_cons c4
       cases hy : Sp.hexs 4 0 r4.tail.tail with
       | none =>
        left
        refine ⟨Or.inl ?_, rfl⟩
        unfold Sp.fourI
        split
        ·rw [e2, hy]; simp only; omega
        ·omega
       | some z =>
        obtain ⟨b, r5⟩ := z
        have hl2 := hexs_len _ _ _ _ _ hy
        have hd2 := hexs_drop _ _ _ _ _ hy
        have hf2 : Sp.fourI r4 = (b : Int) := by
         rw [fourI_yes (l := r4) ⟨by omega, c3, c4⟩, e2, hy]
        simp only
        by_cases c5 : b < 56320 ∨ 57344 ≤ b
        ·rw [if_pos c5, hf2]
         exact Or.inl ⟨by omega, rfl⟩
        ·rw [if_neg c5]
         right
         refine ⟨b, r5, hf2, by omega, by omega, ?_, rfl⟩
         have := hat.add 6 (by omega)
         rw [hd2, ← e2, List.drop_drop]
         exact this
      ·rw [if_neg c4]
       exact Or.inl ⟨Or.inl (by rw [fourI_no (fun h => c4 h.2.2)]; omega), rfl⟩
     ·rw [if_neg c3]
      exact Or.inl ⟨Or.inl (by rw [fourI_no (fun h => c3 h.2.1)]; omega), rfl⟩
 ·left
  refine ⟨fourI_no (fun h => hk h.2.2), ?_⟩
  unfold Sp.esc
  rw [if_neg hk]; exact hno
def EscEnd (o : Option (Nat × Sp.By)) (t : ByteArray) (w : World) (e : Ending) (w' : World) : Prop :=
 ((∃ (c : Nat) (r : Sp.By) (s : ByteArray) (q : Nat), o = some (c, r) ∧ e = .returned (.tuple #[.string s, .int .i64 q]) ∧ s.data.toList = Sp.encN c ∧ At t q r ∧ 0 < q) ∨ (o = none ∧ e = .returned (.tuple #[.string ⟨#[]⟩, .int .i64 0]))) ∧ Below w.heap.size w w'
set_option maxRecDepth 100000 in
set_option maxHeartbeats 8000000 in
theorem rEscape_any {w : World} {R : Nat} {t : ByteArray} {p : Nat} {r : Sp.By} (h : RS w R t) (ha : At t p (92 :: r)) :
  Calls Tryz.prog 172 #[.pointer (some ⟨R, 0, none⟩), .int .i64 p] w fun e w' => EscEnd (Sp.esc r) t w e w' := by
 have c0 : w.cell? ⟨R, 0, none⟩ = some (.string t) := h
 have hsz := ha.small
 have hlen := ha.len
 have hple := ha.le
 have HRS := hide h
 have HA := hide ha
 cases r with
 | nil =>
  have e1 : (t.size : Int) ≤ (p : Int) + 1 := by simp at hlen; omega
  clear h ha hlen
  go_enter Tryz.func172, Tryz.ntmps172
  go_wp2_with (fail)
  go_ret2
  exact ⟨Or.inr ⟨rfl, rfl⟩, bel_same⟩
 | cons c r2 =>
  have hn := ha.next
  obtain ⟨p1, hp1⟩ : ∃ p1, p1 = p + 1 := ⟨_, rfl⟩
  rw [← hp1] at hn
  have hlt1 := hn.lt
  have e1 : ¬ t.size ≤ p1 := by omega
  have hpi : (p : Int) + 1 = (p1 : Int) := by omega
  have hwp : IntKind.i64.wrap (p1 : Int) = p1 := by rw [IntKind.wrap_i64]; omega
  have hby : t[p1]'hlt1 = c := hn.byte
  have HBY := hide hby
  have HLEN := hide hlen
  have HP1 := hide hp1
  clear h ha hby hlen hp1 hn
  go_enter Tryz.func172, Tryz.ntmps172
  go_wp2_with (fail)
  go_loopw [8] (fun i wr => ∃ (j q : Nat), j ≤ 8 ∧ i = .int .i64 j ∧ Sp.escIn (c :: r2) Sp.escT = Sp.escIn (c :: r2) (Sp.escT.drop j) ∧ wr = w.drewN q) (fun i _ => 8 - (intOf i).toNat)
  case atStart => exact ⟨0, 0, by omega, rfl, rfl, rfl⟩
  case round =>
   obtain ⟨j, q, hj8, rfl, he, rfl⟩ := hrel
   have HE := hide he
   clear he
   by_cases hlt : j < 8
   ·have hidx := short_i j hlt
    obtain ⟨s, hs, hsl⟩ := means_i j hlt
    have HS := hide hs
    have hst := esc_step (c :: r2) j hlt
    have HST := hide hst
    have hcmp : (((escL j).toNat : Int) == ((t[p1]'hlt1).toNat : Int)) = Sp.tk (c :: r2) (escL j) := by
     rw [unhide HBY, tk_hd, ofNat_beq, Bool.eq_iff_iff]
     simp only [beq_iff_eq, decide_eq_true_eq]
     omega
    cases hk : Sp.tk (c :: r2) (escL j) with
    | true =>
     rw [hk] at hcmp
     have HK := hide hk
     clear hs hst hk
     go_wp2_with (fail)
     go_region
     all_goals (
      go_wp2_with (fail)
      go_ret2
      refine ⟨Or.inl ⟨escV j, r2, s, p + 2, ?_, by go_num, unhide HS, (unhide HA).next.next, by omega⟩, bel_same⟩
      rw [esc_tab (unhide HK) hlt, unhide HE, unhide HST, unhide HK]
      rfl)
    | false =>
     rw [hk] at hcmp
     have HK := hide hk
     clear hs hst hk
     go_wp2_with (fail)
     go_region
     all_goals (
      go_wp2_with (fail)
      exact ⟨⟨j + 1, q + 1, by omega, by go_num, by rw [unhide HE, unhide HST, unhide HK]; rfl, rfl⟩, by simp only [intOf]; omega⟩)
   ·obtain rfl : j = 8 := by omega
    have hno : Sp.escIn (c :: r2) Sp.escT = none := unhide HE
    have HNO := hide hno
    clear hno
    go_wp2_with (fail)
    refine (rFour_any (w := w.drewN q) (unhide HRS) (unhide HA)).mono ?_
    rintro e w' ⟨rfl, rfl⟩
    rcases four_cases (unhide HNO) (unhide HA) with ⟨h1, h2⟩ | ⟨u, r4, h1, hu, hat6, hrest⟩
    ·have hF : Sp.fourI (92 :: c :: r2) = -1 := h1
     have HO := hide h2
     clear h1 h2
     go_wp2_with (fail)
     go_ret2
     exact ⟨Or.inr ⟨unhide HO, rfl⟩, bel_same⟩
    ·have hF : Sp.fourI (92 :: c :: r2) = (u : Int) := h1
     have HAT := hide hat6
     clear h1 hat6
     rcases hrest with ⟨v1, v2, h2⟩ | ⟨v1, h2⟩ | ⟨v1, v2, hrest⟩
     ·have f1 : decide ((u : Int) < 0) = false := decide_eq_false (by omega)
      have f2 : decide ((56320 : Int) ≤ (u : Int)) = true := decide_eq_true (by omega)
      have f3 : decide ((u : Int) < 57344) = true := decide_eq_true (by omega)
      have HO := hide h2
      clear h2
      go_wp2_with (fail)
      go_ret2
      exact ⟨Or.inr ⟨unhide HO, rfl⟩, bel_same⟩
     ·have f1 : decide ((u : Int) < 0) = false := decide_eq_false (by omega)
      have HO := hide h2
      have HU := hide hu
      have hsc : Sp.Sc u := by unfold Sp.Sc; omega
      have HSC := hide hsc
      clear h2 hsc
      by_cases g1 : u < 55296
      ·have f2 : decide ((56320 : Int) ≤ (u : Int)) = false := decide_eq_false (by omega)
       have f3 : decide ((u : Int) < 55296) = true := decide_eq_true (by omega)
       clear v1 g1
       go_wp2_with (fail)
       refine (rCoded_any u (unhide HSC) _).mono ?_
       rintro e w2 ⟨⟨s, rfl, hs⟩, hb⟩
       have HS := hide hs
       have HB := hide hb
       clear hs hb
       go_wp2_with (fail)
       go_ret2
       exact ⟨Or.inl ⟨u, r4, s, p + 6, unhide HO, by go_num, unhide HS, unhide HAT, by omega⟩, bel_from (unhide HB)⟩
      ·have f2 : decide ((56320 : Int) ≤ (u : Int)) = true := decide_eq_true (by omega)
       have f3 : decide ((u : Int) < 57344) = false := decide_eq_false (by omega)
       have f4 : decide ((u : Int) < 55296) = false := decide_eq_false (by omega)
       have f5 : decide ((57344 : Int) ≤ (u : Int)) = true := decide_eq_true (by omega)
       clear v1 g1
       go_wp2_with (fail)
       refine (rCoded_any u (unhide HSC) _).mono ?_
       rintro e w2 ⟨⟨s, rfl, hs⟩, hb⟩
       have HS := hide hs
       have HB := hide hb
       clear hs hb
       go_wp2_with (fail)
       go_ret2
       exact ⟨Or.inl ⟨u, r4, s, p + 6, unhide HO, by go_num, unhide HS, unhide HAT, by omega⟩, bel_from (unhide HB)⟩
     ·have f1 : decide ((u : Int) < 0) = false := decide_eq_false (by omega)
      have f2 : decide ((56320 : Int) ≤ (u : Int)) = false := decide_eq_false (by omega)
      have f3 : decide ((u : Int) < 55296) = false := decide_eq_false (by omega)
      have f4 : decide ((57344 : Int) ≤ (u : Int)) = false := decide_eq_false (by omega)
      have HR := hide hrest
      have HV := hide (show 55296 ≤ u ∧ u < 56320 from ⟨v1, v2⟩)
      have h6 := rFour_any (w := w.drewN q) (p := p + 6) (unhide HRS) (unhide HAT)
      rw [show ((p + 6 : Nat) : Int) = (p : Int) + 6 by omega] at h6
      have H6 := hide h6
      clear hrest v1 v2 h6
      rcases unhide HR with ⟨hlow, h2⟩ | ⟨b, r5, h2, b1, b2, hat12, h3⟩
      ·have HO := hide h2
       clear h2
       by_cases g1 : Sp.fourI r4 < 56320
       ·have f5 : decide (Sp.fourI r4 < 56320) = true := decide_eq_true g1
        clear hlow g1
        go_wp2_with (fail)
        refine (unhide H6).mono ?_
        rintro e w' ⟨rfl, rfl⟩
        go_wp2_with (fail)
        go_ret2
        exact ⟨Or.inr ⟨unhide HO, rfl⟩, bel_same⟩
       ·have f5 : decide (Sp.fourI r4 < 56320) = false := decide_eq_false g1
        have f6 : decide (57344 ≤ Sp.fourI r4) = true := decide_eq_true (by omega)
        clear hlow g1
        go_wp2_with (fail)
        refine (unhide H6).mono ?_
        rintro e w' ⟨rfl, rfl⟩
        go_wp2_with (fail)
        go_ret2
        exact ⟨Or.inr ⟨unhide HO, rfl⟩, bel_same⟩
      ·obtain ⟨V, hV⟩ : ∃ V, V = 65536 + (u - 55296) * 1024 + (b - 56320) := ⟨_, rfl⟩
       have hvi : 65536 + 1024 * ((u : Int) - 55296) + (b : Int) - 56320 = (V : Int) := by have := unhide HV; omega
       have hsc : Sp.Sc V := by unfold Sp.Sc; have := unhide HV; omega
       have HSC := hide hsc
       have f5 : decide ((b : Int) < 56320) = false := decide_eq_false (by omega)
       have f6 : decide ((57344 : Int) ≤ (b : Int)) = false := decide_eq_false (by omega)
       have HO := hide (show Sp.esc (c :: r2) = some (V, r5) by rw [h3, hV])
       have HAT12 := hide hat12
       clear hV hsc hat12 h3
       go_wp2_with (fail)
       refine (unhide H6).mono ?_
       rintro e w' ⟨rfl, rfl⟩
       have hb16 : u < 65536 := hu
       rw [h2]
       go_wp2_with (fail)
       refine (rCoded_any V (unhide HSC) _).mono ?_
       rintro e w2 ⟨⟨s, rfl, hs⟩, hb⟩
       have HS := hide hs
       have HB := hide hb
       clear hs hb
       go_wp2_with (fail)
       go_ret2
       exact ⟨Or.inl ⟨V, r5, s, p + 12, unhide HO, by go_num, unhide HS, unhide HAT12, by omega⟩, bel_from (unhide HB)⟩
end Go.Proofs.YtdpomdelmdofmaaGreatDoor

namespace Go.Proofs.YtdpomdelmdofmaaGreatDoor
def Sp.blks : List Sp.By := [[], [32], [10], [9, 13]]
def Sp.Bl (b : Sp.By) : Prop := b ∈ Sp.blks
theorem bl_all {b : Sp.By} (h : Sp.Bl b) : ∀ c ∈ b, Sp.isB c = true := by
 unfold Sp.Bl Sp.blks at h
 simp only [List.mem_cons, List.not_mem_nil, or_false] at h
 rcases h with rfl | rfl | rfl | rfl
 all_goals decide
theorem skB_all {b : Sp.By} (h : ∀ c ∈ b, Sp.isB c = true) (l : Sp.By) : Sp.skB (b ++ l) = Sp.skB l := by
 induction b with
 | nil => rfl
 | cons c r ih =>
  rw [List.cons_append, Sp.skB, if_pos (h c (by simp)), ih fun c hc => h c (by simp [hc])]
theorem Sp.Bl.sk {b : Sp.By} (h : Sp.Bl b) (l : Sp.By) : Sp.skB (b ++ l) = Sp.skB l := skB_all (bl_all h) l
theorem Sp.Bl.nd {b : Sp.By} (h : Sp.Bl b) {r : Sp.By} (hr : Sp.Nd r) : Sp.Nd (b ++ r) := by
 cases b with
 | nil => exact hr
 | cons c t =>
  intro c' t' e
  injection e with e1 e2
  subst e1
  have := bl_all h c (by simp)
  unfold Sp.isB at this
  simp only [Bool.or_eq_true, beq_iff_eq] at this
  rcases this with ((rfl | rfl) | rfl) | rfl
  all_goals exact ⟨by decide, by decide, by decide, by decide⟩
def Sp.num7 : List Sp.By := [[55], [55, 46, 48], [55, 48, 101, 45, 49], [48, 46, 55, 69, 49], [55, 101, 48], [55, 46, 48, 48, 101, 43, 48], [55, 48, 48, 69, 45, 50], [48, 46, 48, 48, 55, 101, 51]]
def Sp.num0 : List Sp.By := [[45, 48], [48], [48, 46, 48], [48, 101, 57, 57], [45, 48, 46, 48, 69, 45, 53]]
theorem nd_facts {r : Sp.By} (h : Sp.Nd r) : Sp.dg r = [] ∧ Sp.dgR r = r ∧ Sp.tk r 46 = false ∧ Sp.tk r 101 = false ∧ Sp.tk r 69 = false := by
 cases r with
 | nil => exact ⟨rfl, rfl, rfl, rfl, rfl⟩
 | cons c t =>
  obtain ⟨h1, h2, h3, h4⟩ := h c t rfl
  simp [Sp.dg, Sp.dgR, Sp.tk, h1, h2, h3, h4]
theorem numB7 (ng : Bool) {l : Sp.By} (hl : l ∈ Sp.num7) {r : Sp.By} (h : Sp.Nd r) : Sp.numB ng (l ++ r) = some ((ng, [55], 0), r) := by
 obtain ⟨h1, h2, h3, h4, h5⟩ := nd_facts h
 unfold Sp.num7 at hl
 simp only [List.mem_cons, List.not_mem_nil, or_false] at hl
 rcases hl with rfl | rfl | rfl | rfl | rfl | rfl | rfl | rfl
 all_goals simp [Sp.numB, Sp.dg, Sp.dgR, Sp.frac, Sp.expo, Sp.isD, Sp.exNum, h1, h2, h3, h4, h5, tk_hd]
 all_goals rfl
theorem num0_read {l : Sp.By} (hl : l ∈ Sp.num0) {r : Sp.By} (h : Sp.Nd r) : Sp.num (l ++ r) = some ((false, [], 0), r) := by
 obtain ⟨h1, h2, h3, h4, h5⟩ := nd_facts h
 unfold Sp.num0 at hl
 simp only [List.mem_cons, List.not_mem_nil, or_false] at hl
 rcases hl with rfl | rfl | rfl | rfl | rfl
 all_goals simp [Sp.num, Sp.numB, Sp.dg, Sp.dgR, Sp.frac, Sp.expo, Sp.isD, Sp.exNum, h1, h2, h3, h4, h5, tk_hd]
 all_goals rfl
def Sp.chrC : List Nat := [97, 233, 128512, 34, 10, 47, 92, 8364]
def Sp.plain : List Sp.By := [[97], [195, 169], [240, 159, 152, 128], [92, 34], [92, 110], [47], [92, 92], [226, 130, 172]]
def Sp.other : List Sp.By := [[92, 117, 48, 48, 54, 49], [92, 117, 48, 48, 69, 57], [92, 117, 100, 56, 51, 68, 92, 117, 68, 101, 48, 48], [92, 117, 48, 48, 50, 50], [92, 117, 48, 48, 48, 65], [92, 47], [92, 117, 48, 48, 53, 99], [92, 117, 50, 48, 97, 67]]
def Sp.Ch (p : Sp.By) (c : Nat) : Prop := ∀ l, Sp.chr (p ++ l) = some (c, l) ∧ Sp.tk (p ++ l) 34 = false
theorem ch_plain (k : Nat) (hk : k < 8) : Sp.Ch (Sp.plain.getD k []) (Sp.chrC.getD k 0) := by
 have he : ∀ (c : Nat) (p : Sp.By), Sp.Sc c → Sp.escS (Lib.encodeRune (c : Int)) = p → Sp.Ch p c := fun c p hc e l => e ▸ chr_esc c hc l
 match k, hk with
 | 0, _ => exact he 97 _ (by unfold Sp.Sc; omega) (by decide)
 | 1, _ => exact he 233 _ (by unfold Sp.Sc; omega) (by decide)
 | 2, _ => exact he 128512 _ (by unfold Sp.Sc; omega) (by decide)
 | 3, _ => exact fun l => ⟨rfl, rfl⟩
 | 4, _ => exact fun l => ⟨rfl, rfl⟩
 | 5, _ => exact he 47 _ (by unfold Sp.Sc; omega) (by decide)
 | 6, _ => exact fun l => ⟨rfl, rfl⟩
 | 7, _ => exact he 8364 _ (by unfold Sp.Sc; omega) (by decide)
theorem hexs_four {d1 d2 d3 d4 : UInt8} {n1 n2 n3 n4 : Nat} (h1 : Sp.hexd d1.toNat = some n1) (h2 : Sp.hexd d2.toNat = some n2) (h3 : Sp.hexd d3.toNat = some n3) (h4 : Sp.hexd d4.toNat = some n4) (l : Sp.By) :
  Sp.hexs 4 0 (d1 :: d2 :: d3 :: d4 :: l) = some ((((0 * 16 + n1) * 16 + n2) * 16 + n3) * 16 + n4, l) := by
 simp only [Sp.hexs, pk_cons, List.tail_cons, h1, h2, h3, h4]
theorem ch_u {d1 d2 d3 d4 : UInt8} {n1 n2 n3 n4 m : Nat} (h1 : Sp.hexd d1.toNat = some n1) (h2 : Sp.hexd d2.toNat = some n2) (h3 : Sp.hexd d3.toNat = some n3) (h4 : Sp.hexd d4.toNat = some n4)
  (hm : (((0 * 16 + n1) * 16 + n2) * 16 + n3) * 16 + n4 = m) (hs : m < 55296) : Sp.Ch [92, 117, d1, d2, d3, d4] m := by
 intro l
 refine ⟨?_, rfl⟩
 simp only [List.cons_append, List.nil_append]
 unfold Sp.chr
 rw [if_pos (show Sp.tk (92 :: _) 92 = true from rfl), List.tail_cons]
 unfold Sp.esc
 rw [if_pos (show Sp.tk (117 :: _) 117 = true from rfl), List.tail_cons]
 unfold Sp.scal
 rw [hexs_four h1 h2 h3 h4, hm]
 simp only
 rw [if_pos (Or.inl hs)]
theorem ch_pair : Sp.Ch [92, 117, 100, 56, 51, 68, 92, 117, 68, 101, 48, 48] 128512 := by
 intro l
 refine ⟨?_, rfl⟩
 simp only [List.cons_append, List.nil_append]
 unfold Sp.chr
 rw [if_pos (show Sp.tk (92 :: _) 92 = true from rfl), List.tail_cons]
 unfold Sp.esc
 rw [if_pos (show Sp.tk (117 :: _) 117 = true from rfl), List.tail_cons]
 unfold Sp.scal
 rw [hexs_four (n1 := 13) (n2 := 8) (n3 := 3) (n4 := 13) (by decide) (by decide) (by decide) (by decide)]
 simp only
 rw [if_neg (by omega), if_neg (by omega), if_pos (show Sp.tk (92 :: _) 92 = true from rfl), List.tail_cons, if_pos (show Sp.tk (117 :: _) 117 = true from rfl), List.tail_cons,
  hexs_four (n1 := 13) (n2 := 14) (n3 := 0) (n4 := 0) (by decide) (by decide) (by decide) (by decide)]
 simp only
 rw [if_neg (by omega)]
theorem ch_other (k : Nat) (hk : k < 8) : Sp.Ch (Sp.other.getD k []) (Sp.chrC.getD k 0) := by
 match k, hk with
 | 0, _ => exact ch_u (n1 := 0) (n2 := 0) (n3 := 6) (n4 := 1) (by decide) (by decide) (by decide) (by decide) (by decide) (by decide)
 | 1, _ => exact ch_u (n1 := 0) (n2 := 0) (n3 := 14) (n4 := 9) (by decide) (by decide) (by decide) (by decide) (by decide) (by decide)
 | 2, _ => exact ch_pair
 | 3, _ => exact ch_u (n1 := 0) (n2 := 0) (n3 := 2) (n4 := 2) (by decide) (by decide) (by decide) (by decide) (by decide) (by decide)
 | 4, _ => exact ch_u (n1 := 0) (n2 := 0) (n3 := 0) (n4 := 10) (by decide) (by decide) (by decide) (by decide) (by decide) (by decide)
 | 5, _ => exact fun l => ⟨rfl, rfl⟩
 | 6, _ => exact ch_u (n1 := 0) (n2 := 0) (n3 := 5) (n4 := 12) (by decide) (by decide) (by decide) (by decide) (by decide) (by decide)
 | 7, _ => exact ch_u (n1 := 2) (n2 := 0) (n3 := 10) (n4 := 12) (by decide) (by decide) (by decide) (by decide) (by decide) (by decide)
inductive Sp.Chs : Sp.By → List Nat → Prop
 | nil : Sp.Chs [] []
 | snoc {a : Sp.By} {cs : List Nat} {p : Sp.By} {c : Nat} : Sp.Chs a cs → Sp.Ch p c → Sp.Chs (a ++ p) (cs ++ [c])
theorem chs_read {a : Sp.By} {cs : List Nat} (h : Sp.Chs a cs) : ∀ (l s r : Sp.By) (f : Nat), Sp.chrs f l = some (s, r) → Sp.chrs (f + cs.length) (a ++ l) = some (cs.flatMap Sp.encN ++ s, r) := by
 induction h with
 | nil => intro l s r f h; exact h
 | snoc ha hp ih =>
  rename_i a cs p c
  intro l s r f h
  obtain ⟨h1, h2⟩ := hp l
  have h3 : Sp.chrs (f + 1) (p ++ l) = some (Sp.encN c ++ s, r) := by
   rw [Sp.chrs, h2, if_neg (by decide), h1]
   simp only
   rw [h]
  have h4 := ih (p ++ l) _ r (f + 1) h3
  rw [List.append_assoc]
  have e1 : f + 1 + cs.length = f + (cs ++ [c]).length := by simp; omega
  have e2 : cs.flatMap Sp.encN ++ (Sp.encN c ++ s) = (cs ++ [c]).flatMap Sp.encN ++ s := by simp
  rw [← e1, ← e2]
  exact h4
theorem chrs_more (f : Nat) : ∀ (g : Nat) (l s r : Sp.By), f ≤ g → Sp.chrs f l = some (s, r) → Sp.chrs g l = some (s, r) := by
 induction f with
 | zero => intro g l s r _ h; cases h
 | succ f ih =>
  intro g l s r hg h
  match g, hg with
  | g + 1, hg =>
   rw [Sp.chrs] at h ⊢
   split
   ·rename_i hk; rw [if_pos hk] at h; exact h
   ·rename_i hk
    rw [if_neg hk] at h
    cases hc : Sp.chr l with
    | none => rw [hc] at h; cases h
    | some x =>
     obtain ⟨c, r1⟩ := x
     rw [hc] at h
     simp only at h ⊢
     cases hx : Sp.chrs f r1 with
     | none => rw [hx] at h; cases h
     | some y =>
      obtain ⟨s1, r2⟩ := y
      rw [hx] at h
      rw [ih g r1 s1 r2 (by omega) hx]
      exact h
theorem chs_len {a : Sp.By} {cs : List Nat} (h : Sp.Chs a cs) : cs.length ≤ a.length := by
 induction h with
 | nil => simp
 | snoc ha hp ih =>
  rename_i a cs p c
  have : 1 ≤ p.length := by
   cases p with
   | nil =>
    have := (hp []).1
    rw [List.append_nil] at this
    have h2 := chr_len this
    simp at h2
   | cons x y => simp
  simp; omega
theorem chs_quo {a : Sp.By} {cs : List Nat} (h : Sp.Chs a cs) (r : Sp.By) : Sp.quo (34 :: (a ++ 34 :: r)) = some (cs.flatMap Sp.encN, r) := by
 unfold Sp.quo
 rw [if_pos (by rfl), List.tail_cons]
 have h1 := chs_read h (34 :: r) [] r 1 rfl
 rw [List.append_nil] at h1
 have := chs_len h
 exact chrs_more _ _ _ _ _ (by simp; omega) h1
end Go.Proofs.YtdpomdelmdofmaaGreatDoor

namespace Go.Proofs.YtdpomdelmdofmaaGreatDoor
open Go.Maps
def Sp.RdV (k : Nat) (l : Sp.By) (v : Sp.V) : Prop := Sp.Hd l ∧ ∀ (f : Nat) (lv : Int) (fl : Sp.Fl) (r : Sp.By), k < f → Sp.Nd r → ∃ fl', Sp.val f lv (l ++ r) fl = some (v, r, fl') ∧ ∀ d, lv + k ≤ d → Sp.OkF d 2 fl → Sp.OkF d 2 fl'
theorem Sp.RdV.mono {k k' : Nat} {l : Sp.By} {v : Sp.V} (h : Sp.RdV k l v) (hk : k ≤ k') : Sp.RdV k' l v :=
 ⟨h.1, fun f lv fl r hf hr => let ⟨fl', h1, h2⟩ := h.2 f lv fl r (by omega) hr; ⟨fl', h1, fun d hd => h2 d (by omega)⟩⟩
theorem rdV_num {l : Sp.By} {n : Sp.Nm} (hh : ∃ c t, l = c :: t ∧ (c = 45 ∨ Sp.isD c = true)) (hn : ∀ r, Sp.Nd r → Sp.num (l ++ r) = some (n, r)) (he : -2 ≤ n.2.2 ∧ n.2.2 ≤ 2) : Sp.RdV 0 l (Sp.vNum n) := by
 obtain ⟨c, t, e, hc⟩ := hh
 refine ⟨⟨c, t, e, ?_⟩, fun f lv fl r hf hr => ?_⟩
 ·rcases hc with rfl | hc
  ·exact ⟨by decide, by decide, by decide⟩
  ·exact isD_hd hc
 ·match f, hf with
  | f + 1, _ =>
   refine ⟨(fl.1, (max fl.2.1 lv, max (max fl.2.2 n.2.2) (-n.2.2))), ?_, fun d hd ho => ok_lift (by omega) ho (by have := ho.2.2; omega)⟩
   have hq := hn r hr
   have hpk : Sp.pk (l ++ r) = c.toNat := by rw [e]; rfl
   have hcc : c.toNat = 45 ∨ (48 ≤ c.toNat ∧ c.toNat ≤ 57) := by
    rcases hc with rfl | hc
    ·exact Or.inl rfl
    ·unfold Sp.isD at hc; simp at hc; exact Or.inr hc
   unfold Sp.val
   rw [hpk, if_neg (by omega), if_neg (by omega), if_neg (by omega), if_pos hcc, hq]
theorem rdV_word (k : Nat) (hk : k < 3) : Sp.RdV 0 (Sp.words.getD k []) (Sp.vWord k) := by
 refine ⟨?_, fun f lv fl r hf hr => ?_⟩
 ·match k, hk with
  | 0, _ => exact ⟨110, _, rfl, by decide, by decide, by decide⟩
  | 1, _ => exact ⟨116, _, rfl, by decide, by decide, by decide⟩
  | 2, _ => exact ⟨102, _, rfl, by decide, by decide, by decide⟩
 ·match f, hf with
  | f + 1, _ =>
   refine ⟨(fl.1, (max fl.2.1 lv, fl.2.2)), ?_, fun d hd ho => ok_lift (by omega) ho ho.2.2⟩
   match k, hk with
   | 0, _ => rfl
   | 1, _ => rfl
   | 2, _ => rfl
theorem rdV_str {a : Sp.By} {cs : List Nat} (h : Sp.Chs a cs) : Sp.RdV 0 (34 :: (a ++ [34])) (Sp.vStr (cs.flatMap Sp.encN)) := by
 refine ⟨⟨34, _, rfl, by decide, by decide, by decide⟩, fun f lv fl r hf hr => ?_⟩
 match f, hf with
 | f + 1, _ =>
  refine ⟨(fl.1, (max fl.2.1 lv, fl.2.2)), ?_, fun d hd ho => ok_lift (by omega) ho ho.2.2⟩
  have e : 34 :: (a ++ [34]) ++ r = 34 :: (a ++ 34 :: r) := by simp
  rw [e]
  unfold Sp.val
  rw [show Sp.pk (34 :: (a ++ 34 :: r)) = 34 from rfl, if_neg (by decide), if_neg (by decide), if_pos rfl, chs_quo h r]
def Sp.pad (y : Sp.By × Sp.By × Sp.By) : Sp.By := y.1 ++ (y.2.1 ++ y.2.2)
theorem skB_Bl_close {z : Sp.By} (hz : Sp.Bl z) {cl : UInt8} (hcl : cl = 93 ∨ cl = 125) (r : Sp.By) : Sp.skB (z ++ cl :: r) = cl :: r := by rw [hz.sk, skB_close hcl]
theorem lst_sp {σ : Type} (cl : UInt8) (hcl : cl = 93 ∨ cl = 125) (item : Sp.By → σ → Option (Sp.By × σ)) (P : Nat → σ → Prop) (z : Sp.By) (hz : Sp.Bl z) (r : Sp.By) : ∀ (ys : List (Sp.By × Sp.By × Sp.By)) (k : Nat) (s : σ) (n : Nat),
  (∀ i (h : i < ys.length) s rest, P (k + i) s → Sp.Nd rest → ∃ s', item (ys[i].2.1 ++ rest) s = some (rest, s') ∧ P (k + i + 1) s') → (∀ y ∈ ys, Sp.Bl y.1 ∧ Sp.Hd y.2.1 ∧ Sp.Bl y.2.2) → ys ≠ [] → ys.length ≤ n → P k s →
  ∃ s', Sp.lst cl item n (Sp.joinC (ys.map Sp.pad) ++ (z ++ cl :: r)) s = some (r, s') ∧ P (k + ys.length) s' := by
 intro ys
 induction ys with
 | nil => intro k s n _ _ h; exact absurd rfl h
 | cons y ys ih =>
  intro k s n hit hhd _ hn hP
  match n, hn with
  | n + 1, hn =>
   obtain ⟨hp, hy, hq⟩ := hhd y (by simp)
   have e1 : Sp.joinC ((y :: ys).map Sp.pad) ++ (z ++ cl :: r) = y.1 ++ (y.2.1 ++ (y.2.2 ++ (Sp.joinR (ys.map Sp.pad) ++ (z ++ cl :: r)))) := by simp [Sp.joinC, Sp.pad]
   rw [e1]
   unfold Sp.lst
   rw [hp.sk, hy.skB]
   cases ys with
   | nil =>
    obtain ⟨s', h1, h2⟩ := hit 0 (by simp) s (y.2.2 ++ (z ++ cl :: r)) hP (hq.nd (hz.nd (nd_close hcl r)))
    simp only [List.getElem_cons_zero] at h1
    simp only [List.map_nil, Sp.joinR, List.nil_append]
    rw [h1]
    simp only
    rw [hq.sk, skB_Bl_close hz hcl, if_pos (by rw [tk_hd]; simp)]
    exact ⟨s', rfl, h2⟩
   | cons x xs =>
    have e2 : Sp.joinR ((x :: xs).map Sp.pad) ++ (z ++ cl :: r) = 44 :: (Sp.joinC ((x :: xs).map Sp.pad) ++ (z ++ cl :: r)) := by simp [Sp.joinR, Sp.joinC]
    rw [e2]
    obtain ⟨s', h1, h2⟩ := hit 0 (by simp) s (y.2.2 ++ 44 :: (Sp.joinC ((x :: xs).map Sp.pad) ++ (z ++ cl :: r))) hP (hq.nd (nd_comma _))
    simp only [List.getElem_cons_zero] at h1
    rw [h1]
    simp only
    have e3 : Sp.skB (44 :: (Sp.joinC ((x :: xs).map Sp.pad) ++ (z ++ cl :: r))) = 44 :: (Sp.joinC ((x :: xs).map Sp.pad) ++ (z ++ cl :: r)) := rfl
    have e4 : Sp.tk (44 :: (Sp.joinC ((x :: xs).map Sp.pad) ++ (z ++ cl :: r))) cl = false := by
     rw [tk_hd]
     rcases hcl with rfl | rfl
     ·rfl
     ·rfl
    rw [hq.sk, e3, e4, if_neg (by decide), if_pos (by rfl), List.tail_cons]
    obtain ⟨s2, h3, h4⟩ := ih (k + 1) s' n (fun i hi s rest hp hr => by
     have := hit (i + 1) (by simpa using hi) s rest (by rw [show k + (i + 1) = k + 1 + i by omega]; exact hp) hr
     simp only [List.getElem_cons_succ] at this
     rw [show k + 1 + i = k + (i + 1) by omega]
     exact this) (fun y hy => hhd y (by simp [hy])) (by simp) (by simp at hn ⊢; omega) h2
    exact ⟨s2, h3, by rw [show k + (y :: x :: xs).length = k + 1 + (x :: xs).length by simp; omega]; exact h4⟩
theorem pad_ge (ys : List (Sp.By × Sp.By × Sp.By)) (h : ∀ y ∈ ys, Sp.Hd y.2.1) : ys.length ≤ (Sp.joinC (ys.map Sp.pad)).length := by
 have hr : ∀ xs : List Sp.By, xs.length ≤ (Sp.joinR xs).length := by
  intro xs
  induction xs with
  | nil => simp
  | cons y r ih => simp [Sp.joinR]; omega
 cases ys with
 | nil => simp
 | cons y r =>
  obtain ⟨c, t, e, _⟩ := h y (by simp)
  have := hr (r.map Sp.pad)
  rw [List.length_map] at this
  simp [Sp.joinC, Sp.pad, e]; omega
theorem lstAll_sp {σ : Type} (op cl : UInt8) (hcl : cl = 93 ∨ cl = 125) (item : Sp.By → σ → Option (Sp.By × σ)) (P : Nat → σ → Prop) (z : Sp.By) (hz : Sp.Bl z) (r : Sp.By) (ys : List (Sp.By × Sp.By × Sp.By)) (s : σ)
  (hit : ∀ i (h : i < ys.length) s rest, P i s → Sp.Nd rest → ∃ s', item (ys[i].2.1 ++ rest) s = some (rest, s') ∧ P (i + 1) s') (hhd : ∀ y ∈ ys, Sp.Bl y.1 ∧ Sp.Hd y.2.1 ∧ Sp.Bl y.2.2) (hP : P 0 s) :
  ∃ s', Sp.lstAll op cl item (op :: (Sp.joinC (ys.map Sp.pad) ++ (z ++ cl :: r))) s = some (r, s') ∧ P ys.length s' := by
 unfold Sp.lstAll
 rw [if_pos (by rw [tk_hd]; simp), List.tail_cons]
 cases ys with
 | nil =>
  rw [show Sp.joinC (([] : List (Sp.By × Sp.By × Sp.By)).map Sp.pad) ++ (z ++ cl :: r) = z ++ cl :: r from rfl, skB_Bl_close hz hcl, if_pos (by rw [tk_hd]; simp), List.tail_cons]
  exact ⟨s, rfl, hP⟩
 | cons y ys =>
  obtain ⟨hp, hy, hq⟩ := hhd y (by simp)
  have e1 : Sp.joinC ((y :: ys).map Sp.pad) ++ (z ++ cl :: r) = y.1 ++ (y.2.1 ++ (y.2.2 ++ (Sp.joinR (ys.map Sp.pad) ++ (z ++ cl :: r)))) := by simp [Sp.joinC, Sp.pad]
  have e2 : Sp.skB (Sp.joinC ((y :: ys).map Sp.pad) ++ (z ++ cl :: r)) = y.2.1 ++ (y.2.2 ++ (Sp.joinR (ys.map Sp.pad) ++ (z ++ cl :: r))) := by rw [e1, hp.sk, hy.skB]
  have e3 : Sp.tk (y.2.1 ++ (y.2.2 ++ (Sp.joinR (ys.map Sp.pad) ++ (z ++ cl :: r)))) cl = false := hy.tk _ hcl
  have e5 : y.2.1 ++ (y.2.2 ++ (Sp.joinR (ys.map Sp.pad) ++ (z ++ cl :: r))) = Sp.joinC ((([], y.2.1, y.2.2) :: ys).map Sp.pad) ++ (z ++ cl :: r) := by simp [Sp.joinC, Sp.pad]
  rw [e2, e3, if_neg (by decide)]
  have hj := pad_ge (([], y.2.1, y.2.2) :: ys) (by
   intro x hx
   rcases List.mem_cons.1 hx with rfl | hx
   ·exact hy
   ·exact (hhd x (by simp [hx])).2.1)
  obtain ⟨s', h1, h2⟩ := lst_sp cl hcl item P z hz r (([], y.2.1, y.2.2) :: ys) 0 s ((y.2.1 ++ (y.2.2 ++ (Sp.joinR (ys.map Sp.pad) ++ (z ++ cl :: r)))).length + 1) (fun i hi s rest hp hr => by
   rw [Nat.zero_add] at hp ⊢
   have := hit i (by simpa using hi) s rest hp hr
   cases i with
   | zero => exact this
   | succ i => exact this) (by
   intro x hx
   rcases List.mem_cons.1 hx with rfl | hx
   ·exact ⟨by unfold Sp.Bl Sp.blks; simp, hy, hq⟩
   ·exact hhd x (by simp [hx])) (by simp) (by rw [e5, List.length_append]; omega) hP
  rw [Nat.zero_add] at h2
  rw [← e5] at h1
  exact ⟨s', h1, h2⟩
def Sp.ItV (k : Nat) (y : Sp.By × Sp.By × Sp.By) (v : Sp.V) : Prop := Sp.Bl y.1 ∧ Sp.RdV k y.2.1 v ∧ Sp.Bl y.2.2
theorem rdV_arr {k : Nat} {ys : List (Sp.By × Sp.By × Sp.By)} {vs : List Sp.V} (hl : ys.length = vs.length) (h : ∀ i (h1 : i < ys.length) (h2 : i < vs.length), Sp.ItV k ys[i] vs[i]) {z : Sp.By} (hz : Sp.Bl z) :
  Sp.RdV (k + 1) (91 :: (Sp.joinC (ys.map Sp.pad) ++ (z ++ [93]))) (Sp.vArr vs) := by
 refine ⟨⟨91, _, rfl, by decide, by decide, by decide⟩, fun f lv fl r hf hr => ?_⟩
 match f, hf with
 | f + 1, hf =>
  obtain ⟨⟨es', fl'⟩, h1, h2, h3⟩ := lstAll_sp (σ := List Sp.V × Sp.Fl) 91 93 (Or.inl rfl) (Sp.elem (Sp.val f (lv + 1))) (fun i s => s.1 = vs.take i ∧ ∀ d, lv + 1 + k ≤ d → Sp.OkF d 2 fl → Sp.OkF d 2 s.2) z hz r ys ([], (fl.1, (max fl.2.1 lv, fl.2.2))) (by
   rintro i hi ⟨a, fl1⟩ rest ⟨ha, hfl⟩ hrest
   simp only at ha hfl
   subst ha
   obtain ⟨_, hrd, _⟩ := h i hi (by omega)
   obtain ⟨fl2, k1, k2⟩ := hrd.2 f (lv + 1) fl1 rest (by omega) hrest
   unfold Sp.elem
   simp only
   rw [k1]
   exact ⟨_, rfl, (List.take_succ_eq_append_getElem (by omega)).symm, fun d hd ho => k2 d hd (hfl d hd ho)⟩) (by
   intro y hy
   obtain ⟨i, hi, rfl⟩ := List.getElem_of_mem hy
   obtain ⟨a, b, c⟩ := h i hi (by omega)
   exact ⟨a, b.1, c⟩) ⟨by simp, fun d hd ho => ok_lift (by omega) ho ho.2.2⟩
  rw [hl, List.take_length] at h2
  simp only at h2 h3
  subst h2
  refine ⟨fl', ?_, fun d hd ho => h3 d (by omega) ho⟩
  have e1 : 91 :: (Sp.joinC (ys.map Sp.pad) ++ (z ++ [93])) ++ r = 91 :: (Sp.joinC (ys.map Sp.pad) ++ (z ++ 93 :: r)) := by simp
  rw [e1]
  unfold Sp.val
  rw [show Sp.pk (91 :: (Sp.joinC (ys.map Sp.pad) ++ (z ++ 93 :: r))) = 91 from rfl, if_neg (by decide), if_pos rfl, h1]
structure Sp.Mb where
 p : Sp.By
 kq : Sp.By
 p1 : Sp.By
 p2 : Sp.By
 x : Sp.By
 q : Sp.By
 key : Sp.By
 v : Sp.V
def Sp.Mb.core (m : Sp.Mb) : Sp.By := m.kq ++ (m.p1 ++ 58 :: (m.p2 ++ m.x))
def Sp.Mb.y (m : Sp.Mb) : Sp.By × Sp.By × Sp.By := (m.p, m.core, m.q)
def Sp.Mb.ok (k : Nat) (m : Sp.Mb) : Prop := Sp.Bl m.p ∧ (∃ t, m.kq = 34 :: t) ∧ (∀ l, Sp.quo (m.kq ++ l) = some (m.key, l)) ∧ Sp.Bl m.p1 ∧ Sp.Bl m.p2 ∧ Sp.RdV k m.x m.v ∧ Sp.Bl m.q
def Sp.putAll (ms : List Sp.Mb) : Sp.V := ms.foldl (fun d m => DataW.put d (.string m.key) m.v) (Sp.vObj [])
theorem putAll_snoc (ms : List Sp.Mb) (m : Sp.Mb) : Sp.putAll (ms ++ [m]) = DataW.put (Sp.putAll ms) (.string m.key) m.v := by
 unfold Sp.putAll
 rw [List.foldl_append]; rfl
theorem rdV_obj {k : Nat} {ms : List Sp.Mb} (h : ∀ m ∈ ms, m.ok k) (hd : ∀ i (hi : i < ms.length), Maps.has (Sp.putAll (ms.take i)) (.string ms[i].key) = false) {z : Sp.By} (hz : Sp.Bl z) :
  Sp.RdV (k + 1) (123 :: (Sp.joinC ((ms.map Sp.Mb.y).map Sp.pad) ++ (z ++ [125]))) (Sp.putAll ms) := by
 refine ⟨⟨123, _, rfl, by decide, by decide, by decide⟩, fun f lv fl r hf hr => ?_⟩
 match f, hf with
 | f + 1, hf =>
  obtain ⟨⟨v', fl'⟩, h1, h2, h3⟩ := lstAll_sp (σ := Sp.V × Sp.Fl) 123 125 (Or.inr rfl) (Sp.memb (Sp.val f (lv + 1))) (fun i s => s.1 = Sp.putAll (ms.take i) ∧ ∀ d, lv + 1 + k ≤ d → Sp.OkF d 2 fl → Sp.OkF d 2 s.2) z hz r (ms.map Sp.Mb.y) (Sp.vObj [], (fl.1, (max fl.2.1 lv, fl.2.2))) (by
   rintro i hi ⟨a, fl1⟩ rest ⟨ha, hfl⟩ hrest
   rw [List.length_map] at hi
   simp only at ha hfl
   subst ha
   rw [List.getElem_map]
   obtain ⟨_, _, hkq, hp1, hp2, hrd, _⟩ := h ms[i] (List.getElem_mem hi)
   have hno := hd i hi
   obtain ⟨fl2, k1, k2⟩ := hrd.2 f (lv + 1) fl1 rest (by omega) hrest
   have e1 : (Sp.Mb.y ms[i]).2.1 ++ rest = ms[i].kq ++ (ms[i].p1 ++ 58 :: (ms[i].p2 ++ (ms[i].x ++ rest))) := by simp [Sp.Mb.y, Sp.Mb.core]
   rw [e1]
   unfold Sp.memb
   rw [hkq]
   simp only
   rw [hp1.sk, show Sp.skB (58 :: (ms[i].p2 ++ (ms[i].x ++ rest))) = 58 :: (ms[i].p2 ++ (ms[i].x ++ rest)) from rfl, if_pos (by rfl), List.tail_cons, hp2.sk, hrd.1.skB, k1]
   simp only
   rw [hno, Bool.or_false]
   refine ⟨_, rfl, ?_, fun d hd ho => k2 d hd (hfl d hd ho)⟩
   rw [List.take_succ_eq_append_getElem hi, putAll_snoc]) (by
   intro y hy
   obtain ⟨m, hm, rfl⟩ := List.mem_map.1 hy
   obtain ⟨a, ⟨t, ht⟩, _, _, _, _, b⟩ := h m hm
   refine ⟨a, ⟨34, t ++ (m.p1 ++ 58 :: (m.p2 ++ m.x)), ?_, by decide, by decide, by decide⟩, b⟩
   simp [Sp.Mb.y, Sp.Mb.core, ht]) ⟨rfl, fun d hd ho => ok_lift (by omega) ho ho.2.2⟩
  rw [List.length_map, List.take_length] at h2
  simp only at h2 h3
  subst h2
  refine ⟨fl', ?_, fun d hd ho => h3 d (by omega) ho⟩
  have e1 : 123 :: (Sp.joinC ((ms.map Sp.Mb.y).map Sp.pad) ++ (z ++ [125])) ++ r = 123 :: (Sp.joinC ((ms.map Sp.Mb.y).map Sp.pad) ++ (z ++ 125 :: r)) := by simp
  rw [e1]
  unfold Sp.val
  rw [show Sp.pk (123 :: (Sp.joinC ((ms.map Sp.Mb.y).map Sp.pad) ++ (z ++ 125 :: r))) = 123 from rfl, if_pos rfl, h1]
end Go.Proofs.YtdpomdelmdofmaaGreatDoor
