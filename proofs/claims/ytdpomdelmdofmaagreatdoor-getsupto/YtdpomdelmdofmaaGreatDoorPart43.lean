/-
  Walk of the statement's own kept.
-/
import Derived.Test.YtdpomdelmdofmaaGreatDoorPart42
import Derived.Test.YtdpomdelmdofmaaGreatDoorPart29
namespace Go.Proofs.YtdpomdelmdofmaaGreatDoor
open Go.RowKit
theorem op_info : (Tryz.prog.info? 49).map (fun i => (i.zero, i.size, i.bytes)) = some (some (.agg #[.int .i64 0, .string ⟨#[]⟩, .string ⟨#[]⟩]), 3, 40) := by kernel_rfl
abbrev Tri := Sp.St
def triV (p : Tri) : List Value := [.int .i64 p.1, .string ⟨p.2.1.toArray⟩, .string ⟨p.2.2.toArray⟩]
def flat3 (L : List Tri) : List Value := L.flatMap triV
theorem flat3_len (L : List Tri) : (flat3 L).length = L.length * 3 := by
 induction L with
 | nil => rfl
 | cons p r ih => simp [flat3, triV] at ih ⊢; omega
theorem flat3_at (L : List Tri) : ∀ (i : Nat) (hi : i < L.length), (flat3 L)[i * 3]? = some (.int .i64 L[i].1) ∧ (flat3 L)[i * 3 + 1]? = some (.string ⟨L[i].2.1.toArray⟩) ∧ (flat3 L)[i * 3 + 2]? = some (.string ⟨L[i].2.2.toArray⟩) := by
 induction L with
 | nil => intro i hi; simp at hi
 | cons p r ih =>
  intro i hi
  cases i with
  | zero => exact ⟨rfl, rfl, rfl⟩
  | succ i =>
   have h := ih i (by simpa using hi)
   have e : flat3 (p :: r) = .int .i64 p.1 :: .string ⟨p.2.1.toArray⟩ :: .string ⟨p.2.2.toArray⟩ :: flat3 r := rfl
   have e3 : (i + 1) * 3 = i * 3 + 3 := by omega
   rw [e, e3]
   exact h
def isLD (o : Sp.St) : Bool := o.1 == 1 || o.1 == 2
def prT (p : Tri) : Sp.St := p
theorem tri_snoc (L : List Tri) (p : Tri) : (L ++ [p]).length = L.length + 1 := by simp
theorem flat3_snoc (L : List Tri) (p : Tri) : flat3 (L ++ [p]) = flat3 L ++ triV p := by simp [flat3]
theorem bel_dn {B : Nat} {a w : World} (h : Below B a w) {n : Nat} : Below B a (w.drewN n) := ⟨h.os, h.tape, h.output, h.size, h.block⟩
theorem owns_lt3 {w : World} {B e n size : Nat} {v : Value} {xs : List Value} (h : w.ownsRow B e size v n xs) (g : Nat) (hg : v.ownBlock = some g) : g < w.heap.size ∧ B ≤ g := by
 rcases h.2 with ⟨h1, _⟩ | ⟨g', cap, cur, h1, h2, h3, _⟩
 ·rw [h1] at hg; cases hg
 ·rw [h1] at hg; injection hg with hg; subst hg; exact ⟨(Array.getElem?_eq_some_iff.1 h3).1, h2⟩
set_option maxRecDepth 100000 in
set_option maxHeartbeats 16000000 in
theorem kept_any {sb so m cap kb : Nat} {l : List Sp.St} {w : World} (hs : Scr w sb so l) (hm : m = l.length) (hby : m * 40 ≤ 140737488355328) (hsb : sb < w.heap.size)
  (hk0 : w.cell? ⟨kb, 0, none⟩ = some (.int .i64 1)) (hk1 : w.cell? ⟨kb, 1, none⟩ = some (.int .i64 2)) (hkb : kb < w.heap.size) :
  Calls Tryz.prog 16 #[.slice (some ⟨sb, so, none⟩) m cap, .slice (some ⟨kb, 0, none⟩) 2 2] w fun e w' => ∃ (sl : Value) (L3 : List Tri), e = .returned sl ∧ Below w.heap.size w w' ∧ w'.ownsRow w.heap.size 49 3 sl L3.length (flat3 L3) ∧ L3.map prT = l.filter isLD ∧ L3.length ≤ m := by
 obtain ⟨i0, hi0, hz0, hz1, hz2⟩ := info_parts op_info
 have hmb : (m : Int) ≤ 9223372036854775807 := by omega
 have hmx : m ≤ 3518437208883 := by omega
 have HS := hide hs
 have HM := hide hm
 clear hs hm
 go_enter Tryz.func16, Tryz.ntmps16
 go_wp2_with (fail)
 go_loopw [5, 6] (fun sv i wr => ∃ (k : Nat) (L3 : List Tri) (sl : Value), k ≤ m ∧ sl = sv ∧ i = .int .i64 k ∧ wr.ownsRow w.heap.size 49 3 sl L3.length (flat3 L3) ∧ L3.map prT = (l.take k).filter isLD ∧ L3.length ≤ k ∧ Below w.heap.size w wr) (fun _ i _ => m - (intOf i).toNat)
 case atStart => exact ⟨0, [], .slice none 0 0, by omega, rfl, rfl, World.ownsRow_nil _ _ _ _, rfl, by simp, Below.refl _ _⟩
 case round =>
  obtain ⟨k, L3, sl, hk, rfl, rfl, hown, hfil, hlen, hbel⟩ := hrel
  have HOWN := hide hown
  have HFIL := hide hfil
  have HBEL := hide hbel
  by_cases hlt : k < m
  ·have hkl : k < l.length := by have := unhide HM; omega
   obtain ⟨q0, q1, q2⟩ := unhide HS k hkl
   obtain ⟨o, ho⟩ : ∃ o, o = l[k] := ⟨_, rfl⟩
   rw [← ho] at q0 q1 q2
   have s0 := cell_low hbel _ _ hsb q0
   have s1 := cell_low hbel _ _ hsb q1
   have s2 := cell_low hbel _ _ hsb q2
   have d0 := cell_low hbel _ _ hkb hk0
   have d1 := cell_low hbel _ _ hkb hk1
   have hszr := hbel.size
   have HO := hide ho
   have q0x := q0
   clear q0 q1 q2 hown hfil hbel ho
   have HQ0 := hide q0x
   clear q0x
   by_cases h1 : o.1 = 1
   ·have HK := hide h1
    rw [h1] at s0
    clear h1
    go_wp2_with (fail)
    refine wp_loop_rounds 3 ?_
    rw [rounds_succ]
    go_wp2_with (fail)
    go_quiet (fail)
    go_wp2_with (at_builtin; refine wpList_append_lies _ rfl _ _ _ rfl w.heap.size 49 i0 _ 3 40 Tryz.underlying24 hi0 hz0 hz1 hz2 rfl (by decide) sl L3.length (flat3 L3) rfl (World.ownsRow.alloc (w := wr.drewN _) (unhide HOWN) _) ⟨wr.heap.size, 0, none⟩ 1 1 [.int .i64 1, .string ⟨o.2.1.toArray⟩, .string ⟨o.2.2.toArray⟩] rfl rfl (World.news_of_block (cs := #[.int .i64 1, .string ⟨o.2.1.toArray⟩, .string ⟨o.2.2.toArray⟩]) (t := 49) (fr := (0, 0)) (heap_alloc_new (wr.drewN _) _)) (by simp [Value.oneCell']) (by decide) (by unfold maxLen; omega) (by omega) (by simp; omega) (wr.heap.size + 1) (by simp) ?_; intro g cap' w6 hown3 hgrow hat3 hlt3; have HOWN3 := hide hown3; have HGROW := hide hgrow; clear hown3 hgrow hat3)
    have hb6 : Below w.heap.size w w6 := by
     have hg := unhide HGROW
     refine (unhide HBEL).trans ⟨hg.os, hg.tape, hg.output, Nat.le_trans (by simp) hg.size, fun j hj => ?_⟩
     refine (hg.block j (by simp; omega) ?_).trans (Below.heap_alloc (wr.drewN _) _ j (by simp; omega))
     intro h
     have := (owns_lt3 (unhide HOWN) j h.symm).2
     omega
    have hfil : ((L3 ++ [(1, o.2.1, o.2.2)]).map prT) = (l.take (k + 1)).filter isLD := by
     rw [List.take_succ_eq_append_getElem hkl, List.filter_append, List.map_append, unhide HFIL, ← unhide HO]
     have h1 : isLD o = true := by unfold isLD; rw [unhide HK]; rfl
     have h2 : o = (1, o.2.1, o.2.2) := by rw [← unhide HK]
     rw [List.filter_cons, if_pos h1]
     show _ ++ [(1, o.2.1, o.2.2)] = _
     rw [← h2]; rfl
    have hown4 : w6.ownsRow w.heap.size 49 3 (.slice (some ⟨g, 0, none⟩) (L3.length + 1) cap') (L3 ++ [(1, o.2.1, o.2.2)]).length (flat3 (L3 ++ [(1, o.2.1, o.2.2)])) := by
     rw [tri_snoc, flat3_snoc]
     exact unhide HOWN3
    have HB6 := hide hb6
    have HFIL2 := hide hfil
    have HOWN4 := hide hown4
    clear hb6 hfil hown4
    have t0 := cell_low (unhide HB6) _ _ hsb (unhide HQ0)
    rw [unhide HK] at t0
    have e1 := cell_low (unhide HB6) _ _ hkb hk1
    clear s0 s1 s2 d0 d1
    rw [rounds_succ]
    go_wp2_with (fail)
    go_quiet (fail)
    go_wp2_with (fail)
    rw [rounds_succ]
    go_wp2_with (fail)
    exact ⟨⟨k + 1, L3 ++ [(1, o.2.1, o.2.2)], _, by omega, rfl, by go_num, unhide HOWN4, unhide HFIL2, by simp; omega, bel_dn (unhide HB6)⟩, by simp only [intOf]; omega⟩
   ·by_cases h2 : o.1 = 2
    ·have HK := hide h2
     rw [h2] at s0
     clear h1 h2
     go_wp2_with (fail)
     refine wp_loop_rounds 3 ?_
     rw [rounds_succ]
     go_wp2_with (fail)
     go_quiet (fail)
     go_wp2_with (fail)
     rw [rounds_succ]
     go_wp2_with (fail)
     go_quiet (fail)
     go_wp2_with (at_builtin; refine wpList_append_lies _ rfl _ _ _ rfl w.heap.size 49 i0 _ 3 40 Tryz.underlying24 hi0 hz0 hz1 hz2 rfl (by decide) sl L3.length (flat3 L3) rfl (World.ownsRow.alloc (w := wr.drewN _) (unhide HOWN) _) ⟨wr.heap.size, 0, none⟩ 1 1 [.int .i64 2, .string ⟨o.2.1.toArray⟩, .string ⟨o.2.2.toArray⟩] rfl rfl (World.news_of_block (cs := #[.int .i64 2, .string ⟨o.2.1.toArray⟩, .string ⟨o.2.2.toArray⟩]) (t := 49) (fr := (0, 0)) (heap_alloc_new (wr.drewN _) _)) (by simp [Value.oneCell']) (by decide) (by unfold maxLen; omega) (by omega) (by simp; omega) (wr.heap.size + 1) (by simp) ?_; intro g cap' w6 hown3 hgrow hat3 hlt3; have HOWN3 := hide hown3; have HGROW := hide hgrow; clear hown3 hgrow hat3)
     have hb6 : Below w.heap.size w w6 := by
      have hg := unhide HGROW
      refine (unhide HBEL).trans ⟨hg.os, hg.tape, hg.output, Nat.le_trans (by simp) hg.size, fun j hj => ?_⟩
      refine (hg.block j (by simp; omega) ?_).trans (Below.heap_alloc (wr.drewN _) _ j (by simp; omega))
      intro h
      have := (owns_lt3 (unhide HOWN) j h.symm).2
      omega
     have hfil : ((L3 ++ [(2, o.2.1, o.2.2)]).map prT) = (l.take (k + 1)).filter isLD := by
      rw [List.take_succ_eq_append_getElem hkl, List.filter_append, List.map_append, unhide HFIL, ← unhide HO]
      have h1 : isLD o = true := by unfold isLD; rw [unhide HK]; rfl
      have h2 : o = (2, o.2.1, o.2.2) := by rw [← unhide HK]
      rw [List.filter_cons, if_pos h1]
      show _ ++ [(2, o.2.1, o.2.2)] = _
      rw [← h2]; rfl
     have hown4 : w6.ownsRow w.heap.size 49 3 (.slice (some ⟨g, 0, none⟩) (L3.length + 1) cap') (L3 ++ [(2, o.2.1, o.2.2)]).length (flat3 (L3 ++ [(2, o.2.1, o.2.2)])) := by
      rw [tri_snoc, flat3_snoc]
      exact unhide HOWN3
     have HB6 := hide hb6
     have HFIL2 := hide hfil
     have HOWN4 := hide hown4
     clear hb6 hfil hown4
     have t0 := cell_low (unhide HB6) _ _ hsb (unhide HQ0)
     rw [unhide HK] at t0
     have e1 := cell_low (unhide HB6) _ _ hkb hk1
     clear s0 s1 s2 d0 d1
     rw [rounds_succ]
     go_wp2_with (fail)
     exact ⟨⟨k + 1, L3 ++ [(2, o.2.1, o.2.2)], _, by omega, rfl, by go_num, unhide HOWN4, unhide HFIL2, by simp; omega, unhide HB6⟩, by simp only [intOf]; omega⟩
    ·have e1 : (o.1 == 1) = false := beq_eq_false_iff_ne.2 h1
     have e2 : (o.1 == 2) = false := beq_eq_false_iff_ne.2 h2
     have hfil : L3.map prT = (l.take (k + 1)).filter isLD := by
      rw [List.take_succ_eq_append_getElem hkl, List.filter_append, unhide HFIL, ← unhide HO]
      have h3 : isLD o = false := by unfold isLD; rw [e1, e2]; rfl
      rw [List.filter_cons, h3]
      simp
     have HFIL2 := hide hfil
     clear h1 h2 hfil
     go_wp2_with (fail)
     refine wp_loop_rounds 3 ?_
     rw [rounds_succ]
     go_wp2_with (fail)
     go_quiet (fail)
     go_wp2_with (fail)
     rw [rounds_succ]
     go_wp2_with (fail)
     go_quiet (fail)
     go_wp2_with (fail)
     rw [rounds_succ]
     go_wp2_with (fail)
     exact ⟨⟨k + 1, L3, _, by omega, rfl, by go_num, unhide HOWN, unhide HFIL2, by omega, bel_dn (unhide HBEL)⟩, by simp only [intOf]; omega⟩
  ·go_wp2_with (fail)
   go_ret
   have hkm : (l.take k).filter isLD = l.filter isLD := by rw [List.take_of_length_le (by have := unhide HM; omega)]
   exact ⟨_, L3, rfl, unhide HBEL, unhide HOWN, (unhide HFIL).trans hkm, by omega⟩
set_option maxHeartbeats 4000000 in
theorem kept_nil {pa : Option Addr} {cap : Nat} {kv : Value} {w : World} :
  Calls Tryz.prog 16 #[.slice pa 0 cap, kv] w fun e w' => e = .returned (.slice none 0 0) ∧ w' = w := by
 go_enter Tryz.func16, Tryz.ntmps16
 go_wp2_with (fail)
 refine wp_loop_rounds 1 ?_
 rw [rounds_succ]
 go_wp2_with (fail)
 go_ret
 exact ⟨rfl, rfl⟩
end Go.Proofs.YtdpomdelmdofmaaGreatDoor

namespace Go.Proofs.YtdpomdelmdofmaaGreatDoor
open Go.RowKit
theorem scr_of {w : World} {B g cap : Nat} {L3 : List Tri} (h : w.ownsRow B 49 3 (.slice (some ⟨g, 0, none⟩) L3.length cap) L3.length (flat3 L3)) (hpos : 0 < L3.length) : Scr w g 0 (L3.map prT) ∧ g < w.heap.size ∧ L3.length ≤ cap := by
 obtain ⟨hlen, h⟩ := h
 rcases h with ⟨_, h0⟩ | ⟨g', cap', cur, h1, _, h3, h4, h5, h6, h7⟩
 ·omega
 ·injection h1 with h1 _ h8
  obtain rfl : g = g' := by
   have := Option.some.inj h1
   exact congrArg Addr.block this
  subst h8
  refine ⟨?_, (Array.getElem?_eq_some_iff.1 h3).1, h4⟩
  have hcell : ∀ j u, j < L3.length * 3 → (flat3 L3)[j]? = some u → w.cell? ⟨g, j, none⟩ = some u := by
   intro j u hj hu
   have e : w.cell? ⟨g, j, none⟩ = cur[j]? := by simp [World.cell?, h3]
   rw [e, ← Array.getElem?_toList]
   rw [← h7, List.getElem?_take, if_pos hj] at hu
   exact hu
  intro i hi
  have hi2 : i < L3.length := by simpa using hi
  obtain ⟨a, b, c⟩ := flat3_at L3 i hi2
  rw [Nat.zero_add]
  refine ⟨?_, ?_, ?_⟩
  ·rw [hcell _ _ (by omega) a]; simp [prT]
  ·rw [hcell _ _ (by omega) b]; simp [prT]
  ·rw [hcell _ _ (by omega) c]; simp [prT]
theorem run_bad {d x n : Int} (hc : Sp.cfg d x n = false) (l : List Sp.St) (doc : Sp.Doc) (k : Nat) (hk : k < l.length) (hr : k < (Sp.run d x n doc l).length) : (Sp.run d x n doc l)[k] = (2, 0, []) := by
 rw [run_at d x n l doc k hk hr]
 unfold Sp.step
 rw [hc]; rfl
set_option maxRecDepth 100000 in
set_option maxHeartbeats 8000000 in
theorem runs_ok {d x n : Int} {B : Nat} {sl : Value} {L3 : List Tri} {w : World} (hown : w.ownsRow B 49 3 sl L3.length (flat3 L3)) (hl : Lod (L3.map prT)) (hmx : L3.length * 40 ≤ 140737488355328) (hT : Laid w) :
  Calls Tryz.prog 15 #[.agg #[.int .i64 d, .int .i64 x, .int .i64 n], sl] w fun e w' => e = .returned (.bool true) ∧ Below w.heap.size w w' := by
 have hba : Below w.heap.size w (w.alloc (.cells #[.int .i64 d, .int .i64 x, .int .i64 n] 23)) := (Below.refl _ _).alloc (Nat.le_refl _) _
 have hng := hT.ng
 have hz : (w.alloc (.cells #[.int .i64 d, .int .i64 x, .int .i64 n] 23)).heap[w.heap.size]? = some (.cells #[.int .i64 d, .int .i64 x, .int .i64 n] 23 (0, 0)) := heap_new _ _ _ rfl
 have HZ := hide hz
 have HBA := hide hba
 have HT := hide (hT.below (hba.mono hng))
 by_cases h0 : L3.length = 0
 ·have hz : ∃ a c, sl = .slice a 0 c := by
   rcases hown.2 with ⟨e, _⟩ | ⟨g, cap, cur, e, _⟩
   ·exact ⟨none, 0, e⟩
   ·exact ⟨_, cap, by rw [e, h0]⟩
  obtain ⟨a, c, rfl⟩ := hz
  clear hown hl hT hba hz
  go_enter Tryz.func15, Tryz.ntmps15
  go_wp2_with (fail)
  refine (Run_nil (d := d) (e := x) (n := n)).mono ?_
  rintro e w2 ⟨A, cs, rfl, hA, hrow, hans, hb2⟩
  have hs2 := hb2.size
  have q := (hb2.block w.heap.size (by simp)).trans (unhide HZ)
  have q0 : w2.cell? ⟨w.heap.size, 0, none⟩ = some (.int .i64 d) := by simp [World.cell?, q]
  have q1 : w2.cell? ⟨w.heap.size, 1, none⟩ = some (.int .i64 x) := by simp [World.cell?, q]
  have q2 : w2.cell? ⟨w.heap.size, 2, none⟩ = some (.int .i64 n) := by simp [World.cell?, q]
  have HB2 := hide ((unhide HBA).trans (hb2.mono (unhide HBA).size))
  clear hrow hans hb2 q
  go_wp2_with (fail)
  refine (Fits_nil).mono ?_
  rintro e w3 ⟨rfl, hb3⟩
  have HB3 := hide ((unhide HB2).trans (hb3.mono (unhide HB2).size))
  clear hb3
  go_wp2_with (fail)
  go_ret
  exact ⟨rfl, unhide HB3⟩
 ·obtain ⟨g, cap, rfl, _, hcap2⟩ : ∃ g cap, sl = .slice (some ⟨g, 0, none⟩) L3.length cap ∧ L3.length ≤ cap ∧ cap ≤ maxLen := by
   rcases hown.2 with ⟨_, e⟩ | ⟨g, cap, cur, e, _, _, h4, h5, _⟩
   ·exact absurd e h0
   ·exact ⟨g, cap, e, h4, h5⟩
  obtain ⟨hscr, hg, hcap⟩ := scr_of hown (by omega)
  obtain ⟨N, hN⟩ : ∃ N, N = L3.length := ⟨_, rfl⟩
  rw [← hN] at hcap hmx h0 hown ⊢
  have hlen : N = (L3.map prT).length := by rw [hN]; simp
  have HS := hide hscr
  have HL := hide hl
  have HLEN := hide hlen
  clear hown hl hT hba hN hscr hz hlen
  go_enter Tryz.func15, Tryz.ntmps15
  go_wp2_with (fail)
  refine (Run_some (d := d) (e := x) (n := n) (l := L3.map prT) ((unhide HS).low (unhide HBA) hg) (unhide HL).plain (unhide HLEN) (by omega) hcap (by omega) (by have := (unhide HBA).size; omega) (unhide HT)).mono ?_
  rintro e w2 ⟨A, cs, rfl, hA, hrow, hans, hb2⟩
  have hs2 := hb2.size
  have q := (hb2.block w.heap.size (by simp)).trans (unhide HZ)
  have q0 : w2.cell? ⟨w.heap.size, 0, none⟩ = some (.int .i64 d) := by simp [World.cell?, q]
  have q1 : w2.cell? ⟨w.heap.size, 1, none⟩ = some (.int .i64 x) := by simp [World.cell?, q]
  have q2 : w2.cell? ⟨w.heap.size, 2, none⟩ = some (.int .i64 n) := by simp [World.cell?, q]
  have hbw := (unhide HBA).trans (hb2.mono (unhide HBA).size)
  have HB2 := hide hbw
  have hA2 : A < w2.heap.size := (Array.getElem?_eq_some_iff.1 hrow).1
  have HFIT : Hid (Calls Tryz.prog 29 #[.agg #[.int .i64 d, .int .i64 x, .int .i64 n], .slice (some ⟨g, 0, none⟩) N cap, .slice (some ⟨A, 0, none⟩) N N] w2 fun e w' => e = .returned (.bool true) ∧ Below w2.heap.size w2 w') := by
   cases hc : Sp.cfg d x n with
   | true => exact Fits_good hc ((unhide HS).low hbw hg) (unhide HL) (unhide HLEN) hcap hcap2 hrow hans (by have := hbw.size; omega) ((unhide HT).below (hb2.mono (unhide HT).ng))
   | false =>
    have han : ∀ k, k < N → w2.cell? ⟨A, k * 3, none⟩ = some (.int .i64 2) ∧ w2.cell? ⟨A, k * 3 + 1, none⟩ = some (.int .i64 0) ∧ w2.cell? ⟨A, k * 3 + 2, none⟩ = some (.string ⟨#[]⟩) := by
     intro k hk
     have hkl : k < (L3.map prT).length := by have := unhide HLEN; omega
     have hkr : k < (Sp.run d x n none (L3.map prT)).length := by rw [Sp.run_len]; exact hkl
     have h := hans.at hrow k hkr
     rw [run_bad hc _ none k hkl hkr] at h
     exact h
    unfold Sp.cfg at hc
    cases i1 : Sp.inB d 1 20 with
    | false => exact Fits_bad1 i1 hcap hcap2 han hA2
    | true =>
     cases i2 : Sp.inB x 0 400 with
     | false => exact Fits_bad2 i1 i2 hcap hcap2 han hA2
     | true =>
      rw [i1, i2] at hc
      exact Fits_bad3 i1 i2 (by simpa using hc) hcap hcap2 han hA2
  clear hrow hans hb2 q hbw
  go_wp2_with (fail)
  refine (unhide HFIT).mono ?_
  rintro e w3 ⟨rfl, hb3⟩
  have HB3 := hide ((unhide HB2).trans (hb3.mono (unhide HB2).size))
  clear hb3
  go_wp2_with (fail)
  go_ret
  exact ⟨rfl, unhide HB3⟩
end Go.Proofs.YtdpomdelmdofmaaGreatDoor

namespace Go.Proofs.YtdpomdelmdofmaaGreatDoor
open Go.RowKit
def KeptOk (v1 : Value) (w : World) : Prop := ∀ (w0 : World) (g : Nat), Below w.heap.size w w0 → w0.heap[g]? = some (.cells #[.int .i64 1, .int .i64 2] 3 (0, 0)) → Calls Tryz.prog 16 #[v1, .slice (some ⟨g, 0, none⟩) 2 2] w0 fun e w' =>
 ∃ (sl : Value) (L3 : List Tri) (B : Nat), e = .returned sl ∧ Below w0.heap.size w0 w' ∧ w'.ownsRow B 49 3 sl L3.length (flat3 L3) ∧ Lod (L3.map prT) ∧ L3.length * 40 ≤ 140737488355328
set_option maxRecDepth 100000 in
set_option maxHeartbeats 16000000 in
theorem Loads_any {d x n : Int} {v1 : Value} {w : World} (hk : KeptOk v1 w) (hT : Laid w) :
  Calls Tryz.prog 3 #[.agg #[.int .i64 d, .int .i64 x, .int .i64 n], v1] w fun e w' => e = .returned (.bool true) ∧ Below w.heap.size w w' := by
 have hng := hT.ng
 have hz : (w.alloc (.cells #[.int .i64 d, .int .i64 x, .int .i64 n] 23)).heap[w.heap.size]? = some (.cells #[.int .i64 d, .int .i64 x, .int .i64 n] 23 (0, 0)) := heap_new _ _ _ rfl
 have hba : Below w.heap.size w (w.alloc (.cells #[.int .i64 d, .int .i64 x, .int .i64 n] 23)) := (Below.refl _ _).alloc (Nat.le_refl _) _
 have HK := hide hk
 have HT := hide hT
 clear hk hT
 go_enter Tryz.func3, Tryz.ntmps3
 go_wp2_with (fail)
 generalize w.alloc (.cells #[.int .i64 d, .int .i64 x, .int .i64 n] 23) = wa at *
 have hsa : w.heap.size < wa.heap.size := (Array.getElem?_eq_some_iff.1 hz).1
 have z0 : wa.cell? ⟨w.heap.size, 0, none⟩ = some (.int .i64 d) := by simp [World.cell?, hz]
 have z1 : wa.cell? ⟨w.heap.size, 1, none⟩ = some (.int .i64 x) := by simp [World.cell?, hz]
 have z2 : wa.cell? ⟨w.heap.size, 2, none⟩ = some (.int .i64 n) := by simp [World.cell?, hz]
 have HBA := hide hba
 have HKEPT : Hid (∀ (w0 : World) (g : Nat), Below w.heap.size w w0 → w0.heap[g]? = some (.cells #[.int .i64 1, .int .i64 2] 3 (0, 0)) → Calls Tryz.prog 16 #[v1, .slice (some ⟨g, 0, none⟩) 2 2] w0 fun e w' =>
  ∃ (sl : Value), e = .returned sl ∧ Below w0.heap.size w0 w' ∧ Hid (∀ W, Below w'.heap.size w' W → Calls Tryz.prog 15 #[.agg #[.int .i64 d, .int .i64 x, .int .i64 n], sl] W fun e w' => e = .returned (.bool true) ∧ Below W.heap.size W w')) := by
  intro w0 g h0 h1
  refine ((unhide HK) w0 g h0 h1).mono ?_
  rintro e w' ⟨sl, L3, B, rfl, hb, hown, hl, hm⟩
  refine ⟨sl, rfl, hb, fun W hW => ?_⟩
  have hb2 : Below w.heap.size w W := (h0.trans (hb.mono h0.size)).trans (hW.mono (Nat.le_trans h0.size hb.size))
  exact runs_ok (B := B) ⟨hown.1, hown.2.imp id fun ⟨g', cap, cur, a1, a2, a3, a4⟩ => ⟨g', cap, cur, a1, a2, (hW.block g' (Array.getElem?_eq_some_iff.1 a3).1).trans a3, a4⟩⟩ hl hm ((unhide HT).below (hb2.mono hng))
 clear hz hba HK
 go_region_with (first
  | (go_at_call 16; refine (unhide HKEPT _ _ ?_ ?_).mono ?_; exact bel_any ((unhide HBA).alloc (Nat.le_of_lt hsa) _); exact heap_new _ _ _ rfl; rintro x w1 ⟨sl, rfl, hb1, hruns⟩; have hbw1 := (bel_any ((Below.refl wa.heap.size wa).alloc (Nat.le_refl _) (.cells #[.int .i64 1, .int .i64 2] 3)) : Below wa.heap.size wa ((wa.alloc (.cells #[.int .i64 1, .int .i64 2] 3)).drew)).trans (hb1.mono (by simp)); have y0 := cell_low hbw1 _ _ hsa z0; have y1 := cell_low hbw1 _ _ hsa z1; have y2 := cell_low hbw1 _ _ hsa z2)
  | (go_at_call 15; refine (unhide hruns _ ?_).mono ?_; exact bel_any (Below.refl _ w1); rintro x w2 ⟨rfl, hb2⟩))
 all_goals (
  have hb12 : Below w.heap.size w w2 := ((unhide HBA).trans (hbw1.mono (Nat.le_of_lt hsa))).trans (Below.mono (B := w1.heap.size) (w := w1) ⟨hb2.os, hb2.tape, hb2.output, hb2.size, hb2.block⟩ (Nat.le_trans (Nat.le_of_lt hsa) hbw1.size))
  have HB12 := hide hb12
  clear hb12 hb2 hb1 hbw1 hruns y0 y1 y2 z0 z1 z2
  go_wp2_with (fail)
  go_ret
  exact ⟨rfl, unhide HB12⟩)
theorem lod_of {l : List Sp.St} {L3 : List Tri} (h : L3.map prT = l.filter isLD) : Lod (L3.map prT) := by
 intro o ho
 rw [h, List.mem_filter] at ho
 have h2 := ho.2
 unfold isLD at h2
 simpa using h2
theorem Loads_some {d x n : Int} {sb so m cap : Nat} {l : List Sp.St} {w : World} (hs : Scr w sb so l) (hm : m = l.length) (hby : m * 40 ≤ 140737488355328) (hsb : sb < w.heap.size) (hT : Laid w) :
  Calls Tryz.prog 3 #[.agg #[.int .i64 d, .int .i64 x, .int .i64 n], .slice (some ⟨sb, so, none⟩) m cap] w fun e w' => e = .returned (.bool true) ∧ Below w.heap.size w w' := by
 refine Loads_any ?_ hT
 intro w0 g h0 h1
 refine (kept_any (hs.low h0 hsb) hm hby (by have := h0.size; omega) (by simp [World.cell?, h1]) (by simp [World.cell?, h1]) (Array.getElem?_eq_some_iff.1 h1).1).mono ?_
 rintro e w' ⟨sl, L3, rfl, hb, hown, hfil, hlen⟩
 exact ⟨sl, L3, _, rfl, hb, hown, lod_of hfil, by omega⟩
theorem Loads_nil {d x n : Int} {pa : Option Addr} {cap : Nat} {w : World} (hT : Laid w) :
  Calls Tryz.prog 3 #[.agg #[.int .i64 d, .int .i64 x, .int .i64 n], .slice pa 0 cap] w fun e w' => e = .returned (.bool true) ∧ Below w.heap.size w w' := by
 refine Loads_any ?_ hT
 intro w0 g h0 h1
 refine (kept_nil).mono ?_
 rintro e w' ⟨rfl, rfl⟩
 exact ⟨.slice none 0 0, [], 0, rfl, Below.refl _ _, World.ownsRow_nil _ _ _ _, fun o ho => absurd ho (by simp), by simp⟩
end Go.Proofs.YtdpomdelmdofmaaGreatDoor
