/-
  Walk of the statements' own kept, for any list of kinds.
-/
import Derived.Test.YtdpomdelmdofmaaGreatDoorPart32
import Derived.Test.YtdpomdelmdofmaaGreatDoorPart40
namespace Go.Proofs.YtdpomdelmdofmaaGreatDoor
open Go.RowKit
def Among (l : List Sp.St) (ks : List Int) (L : List Tri) : Prop := ∀ o ∈ L, o ∈ l ∧ o.1 ∈ ks
theorem Among.snoc {l : List Sp.St} {ks : List Int} {L : List Tri} {o : Tri} (h : Among l ks L) (h1 : o ∈ l) (h2 : o.1 ∈ ks) : Among l ks (L ++ [o]) := by
 intro x hx
 rcases List.mem_append.1 hx with hx | hx
 ·exact h x hx
 ·obtain rfl : x = o := by simpa using hx
  exact ⟨h1, h2⟩
set_option maxRecDepth 100000 in
set_option maxHeartbeats 16000000 in
theorem keptG_any {sb so m cap kb N : Nat} {l : List Sp.St} {ks : List Int} {w : World} (hs : Scr w sb so l) (hm : m = l.length) (hN : N = ks.length) (hby : m * N * 40 ≤ 140737488355328) (hm9 : m ≤ 9223372036854775807) (hN9 : N ≤ 1000) (hsb : sb < w.heap.size)
  (hk : ∀ j (hj : j < ks.length), w.cell? ⟨kb, j, none⟩ = some (.int .i64 ks[j])) (hkb : kb < w.heap.size) :
  Calls Tryz.prog 16 #[.slice (some ⟨sb, so, none⟩) m cap, .slice (some ⟨kb, 0, none⟩) N N] w fun e w' => ∃ (sl : Value) (L3 : List Tri), e = .returned sl ∧ Below w.heap.size w w' ∧ w'.ownsRow w.heap.size 49 3 sl L3.length (flat3 L3) ∧ Among l ks L3 ∧ L3.length ≤ m * N := by
 obtain ⟨i0, hi0, hz0, hz1, hz2⟩ := info_parts op_info
 have hmb : (m : Int) ≤ 9223372036854775807 := by omega
 have hNb : (N : Int) ≤ 9223372036854775807 := by omega
 have HS := hide hs
 have HM := hide hm
 have HN := hide hN
 have HK := hide hk
 clear hs hm hN hk
 go_enter Tryz.func16, Tryz.ntmps16
 go_wp2_with (fail)
 go_loopw [5, 6] (fun sv i wr => ∃ (k : Nat) (L3 : List Tri) (sl : Value), k ≤ m ∧ sl = sv ∧ i = .int .i64 k ∧ wr.ownsRow w.heap.size 49 3 sl L3.length (flat3 L3) ∧ Hid (Among l ks L3) ∧ L3.length ≤ k * N ∧ Below w.heap.size w wr) (fun _ i _ => m - (intOf i).toNat)
 case atStart => exact ⟨0, [], .slice none 0 0, by omega, rfl, rfl, World.ownsRow_nil _ _ _ _, (show Among l ks [] from fun o ho => nomatch ho), by simp, Below.refl _ _⟩
 case round =>
  obtain ⟨k, L0, sl0, hk, rfl, rfl, hown0, HAM0, hlen0, hbel0⟩ := hrel
  by_cases hlt : k < m
  ·have hkl : k < l.length := by have := unhide HM; omega
   obtain ⟨q0, q1, q2⟩ := unhide HS k hkl
   obtain ⟨o, ho⟩ : ∃ o, o = l[k] := ⟨_, rfl⟩
   rw [← ho] at q0 q1 q2
   have HO := hide (show o ∈ l by rw [ho]; exact List.getElem_mem hkl)
   have hkm : (k + 1) * N ≤ m * N := Nat.mul_le_mul_right N hlt
   rw [Nat.succ_mul] at hkm
   obtain ⟨kN, hkN⟩ : ∃ kN, kN = k * N := ⟨_, rfl⟩
   obtain ⟨mN, hmN⟩ : ∃ mN, mN = m * N := ⟨_, rfl⟩
   rw [← hkN, ← hmN] at hkm
   rw [← hkN] at hlen0
   rw [← hmN] at hby
   have HKN := hide hkN
   have HMN := hide hmN
   have HQ0 := hide q0
   have HQ1 := hide q1
   have HQ2 := hide q2
   have HOWN0 := hide hown0
   have HBEL0 := hide hbel0
   clear q0 q1 q2 ho hkN hmN hown0 hbel0
   go_wp2_with (fail)
   go_loopw [5, 7] (fun sv jv wx => ∃ (j : Nat) (L3 : List Tri) (sl : Value), j ≤ N ∧ sl = sv ∧ jv = .int .i64 j ∧ wx.ownsRow w.heap.size 49 3 sl L3.length (flat3 L3) ∧ Hid (Among l ks L3) ∧ L3.length ≤ kN + j ∧ Below w.heap.size w wx) (fun _ j _ => N - (intOf j).toNat)
   case atStart => exact ⟨0, L0, _, by omega, rfl, rfl, unhide HOWN0, HAM0, by omega, unhide HBEL0⟩
   case round =>
    obtain ⟨j, L3, sl, hj, rfl, rfl, hown, HAM, hlen, hbel⟩ := hrel
    have HOWN := hide hown
    have HBEL := hide hbel
    by_cases hjn : j < N
    ·have hjk : j < ks.length := by have := unhide HN; omega
     have s0 := cell_low hbel _ _ hsb (unhide HQ0)
     have s1 := cell_low hbel _ _ hsb (unhide HQ1)
     have s2 := cell_low hbel _ _ hsb (unhide HQ2)
     have d0 := cell_low hbel _ _ hkb (unhide HK j hjk)
     have HMEM := hide (show ks[j] ∈ ks from List.getElem_mem hjk)
     generalize ks[j] = kj at *
     have hszr := hbel.size
     clear hown hbel
     by_cases h1 : o.1 = kj
     ·subst h1
      have HMEM2 := hide (unhide HAM |>.snoc (unhide HO) (unhide HMEM))
      go_wp2_with (fail)
      go_quiet (fail)
      go_wp2_with (at_builtin; go_loud (refine wpList_append_lies _ rfl _ _ _ rfl w.heap.size 49 i0 _ 3 40 Tryz.underlying24 hi0 hz0 hz1 hz2 rfl (by decide) sl L3.length (flat3 L3) rfl (World.ownsRow.alloc (w := wr.drewN _) (unhide HOWN) _) ⟨wr.heap.size, 0, none⟩ 1 1 [.int .i64 o.1, .string ⟨o.2.1.toArray⟩, .string ⟨o.2.2.toArray⟩] rfl rfl (World.news_of_block (cs := #[.int .i64 o.1, .string ⟨o.2.1.toArray⟩, .string ⟨o.2.2.toArray⟩]) (t := 49) (fr := (0, 0)) (heap_alloc_new (wr.drewN _) _)) (by simp [Value.oneCell']) (by decide) (by unfold maxLen; omega) (by omega) (by simp; omega) (wr.heap.size + 1) (by simp) ?_; intro g cap' w6 hown3 hgrow hat3 hlt3; have HOWN3 := hide hown3; have HGROW := hide hgrow; clear hown3 hgrow hat3))
      have hb6 : Below w.heap.size w w6 := by
       have hg := unhide HGROW
       refine (unhide HBEL).trans ⟨hg.os, hg.tape, hg.output, Nat.le_trans (by simp) hg.size, fun j hj => ?_⟩
       refine (hg.block j (by simp; omega) ?_).trans (Below.heap_alloc (wr.drewN _) _ j (by simp; omega))
       intro h
       have := (owns_lt3 (unhide HOWN) j h.symm).2
       omega
      have hown4 : w6.ownsRow w.heap.size 49 3 (.slice (some ⟨g, 0, none⟩) (L3.length + 1) cap') (L3 ++ [o]).length (flat3 (L3 ++ [o])) := by
       rw [tri_snoc, flat3_snoc]
       exact unhide HOWN3
      exact ⟨⟨j + 1, L3 ++ [o], _, by omega, rfl, by go_num, hown4, HMEM2, by rw [tri_snoc]; omega, hb6⟩, by simp only [intOf]; omega⟩
     ·have e1 : (o.1 == kj) = false := beq_eq_false_iff_ne.2 h1
      clear h1
      go_wp2_with (fail)
      go_quiet (fail)
      go_wp2_with (fail)
      exact ⟨⟨j + 1, L3, _, by omega, rfl, by go_num, unhide HOWN, HAM, by omega, bel_dn (unhide HBEL)⟩, by simp only [intOf]; omega⟩
    ·obtain rfl : j = N := by omega
     go_wp2_with (fail)
     exact ⟨⟨k + 1, L3, _, by omega, rfl, by go_num, unhide HOWN, HAM, by rw [Nat.succ_mul, ← unhide HKN]; omega, unhide HBEL⟩, by simp only [intOf]; omega⟩
  ·obtain rfl : k = m := by omega
   go_wp2_with (fail)
   go_ret
   exact ⟨_, L0, rfl, hbel0, hown0, unhide HAM0, hlen0⟩
end Go.Proofs.YtdpomdelmdofmaaGreatDoor

namespace Go.Proofs.YtdpomdelmdofmaaGreatDoor
open Go.RowKit
def KeptG (v1 : Value) (w : World) : Prop := ∀ (w0 : World) (g : Nat), Below w.heap.size w w0 → w0.heap[g]? = some (.cells #[.int .i64 1, .int .i64 2, .int .i64 3, .int .i64 4] 3 (0, 0)) → Calls Tryz.prog 16 #[v1, .slice (some ⟨g, 0, none⟩) 4 4] w0 fun e w' =>
 ∃ (sl : Value) (L3 : List Tri) (B : Nat), e = .returned sl ∧ Below w0.heap.size w0 w' ∧ w'.ownsRow B 49 3 sl L3.length (flat3 L3) ∧ Gts (L3.map prT) ∧ L3.length * 40 ≤ 140737488355328
set_option maxRecDepth 100000 in
set_option maxHeartbeats 16000000 in
theorem Gets_any {d x n : Int} {v1 : Value} {w : World} (hk : KeptG v1 w) (hT : Laid w) :
  Calls Tryz.prog 7 #[.agg #[.int .i64 d, .int .i64 x, .int .i64 n], v1] w fun e w' => e = .returned (.bool true) ∧ Below w.heap.size w w' := by
 have hng := hT.ng
 have hz : (w.alloc (.cells #[.int .i64 d, .int .i64 x, .int .i64 n] 23)).heap[w.heap.size]? = some (.cells #[.int .i64 d, .int .i64 x, .int .i64 n] 23 (0, 0)) := heap_new _ _ _ rfl
 have hba : Below w.heap.size w (w.alloc (.cells #[.int .i64 d, .int .i64 x, .int .i64 n] 23)) := (Below.refl _ _).alloc (Nat.le_refl _) _
 have HK := hide hk
 have HT := hide hT
 clear hk hT
 go_enter Tryz.func7, Tryz.ntmps7
 go_wp2_with (fail)
 generalize w.alloc (.cells #[.int .i64 d, .int .i64 x, .int .i64 n] 23) = wa at *
 have hsa : w.heap.size < wa.heap.size := (Array.getElem?_eq_some_iff.1 hz).1
 have z0 : wa.cell? ⟨w.heap.size, 0, none⟩ = some (.int .i64 d) := by simp [World.cell?, hz]
 have z1 : wa.cell? ⟨w.heap.size, 1, none⟩ = some (.int .i64 x) := by simp [World.cell?, hz]
 have z2 : wa.cell? ⟨w.heap.size, 2, none⟩ = some (.int .i64 n) := by simp [World.cell?, hz]
 have HBA := hide hba
 have HKEPT : Hid (∀ (w0 : World) (g : Nat), Below w.heap.size w w0 → w0.heap[g]? = some (.cells #[.int .i64 1, .int .i64 2, .int .i64 3, .int .i64 4] 3 (0, 0)) → Calls Tryz.prog 16 #[v1, .slice (some ⟨g, 0, none⟩) 4 4] w0 fun e w' =>
  ∃ (sl : Value), e = .returned sl ∧ Below w0.heap.size w0 w' ∧ Hid (∀ W, Below w'.heap.size w' W → Calls Tryz.prog 15 #[.agg #[.int .i64 d, .int .i64 x, .int .i64 n], sl] W fun e w' => e = .returned (.bool true) ∧ Below W.heap.size W w')) := by
  intro w0 g h0 h1
  refine ((unhide HK) w0 g h0 h1).mono ?_
  rintro e w' ⟨sl, L3, B, rfl, hb, hown, hl, hm⟩
  refine ⟨sl, rfl, hb, fun W hW => ?_⟩
  have hb2 : Below w.heap.size w W := (h0.trans (hb.mono h0.size)).trans (hW.mono (Nat.le_trans h0.size hb.size))
  exact runsG_ok (B := B) ⟨hown.1, hown.2.imp id fun ⟨g', cap, cur, a1, a2, a3, a4⟩ => ⟨g', cap, cur, a1, a2, (hW.block g' (Array.getElem?_eq_some_iff.1 a3).1).trans a3, a4⟩⟩ hl hm ((unhide HT).below (hb2.mono hng))
 clear hz hba HK
 go_region_with (first
  | (go_at_call 16; refine (unhide HKEPT _ _ ?_ ?_).mono ?_; exact bel_any ((unhide HBA).alloc (Nat.le_of_lt hsa) _); exact heap_new _ _ _ rfl; rintro x w1 ⟨sl, rfl, hb1, hruns⟩; have hbw1 := (bel_any ((Below.refl wa.heap.size wa).alloc (Nat.le_refl _) (.cells #[.int .i64 1, .int .i64 2, .int .i64 3, .int .i64 4] 3)) : Below wa.heap.size wa ((wa.alloc (.cells #[.int .i64 1, .int .i64 2, .int .i64 3, .int .i64 4] 3)).drew)).trans (hb1.mono (by simp)); have y0 := cell_low hbw1 _ _ hsa z0; have y1 := cell_low hbw1 _ _ hsa z1; have y2 := cell_low hbw1 _ _ hsa z2)
  | (go_at_call 15; refine (unhide hruns _ ?_).mono ?_; exact bel_any (Below.refl _ w1); rintro x w2 ⟨rfl, hb2⟩))
 all_goals (
  have hb12 : Below w.heap.size w w2 := ((unhide HBA).trans (hbw1.mono (Nat.le_of_lt hsa))).trans (Below.mono (B := w1.heap.size) (w := w1) ⟨hb2.os, hb2.tape, hb2.output, hb2.size, hb2.block⟩ (Nat.le_trans (Nat.le_of_lt hsa) hbw1.size))
  have HB12 := hide hb12
  clear hb12 hb2 hb1 hbw1 hruns y0 y1 y2 z0 z1 z2
  go_wp2_with (fail)
  go_ret
  exact ⟨rfl, unhide HB12⟩)
theorem gts_of {l : List Sp.St} {L3 : List Tri} (h : Among l [1, 2, 3, 4] L3) (hn : ∀ o ∈ l, o.2.1.length ≤ 1048576) : Gts (L3.map prT) := by
 intro o ho
 obtain ⟨p, hp, rfl⟩ := List.mem_map.1 ho
 obtain ⟨h1, h2⟩ := h p hp
 refine ⟨?_, hn p h1⟩
 have h3 : p.1 ∈ ([1, 2, 3, 4] : List Int) := h2
 simpa [prT] using h3
theorem Gets_some {d x n : Int} {sb so m cap : Nat} {l : List Sp.St} {w : World} (hs : Scr w sb so l) (hm : m = l.length) (hby : m ≤ 1048576) (hn : ∀ o ∈ l, o.2.1.length ≤ 1048576) (hsb : sb < w.heap.size) (hT : Laid w) :
  Calls Tryz.prog 7 #[.agg #[.int .i64 d, .int .i64 x, .int .i64 n], .slice (some ⟨sb, so, none⟩) m cap] w fun e w' => e = .returned (.bool true) ∧ Below w.heap.size w w' := by
 refine Gets_any ?_ hT
 intro w0 g h0 h1
 have hc : ∀ j (hj : j < ([1, 2, 3, 4] : List Int).length), w0.cell? ⟨g, j, none⟩ = some (.int .i64 ([1, 2, 3, 4] : List Int)[j]) := by
  intro j hj
  match j, hj with
  | 0, _ => simp [World.cell?, h1]
  | 1, _ => simp [World.cell?, h1]
  | 2, _ => simp [World.cell?, h1]
  | 3, _ => simp [World.cell?, h1]
 refine (keptG_any (N := 4) (ks := [1, 2, 3, 4]) (hs.low h0 hsb) hm rfl (by omega) (by omega) (by omega) (by have := h0.size; omega) hc (Array.getElem?_eq_some_iff.1 h1).1).mono ?_
 rintro e w' ⟨sl, L3, rfl, hb, hown, hfil, hlen⟩
 exact ⟨sl, L3, _, rfl, hb, hown, gts_of hfil hn, by omega⟩
theorem Gets_nil {d x n : Int} {pa : Option Addr} {cap : Nat} {w : World} (hT : Laid w) :
  Calls Tryz.prog 7 #[.agg #[.int .i64 d, .int .i64 x, .int .i64 n], .slice pa 0 cap] w fun e w' => e = .returned (.bool true) ∧ Below w.heap.size w w' := by
 refine Gets_any ?_ hT
 intro w0 g h0 h1
 refine (kept_nil).mono ?_
 rintro e w' ⟨rfl, rfl⟩
 exact ⟨.slice none 0 0, [], 0, rfl, Below.refl _ _, World.ownsRow_nil _ _ _ _, fun o ho => absurd ho (by simp), by simp⟩
end Go.Proofs.YtdpomdelmdofmaaGreatDoor
