/-
  Walk of the statement's own Gets.
-/
import Derived.Test.YtdpomdelmdofmaaGreatDoorPart54
namespace Go.Proofs.YtdpomdelmdofmaaGreatDoor
open Go.RowKit
def KeptG (v1 : Value) (w : World) : Prop := ∀ (w0 : World) (g : Nat), Below w.heap.size w w0 → w0.heap[g]? = some (.cells #[.int .i64 1, .int .i64 2, .int .i64 3, .int .i64 4] 3 (0, 0)) → Calls Tryz.prog 16 #[v1, .slice (some ⟨g, 0, none⟩) 4 4] w0 fun e w' =>
 ∃ (sl : Value) (L3 : List Tri) (B : Nat), e = .returned sl ∧ Below w0.heap.size w0 w' ∧ w'.ownsRow B 49 3 sl L3.length (flat3 L3) ∧ Gts (L3.map prT) ∧ L3.length * 40 ≤ 140737488355328
set_option maxRecDepth 100000 in
set_option maxHeartbeats 16000000 in
theorem Gets_any {d x n : Int} {v1 : Value} {w : World} (hk : KeptG v1 w) (hT : Laid w) :
  Calls Tryz.prog 7 #[.agg #[.int .i64 d, .int .i64 x, .int .i64 n], v1] w fun e w' => e = .returned (.bool true) ∧ Below w.heap.size w w' := by
 have hng := hT.ng
 have hz : (w.alloc (.cells #[.int .i64 d, .int .i64 x, .int .i64 n] 23)).heap[w.heap.size]? = some (.cells #[.int .i64 d, .int .i64 x, .int .i64 n] 23 (0, 0)) := heap_new _ _ _ rfl
 have hba : Below w.heap.size w (w.alloc (.cells #[.int .i64 d, .int .i64 x, .int .i64 n] 23)) := (Below.refl _ _).alloc (Nat.le_refl _) _
 have HK := hide hk
 have HT := hide hT
 clear hk hT
 go_enter Tryz.func7, Tryz.ntmps7
 go_wp2_with (fail)
 generalize w.alloc (.cells #[.int .i64 d, .int .i64 x, .int .i64 n] 23) = wa at *
 have hsa : w.heap.size < wa.heap.size := (Array.getElem?_eq_some_iff.1 hz).1
 have z0 : wa.cell? ⟨w.heap.size, 0, none⟩ = some (.int .i64 d) := by simp [World.cell?, hz]
 have z1 : wa.cell? ⟨w.heap.size, 1, none⟩ = some (.int .i64 x) := by simp [World.cell?, hz]
 have z2 : wa.cell? ⟨w.heap.size, 2, none⟩ = some (.int .i64 n) := by simp [World.cell?, hz]
 have HBA := hide hba
 have HKEPT : Hid (∀ (w0 : World) (g : Nat), Below w.heap.size w w0 → w0.heap[g]? = some (.cells #[.int .i64 1, .int .i64 2, .int .i64 3, .int .i64 4] 3 (0, 0)) → Calls Tryz.prog 16 #[v1, .slice (some ⟨g, 0, none⟩) 4 4] w0 fun e w' =>
  ∃ (sl : Value), e = .returned sl ∧ Below w0.heap.size w0 w' ∧ Hid (∀ W, Below w'.heap.size w' W → Calls Tryz.prog 15 #[.agg #[.int .i64 d, .int .i64 x, .int .i64 n], sl] W fun e w' => e = .returned (.bool true) ∧ Below W.heap.size W w')) := by
  intro w0 g h0 h1
  refine ((unhide HK) w0 g h0 h1).mono ?_
  rintro e w' ⟨sl, L3, B, rfl, hb, hown, hl, hm⟩
  refine ⟨sl, rfl, hb, fun W hW => ?_⟩
  have hb2 : Below w.heap.size w W := (h0.trans (hb.mono h0.size)).trans (hW.mono (Nat.le_trans h0.size hb.size))
  exact runsG_ok (B := B) ⟨hown.1, hown.2.imp id fun ⟨g', cap, cur, a1, a2, a3, a4⟩ => ⟨g', cap, cur, a1, a2, (hW.block g' (Array.getElem?_eq_some_iff.1 a3).1).trans a3, a4⟩⟩ hl hm ((unhide HT).below (hb2.mono hng))
 clear hz hba HK
 go_region_with (first
  | (go_at_call 16; refine (unhide HKEPT _ _ ?_ ?_).mono ?_; exact bel_any ((unhide HBA).alloc (Nat.le_of_lt hsa) _); exact heap_new _ _ _ rfl; rintro x w1 ⟨sl, rfl, hb1, hruns⟩; have hbw1 := (bel_any ((Below.refl wa.heap.size wa).alloc (Nat.le_refl _) (.cells #[.int .i64 1, .int .i64 2, .int .i64 3, .int .i64 4] 3)) : Below wa.heap.size wa ((wa.alloc (.cells #[.int .i64 1, .int .i64 2, .int .i64 3, .int .i64 4] 3)).drew)).trans (hb1.mono (by simp)); have y0 := cell_low hbw1 _ _ hsa z0; have y1 := cell_low hbw1 _ _ hsa z1; have y2 := cell_low hbw1 _ _ hsa z2)
  | (go_at_call 15; refine (unhide hruns _ ?_).mono ?_; exact bel_any (Below.refl _ w1); rintro x w2 ⟨rfl, hb2⟩))
 all_goals (
  have hb12 : Below w.heap.size w w2 := ((unhide HBA).trans (hbw1.mono (Nat.le_of_lt hsa))).trans (Below.mono (B := w1.heap.size) (w := w1) ⟨hb2.os, hb2.tape, hb2.output, hb2.size, hb2.block⟩ (Nat.le_trans (Nat.le_of_lt hsa) hbw1.size))
  have HB12 := hide hb12
  clear hb12 hb2 hb1 hbw1 hruns y0 y1 y2 z0 z1 z2
  go_wp2_with (fail)
  go_ret
  exact ⟨rfl, unhide HB12⟩)
theorem gts_of {l : List Sp.St} {L3 : List Tri} (h : Among l [1, 2, 3, 4] L3) (hn : ∀ o ∈ l, o.2.1.length ≤ 1048576) : Gts (L3.map prT) := by
 intro o ho
 obtain ⟨p, hp, rfl⟩ := List.mem_map.1 ho
 obtain ⟨h1, h2⟩ := h p hp
 refine ⟨?_, hn p h1⟩
 have h3 : p.1 ∈ ([1, 2, 3, 4] : List Int) := h2
 simpa [prT] using h3
theorem Gets_some {d x n : Int} {sb so m cap : Nat} {l : List Sp.St} {w : World} (hs : Scr w sb so l) (hm : m = l.length) (hby : m ≤ 1048576) (hn : ∀ o ∈ l, o.2.1.length ≤ 1048576) (hsb : sb < w.heap.size) (hT : Laid w) :
  Calls Tryz.prog 7 #[.agg #[.int .i64 d, .int .i64 x, .int .i64 n], .slice (some ⟨sb, so, none⟩) m cap] w fun e w' => e = .returned (.bool true) ∧ Below w.heap.size w w' := by
 refine Gets_any ?_ hT
 intro w0 g h0 h1
 have hc : ∀ j (hj : j < ([1, 2, 3, 4] : List Int).length), w0.cell? ⟨g, j, none⟩ = some (.int .i64 ([1, 2, 3, 4] : List Int)[j]) := by
  intro j hj
  match j, hj with
  | 0, _ => simp [World.cell?, h1]
  | 1, _ => simp [World.cell?, h1]
  | 2, _ => simp [World.cell?, h1]
  | 3, _ => simp [World.cell?, h1]
 refine (keptG_any (N := 4) (ks := [1, 2, 3, 4]) (hs.low h0 hsb) hm rfl (by omega) (by omega) (by omega) (by have := h0.size; omega) hc (Array.getElem?_eq_some_iff.1 h1).1).mono ?_
 rintro e w' ⟨sl, L3, rfl, hb, hown, hfil, hlen⟩
 exact ⟨sl, L3, _, rfl, hb, hown, gts_of hfil hn, by omega⟩
theorem Gets_nil {d x n : Int} {pa : Option Addr} {cap : Nat} {w : World} (hT : Laid w) :
  Calls Tryz.prog 7 #[.agg #[.int .i64 d, .int .i64 x, .int .i64 n], .slice pa 0 cap] w fun e w' => e = .returned (.bool true) ∧ Below w.heap.size w w' := by
 refine Gets_any ?_ hT
 intro w0 g h0 h1
 refine (kept_nil).mono ?_
 rintro e w' ⟨rfl, rfl⟩
 exact ⟨.slice none 0 0, [], 0, rfl, Below.refl _ _, World.ownsRow_nil _ _ _ _, fun o ho => absurd ho (by simp), by simp⟩
end Go.Proofs.YtdpomdelmdofmaaGreatDoor
