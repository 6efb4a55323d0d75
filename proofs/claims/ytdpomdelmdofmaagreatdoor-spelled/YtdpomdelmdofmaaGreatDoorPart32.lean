/-
  Walk of the statement on spellings.
-/
import Derived.Test.YtdpomdelmdofmaaGreatDoorPart31
namespace Go.Proofs.YtdpomdelmdofmaaGreatDoor
open Go.RowKit

theorem dmp_two {a b : ByteArray} (h : Sp.Two 3 a.data.toList b.data.toList) (ha : a.size ≤ 1996) (hb : b.size ≤ 1996) :
    ∃ s : ByteArray, s.toList.isEmpty = false ∧ Sp.dmp 4 2 a.data.toList = (0, s.data.toList) ∧ ∀ p q : ByteArray, Sp.Bl p.data.toList → Sp.Bl q.data.toList → Sp.dmp 4 2 (p ++ b ++ q : ByteArray).data.toList = (0, s.data.toList) := by
  rw [Lib.size_eq] at ha hb
  obtain ⟨s, h1, h2, _⟩ := two_dmp h ha hb bl_nil bl_nil
  refine ⟨⟨s.toArray⟩, ?_, h2, fun p q hp hq => ?_⟩
  · rw [ByteArray.toList_eq, List.isEmpty_eq_false_iff]; exact h1
  · obtain ⟨s', _, k2, k3⟩ := two_dmp h ha hb hp hq
    have e : s = s' := by rw [h2] at k2; injection k2
    have e1 : (p ++ b ++ q : ByteArray).data.toList = p.data.toList ++ (b.data.toList ++ q.data.toList) := by simp
    rw [e1, k3, ← e]

theorem no_big {p q b : ByteArray} (hp : p.size ≤ 2) (hq : q.size ≤ 2) (hb : b.size ≤ 1996) : ¬ 9223372036854775807 < p.size + b.size ∧ ¬ 9223372036854775807 < p.size + b.size + q.size := ⟨by omega, by omega⟩

set_option maxRecDepth 100000 in
set_option maxHeartbeats 8000000 in
theorem Spelled_any {pa : Option Addr} {m cap : Nat} {w : World} (hm : m ≤ cap) (hc : cap ≤ maxLen)
    (hraw : 0 < m → ∃ rb ro : Nat, pa = some ⟨rb, ro, none⟩ ∧ rb < w.heap.size ∧ ∀ i, i < m → ∃ z : Int, -9223372036854775808 ≤ z ∧ z ≤ 9223372036854775807 ∧ w.cell? ⟨rb, ro + i, none⟩ = some (.int .i64 z)) (hT : Laid w) :
    Calls Tryz.prog 5 #[.slice pa m cap] w fun x w' => x = .returned (.bool true) ∧ Below w.heap.size w w' := by
  have HT := hide hT
  have hng := hT.ng
  have HM := hide hm
  have HC := hide hc
  have HRAW := hide hraw
  clear hT hm hc hraw
  go_enter Tryz.func5, Tryz.ntmps5
  go_wp2_with (fail)
  refine (loading_any _ (unhide HT)).mono ?_
  rintro x w1 ⟨rfl, hb1⟩
  have HB1 := hide hb1
  have hs1 := hb1.size
  have hfd : FD (w1.alloc (.cells #[.slice pa m cap, .int .i64 0] 37)) w1.heap.size pa m cap := by
    refine ⟨unhide HM, unhide HC, ⟨0, Nat.zero_le _, heap_new _ _ _ rfl⟩, fun hp => ?_⟩
    obtain ⟨rb, ro, h1, h2, h3⟩ := unhide HRAW hp
    have hba : Below w.heap.size w (w1.alloc (.cells #[.slice pa m cap, .int .i64 0] 37)) := hb1.alloc hs1 _
    exact ⟨rb, ro, h1, by omega, Nat.lt_of_lt_of_le h2 hba.size, fun i hi => let ⟨z, z1, z2, z3⟩ := h3 i hi; ⟨z, z1, z2, (hba.cell (p := ⟨rb, ro + i, none⟩) h2).trans z3⟩⟩
  have HFD := hide hfd
  clear hb1 hfd
  go_wp2_with (fail)
  refine (val_three _ _ _ _ _ (unhide HFD)).mono ?_
  rintro r w2 ⟨⟨a, b, htwo, sa, sb, rfl⟩, hf2⟩
  have HTW := hide htwo
  have HF2 := hide hf2
  have hb02 : Below w.heap.size w w2 := ((unhide HB1).alloc hs1 _).trans (hf2.2.below hs1 (by simp; omega))
  have HB2 := hide hb02
  have hR2 := hf2.1.lt
  have hsa : a.size ≤ 3000 := Nat.le_trans sa (by decide)
  have hsb : b.size ≤ 3000 := Nat.le_trans sb (by decide)
  clear htwo hf2 hb02 sa sb HFD HB1
  by_cases hl1 : b.size ≤ 1996
  · have e1 : decide ((1996 : Int) < (b.size : Int)) = false := by simp; omega
    by_cases hl2 : a.size ≤ 1996
    · have e2 : decide ((1996 : Int) < (a.size : Int)) = false := by simp; omega
      obtain ⟨s, hse, hda, hdb⟩ := dmp_two (unhide HTW) hl2 hl1
      have HDA := hide hda
      have HDB := hide hdb
      have HBC := hide ((unhide HB2).alloc (Nat.le_trans hs1 (Nat.le_of_lt hR2)) (.cells #[.int .i64 4, .int .i64 2, .int .i64 0] 23))
      have hz : (w2.alloc (.cells #[.int .i64 4, .int .i64 2, .int .i64 0] 23)).heap[w2.heap.size]? = some (.cells #[.int .i64 4, .int .i64 2, .int .i64 0] 23 (0, 0)) := heap_new _ _ _ rfl
      have HFC := hide ((unhide HF2).1.low (((Below.refl _ w2).alloc (Nat.le_refl _) (.cells #[.int .i64 4, .int .i64 2, .int .i64 0] 23))))
      have hcfg := hide (show Sp.cfg 4 2 0 = true by decide)
      clear hda hdb HTW
      go_wp2_with (fail)
      generalize w2.alloc (.cells #[.int .i64 4, .int .i64 2, .int .i64 0] 23) = w3 at *
      refine (dumped_is (unhide hcfg) (unhide HDA) _ ((unhide HT).below ((unhide HBC).mono hng))).mono ?_
      rintro x w4 ⟨rfl, hb4⟩
      have hs3 : w2.heap.size < w3.heap.size := (Array.getElem?_eq_some_iff.1 hz).1
      have HB4 := hide ((unhide HBC).trans (hb4.mono (by omega)))
      have hs4 : w2.heap.size < w4.heap.size := Nat.lt_of_lt_of_le hs3 hb4.size
      have hz4 : w4.heap[w2.heap.size]? = some (.cells #[.int .i64 4, .int .i64 2, .int .i64 0] 23 (0, 0)) := (hb4.block _ hs3).trans hz
      have z0 : w4.cell? ⟨w2.heap.size, 0, none⟩ = some (.int .i64 4) := by simp [World.cell?, hz4]
      have z1 : w4.cell? ⟨w2.heap.size, 1, none⟩ = some (.int .i64 2) := by simp [World.cell?, hz4]
      have z2 : w4.cell? ⟨w2.heap.size, 2, none⟩ = some (.int .i64 0) := by simp [World.cell?, hz4]
      have HF4 := hide ((unhide HFC).low hb4)
      have hne : w2.heap.size ≠ w1.heap.size := by omega
      clear hb4 hz hz4 HFC HDA
      go_wp2_with (fail)
      go_region_with (first
        | (go_at_call 19; refine (dumped_is (unhide hcfg) (unhide HDB p q (unhide HP) (unhide HQ)) _ ?_).mono ?_; exact (unhide HT).below ((unhide HB6).mono hng); rintro x w7 ⟨rfl, hb7⟩)
        | (go_at_call 22; refine (blank_any (unhide HF5)).mono ?_; rintro r w6 ⟨⟨q, hq, sq, rfl⟩, hf6⟩; have HQ := hide hq; have HB6 := hide ((unhide HB5).trans (hf6.2.below hs1 (Nat.le_trans hs1 (Nat.le_of_lt (unhide HF5).lt)))); have c0 := (hf6.2.cell (p := ⟨w2.heap.size, 0, none⟩) hs5 hne).trans y0; have c1 := (hf6.2.cell (p := ⟨w2.heap.size, 1, none⟩) hs5 hne).trans y1; have c2 := (hf6.2.cell (p := ⟨w2.heap.size, 2, none⟩) hs5 hne).trans y2; obtain ⟨n3, n4⟩ := no_big sp sq hl1)
        | (go_at_call 22; refine (blank_any (FD.drew (unhide HF4))).mono ?_; rintro r w5 ⟨⟨p, hp, sp, rfl⟩, hf5⟩; have HP := hide hp; have HF5 := hide hf5.1; have HB5 := hide ((unhide HB4).trans (hf5.2.undrew.below hs1 (Nat.le_trans hs1 (Nat.le_of_lt (unhide HF4).lt)))); have y0 := (hf5.2.undrew.cell (p := ⟨w2.heap.size, 0, none⟩) hs4 hne).trans z0; have y1 := (hf5.2.undrew.cell (p := ⟨w2.heap.size, 1, none⟩) hs4 hne).trans z1; have y2 := (hf5.2.undrew.cell (p := ⟨w2.heap.size, 2, none⟩) hs4 hne).trans z2; have hs5 := Nat.lt_of_lt_of_le hs4 hf5.2.undrew.size; obtain ⟨n1, n2⟩ := no_big sp sp hl1))
      all_goals (
        have HB7 := hide ((unhide HB6).trans (bel_from (a' := w6) (hb7.mono (unhide HB6).size)))
        clear hb7 hf5 hf6
        go_wp2_with (fail)
        go_ret
        exact ⟨rfl, bel_any (unhide HB7)⟩)
    · have e2 : decide ((1996 : Int) < (a.size : Int)) = true := by simp; omega
      go_wp2_with (fail)
      go_ret
      exact ⟨rfl, bel_any (unhide HB2)⟩
  · have e1 : decide ((1996 : Int) < (b.size : Int)) = true := by simp; omega
    go_wp2_with (fail)
    go_ret
    exact ⟨rfl, bel_any (unhide HB2)⟩

end Go.Proofs.YtdpomdelmdofmaaGreatDoor
