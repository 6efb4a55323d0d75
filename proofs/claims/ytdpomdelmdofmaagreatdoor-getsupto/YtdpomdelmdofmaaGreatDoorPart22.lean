/-
  Walks of the statement's own escaped and config.
-/
import Derived.Test.YtdpomdelmdofmaaGreatDoorPart20
import Derived.Test.YtdpomdelmdofmaaGreatDoorPart21
namespace Go.Proofs.YtdpomdelmdofmaaGreatDoor
open Go.RowKit
theorem trB_take {t : ByteArray} {j : Nat} (h : j < t.size) : Sp.trB (t.data.toList.take (j + 1)) = if t[j] == 92 then Sp.trB (t.data.toList.take j) + 1 else 0 := by
 have hl : j < t.data.toList.length := by simpa using h
 rw [List.take_succ_eq_append_getElem hl, trB_snoc]
 rfl
theorem odd_end (m : Nat) : Ending.returned (.bool ((m : Int) % 2 == 1)) = Ending.returned (.bool (decide ((m + 0) % 2 = 1))) := by
 congr 2
 rw [Bool.eq_iff_iff, beq_iff_eq, decide_eq_true_eq]
 omega
set_option maxHeartbeats 4000000 in
theorem escaped_any (t : ByteArray) (n : Nat) (hn : n ≤ t.size) (hs : t.size ≤ 80000) (w : World) :
  Calls Tryz.prog 20 #[.string t, .int .i64 n] w fun x w' => x = .returned (.bool (decide (Sp.trB (t.data.toList.take n) % 2 = 1))) ∧ Below w.heap.size w w' := by
 go_enter Tryz.func20, Tryz.ntmps20
 go_wp2_with (fail)
 go_loopw [5, 6] (fun k i wr => ∃ (j m : Nat), j ≤ n ∧ m ≤ n ∧ k = .int .i64 m ∧ (j = 0 ∧ i = .int .i64 (-1) ∨ ∃ j', j = j' + 1 ∧ i = .int .i64 (j' : Nat)) ∧ Sp.trB (t.data.toList.take n) = m + Sp.trB (t.data.toList.take j) ∧ m + j = n ∧ ∃ q, wr = w.drewN q) (fun _ i _ => (intOf i + 1).toNat)
 case atStart =>
  refine ⟨n, 0, by omega, by omega, rfl, ?_, by omega, by omega, 0, rfl⟩
  cases n with
  | zero => exact Or.inl ⟨rfl, rfl⟩
  | succ n => exact Or.inr ⟨n, rfl, by go_num⟩
 case round =>
  obtain ⟨j, m, hj, hm, rfl, hi, ht, hmj, q, rfl⟩ := hrel
  have HT := hide ht
  have HM := hide hmj
  clear ht hmj
  rcases hi with ⟨rfl, rfl⟩ | ⟨j', rfl, rfl⟩
  ·go_wp2_with (fail)
   go_ret
   refine ⟨?_, ⟨rfl, rfl, rfl, Nat.le_refl _, fun _ _ => rfl⟩⟩
   rw [unhide HT]
   exact odd_end m
  ·have hlt : j' < t.size := by omega
   have HE := hide (trB_take hlt)
   cases hc : (t[j'] == 92) with
   | true =>
    have e1 : ((t[j'].toNat : Int) == 92) = true := by
     have := eq_of_beq hc; rw [this]; rfl
    have HC := hide hc
    clear hc
    go_wp2_with (fail)
    refine ⟨⟨j', m + 1, by omega, by have := unhide HM; omega, by go_num, ?_, ?_, by have := unhide HM; omega, q, rfl⟩, ?_⟩
    ·cases j' with
     | zero => exact Or.inl ⟨rfl, rfl⟩
     | succ k => exact Or.inr ⟨k, rfl, by go_num⟩
    ·rw [unhide HT, unhide HE, unhide HC, if_pos rfl]; omega
    ·simp only [intOf]; omega
   | false =>
    have e1 : ((t[j'].toNat : Int) == 92) = false := by
     simp at hc ⊢
     intro h; exact hc (UInt8.toNat_inj.1 (by exact_mod_cast h))
    have HC := hide hc
    clear hc
    go_wp2_with (fail)
    go_ret
    refine ⟨?_, ⟨rfl, rfl, rfl, Nat.le_refl _, fun _ _ => rfl⟩⟩
    rw [unhide HT, unhide HE, unhide HC, if_neg (by decide)]
    exact odd_end m
set_option maxHeartbeats 4000000 in
theorem config_any (a b : Int) (ha0 : -9223372036854775808 ≤ a) (ha1 : a ≤ 9223372036854775807) (hb0 : -9223372036854775808 ≤ b) (hb1 : b ≤ 9223372036854775807) (w : World) :
  Calls Tryz.prog 18 #[.int .i64 a, .int .i64 b, .int .i64 0] w fun x w' => (∃ (d e n : Nat), d < 20 ∧ e < 401 ∧ n < 2001 ∧ x = .returned (.agg #[.int .i64 ((d + 1 : Nat) : Int), .int .i64 e, .int .i64 n])) ∧ Below w.heap.size w w' := by
 go_enter Tryz.func18, Tryz.ntmps18
 go_wp2_with (fail)
 refine (pick_any a 20 ha0 ha1 (by omega) (by omega) _).mono ?_
 rintro x w1 ⟨⟨d, hd, rfl⟩, rfl⟩
 go_wp2_with (fail)
 refine (pick_any b 401 hb0 hb1 (by omega) (by omega) _).mono ?_
 rintro x w1 ⟨⟨e, he, rfl⟩, rfl⟩
 go_wp2_with (fail)
 refine (pick_any 0 2001 (by omega) (by omega) (by omega) (by omega) _).mono ?_
 rintro x w1 ⟨⟨n, hn, rfl⟩, rfl⟩
 go_wp2_with (fail)
 refine bodyPost_ret (v := .agg #[.int .i64 ((d + 1 : Nat) : Int), .int .i64 e, .int .i64 n]) (by simp [results, Tryz.results18, go_sem]; omega) rfl ⟨⟨d, e, n, hd, he, hn, rfl⟩, ?_⟩
 exact (Below.refl _ w).alloc (Nat.le_refl _) _
end Go.Proofs.YtdpomdelmdofmaaGreatDoor

namespace Go.Proofs.YtdpomdelmdofmaaGreatDoor
open Go.RowKit
def Sp.dmp (d e : Int) (t : Sp.By) : Nat × Sp.By := match Sp.readTo t d e with
 | (c, some v) => (c, Sp.can top v)
 | (c, none) => (c, [])
theorem run_dmp {d e n : Int} (hc : Sp.cfg d e n = true) (t : Sp.By) : ∃ k, Sp.run d e n none [(1, t, []), (2, [], [])] = [((Sp.dmp d e t).1, 0, []), (k, 0, (Sp.dmp d e t).2)] := by
 have s1 : Sp.step d e n none (1, t, []) = Sp.ldd (Sp.readTo t d e) none := by
  unfold Sp.step; rw [hc, if_pos rfl, if_neg (by simp), if_pos rfl]
 have s2 : ∀ v, Sp.step d e n (some v) (2, [], []) = ((0, 0, Sp.can top v.1), some v) := fun v => by
  unfold Sp.step; rw [hc, if_pos rfl, if_neg (by simp), if_neg (by simp)]; rfl
 have s3 : Sp.step d e n none (2, [], []) = ((3, 0, []), none) := by
  unfold Sp.step; rw [hc, if_pos rfl, if_neg (by simp), if_neg (by simp)]
 simp only [Sp.run, s1]
 unfold Sp.dmp
 match Sp.readTo t d e with
 | (c, some v) => exact ⟨0, by simp only [Sp.ldd, s2]⟩
 | (c, none) => exact ⟨3, by simp only [Sp.ldd, s3]⟩
theorem plain_dmp (t : Sp.By) : Plain [(1, t, []), (2, [], [])] := by
 intro o ho
 simp only [List.mem_cons, List.not_mem_nil, or_false] at ho
 rcases ho with rfl | rfl
 ·exact Or.inl (Or.inl (show (1 : Int) < 3 by decide))
 ·exact Or.inl (Or.inl (show (2 : Int) < 3 by decide))
def dmpCells (t : ByteArray) : Array Value := #[.int .i64 1, .string t, .string ⟨#[]⟩, .int .i64 2, .string ⟨#[]⟩, .string ⟨#[]⟩]
theorem scr_dmp {w : World} {g : Nat} {t : ByteArray} (h : w.heap[g]? = some (.cells (dmpCells t) 49 (0, 0))) : Scr w g 0 [(1, t.data.toList, []), (2, [], [])] := by
 intro i hi
 have hc : ∀ j, w.cell? ⟨g, j, none⟩ = (dmpCells t)[j]? := fun j => by simp [World.cell?, h]
 rw [hc, hc, hc]
 match i, hi with
 | 0, _ => exact ⟨rfl, by simp [dmpCells], rfl⟩
 | 1, _ => exact ⟨rfl, rfl, rfl⟩
theorem bel_any {B : Nat} {a w w' : World} (h : Below B a w) (e : w'.heap = w.heap := by rfl) (e1 : w'.os = w.os := by rfl) (e2 : w'.tape = w.tape := by rfl) (e3 : w'.output = w.output := by rfl) : Below B a w' :=
 ⟨e1.trans h.os, e2.trans h.tape, e3.trans h.output, by rw [e]; exact h.size, fun k hk => by rw [e]; exact h.block k hk⟩
theorem bel_from {B : Nat} {a a' w : World} (h : Below B a w) (e : a.heap = a'.heap := by rfl) (e1 : a.os = a'.os := by rfl) (e2 : a.tape = a'.tape := by rfl) (e3 : a.output = a'.output := by rfl) : Below B a' w :=
 ⟨h.os.trans e1, h.tape.trans e2, h.output.trans e3, by rw [← e]; exact h.size, fun k hk => by rw [← e]; exact h.block k hk⟩
set_option maxRecDepth 100000 in
set_option maxHeartbeats 8000000 in
theorem dumped_any {d e n : Int} (hc : Sp.cfg d e n = true) (t : ByteArray) (w : World) (hT : Laid w) :
  Calls Tryz.prog 19 #[.agg #[.int .i64 d, .int .i64 e, .int .i64 n], .string t] w fun x w' => x = .returned (.tuple #[.string ⟨(Sp.dmp d e t.data.toList).2.toArray⟩, .int .i64 (Sp.dmp d e t.data.toList).1]) ∧ Below w.heap.size w w' := by
 have HT := hide hT
 have hng := hT.ng
 have HC := hide hc
 have hz : (w.alloc (.cells #[.int .i64 d, .int .i64 e, .int .i64 n] 23)).heap[w.heap.size]? = some (.cells #[.int .i64 d, .int .i64 e, .int .i64 n] 23 (0, 0)) := heap_new _ _ _ rfl
 have hba : Below w.heap.size w (w.alloc (.cells #[.int .i64 d, .int .i64 e, .int .i64 n] 23)) := (Below.refl _ _).alloc (Nat.le_refl _) _
 clear hT hc
 go_enter Tryz.func19, Tryz.ntmps19
 go_wp2_with (fail)
 generalize w.alloc (.cells #[.int .i64 d, .int .i64 e, .int .i64 n] 23) = wa at *
 have hsa : w.heap.size < wa.heap.size := (Array.getElem?_eq_some_iff.1 hz).1
 have z0 : wa.cell? ⟨w.heap.size, 0, none⟩ = some (.int .i64 d) := by simp [World.cell?, hz]
 have z1 : wa.cell? ⟨w.heap.size, 1, none⟩ = some (.int .i64 e) := by simp [World.cell?, hz]
 have z2 : wa.cell? ⟨w.heap.size, 2, none⟩ = some (.int .i64 n) := by simp [World.cell?, hz]
 have HZ := hide hz
 have HBA := hide hba
 have HRUN : Hid (∀ (w0 : World) (g : Nat), Below w.heap.size w w0 → w0.heap[g]? = some (.cells (dmpCells t) 49 (0, 0)) → Calls Tryz.prog 24 #[.agg #[.int .i64 d, .int .i64 e, .int .i64 n], .slice (some ⟨g, 0, none⟩) 2 2] w0 fun x w' => RunEnd 2 (Sp.run d e n none [(1, t.data.toList, []), (2, [], [])]) w0 x w') := by
  intro w0 g h0 h1
  exact Run_some (d := d) (e := e) (n := n) (l := [(1, t.data.toList, []), (2, [], [])]) (m := 2) (cap := 2) (scr_dmp h1) (plain_dmp _) rfl (by decide) (by decide) (by decide) (Array.getElem?_eq_some_iff.1 h1).1 ((unhide HT).below (h0.mono hng))
 clear hz hba
 go_region_with (first
  | (go_at_call_of 26 t; refine (kstep_any 1 t _ _).mono ?_; rintro x w1 ⟨rfl, hb1⟩; have y0 := (hb1.cell (p := ⟨w.heap.size, 0, none⟩) hsa).trans z0; have y1 := (hb1.cell (p := ⟨w.heap.size, 1, none⟩) hsa).trans z1; have y2 := (hb1.cell (p := ⟨w.heap.size, 2, none⟩) hsa).trans z2; have hs1 := Nat.lt_of_lt_of_le hsa hb1.size)
  | (go_at_call 26; refine (kstep_any 2 _ _ _).mono ?_; rintro x w2 ⟨rfl, hb2⟩; have x0 := (hb2.cell (p := ⟨w.heap.size, 0, none⟩) hs1).trans y0; have x1 := (hb2.cell (p := ⟨w.heap.size, 1, none⟩) hs1).trans y1; have x2 := (hb2.cell (p := ⟨w.heap.size, 2, none⟩) hs1).trans y2; have hs2 := Nat.lt_of_lt_of_le hs1 hb2.size)
  | (go_at_call 24; refine (unhide HRUN _ _ ?_ ?_).mono ?_; exact bel_any ((((unhide HBA).trans (bel_from (hb1.mono (Nat.le_of_lt hsa)))).trans (bel_from (hb2.mono (Nat.le_of_lt hs1)))).alloc (Nat.le_of_lt hs2) _); exact heap_new _ _ _ rfl; rintro x w3 ⟨A, cs, rfl, hA, hrow, hans, hb3⟩; have hb4 := bel_any ((((unhide HBA).trans (bel_from (hb1.mono (Nat.le_of_lt hsa)))).trans (bel_from (hb2.mono (Nat.le_of_lt hs1)))).alloc (Nat.le_of_lt hs2) _) |>.trans (hb3.mono (Nat.le_trans (Nat.le_of_lt hs2) (by simp)))))
 all_goals (
  replace hb4 : Below w.heap.size w w3 := hb4
  have HB4 := hide hb4
  obtain ⟨k, hk⟩ := run_dmp (unhide HC) t.data.toList
  rw [hk] at hans
  obtain ⟨hsz, hc⟩ := hans
  have q0 := hc 0 (by simp)
  have q1 := hc 1 (by simp)
  simp only [List.getElem_cons_zero, List.getElem_cons_succ] at q0 q1
  have hcell : ∀ j, w3.cell? ⟨A, j, none⟩ = cs[j]? := fun j => by simp [World.cell?, hrow]
  have g00 := (hcell 0).trans q0.1
  have g12 := (hcell 5).trans q1.2.2
  clear q0 q1 hc hcell hrow hsz hb4 hb1 hb2 hb3 hk x0 x1 x2 y0 y1 y2 z0 z1 z2
  go_wp2_with (fail)
  go_quiet (fail)
  go_wp2_with (fail)
  go_ret2
  exact ⟨rfl, bel_any (unhide HB4)⟩)
end Go.Proofs.YtdpomdelmdofmaaGreatDoor

namespace Go.Proofs.YtdpomdelmdofmaaGreatDoor
open Go.RowKit
theorem sca_le (l : Sp.By) : (Sp.sca l).2 ≤ l.length := by
 cases l with
 | nil => simp [Sp.sca]
 | cons c r =>
  unfold Sp.sca
  simp only
  split
  ·simp
  ·rename_i h
   split
   ·simp
   ·split
    ·simp
    ·simp only [List.length_cons]; omega
def Sp.u8 (l : Sp.By) : Bool := if _h : l = [] then true else if _h2 : (Sp.sca l).2 = 0 then false else Sp.u8 (l.drop (Sp.sca l).2)
termination_by l.length
decreasing_by
 have : 0 < l.length := List.length_pos_iff.2 _h
 rw [List.length_drop]
 omega
theorem u8_nil : Sp.u8 [] = true := by rw [Sp.u8]; simp
theorem u8_no {l : Sp.By} (h : l ≠ []) (h2 : (Sp.sca l).2 = 0) : Sp.u8 l = false := by rw [Sp.u8]; simp [h, h2]
theorem u8_go {l : Sp.By} (h : l ≠ []) (h2 : ¬ (Sp.sca l).2 = 0) : Sp.u8 l = Sp.u8 (l.drop (Sp.sca l).2) := by
 rw [Sp.u8]; simp [h, h2]
set_option maxRecDepth 100000 in
set_option maxHeartbeats 4000000 in
theorem rUtf8_anyL (t : ByteArray) (hs : t.size ≤ 1048576) (w : World) :
  Calls Tryz.prog 90 #[.string t] w fun e w' => e = .returned (.bool (Sp.u8 t.data.toList)) ∧ Below w.heap.size w w' := by
 have ha : AtL t 0 t.data.toList := ⟨hs, Nat.zero_le _, by simp⟩
 have HA := hide ha
 clear ha
 go_enter Tryz.func90, Tryz.ntmps90
 go_wp2_with (fail)
 go_loopw [3] (fun i wr => ∃ (q : Nat) (l' : Sp.By), i = .int .i64 q ∧ AtL t q l' ∧ Sp.u8 t.data.toList = Sp.u8 l' ∧ Below w.heap.size w wr) (fun i _ => t.size - (intOf i).toNat)
 case atStart => exact ⟨0, _, rfl, unhide HA, rfl, bel_same⟩
 case round =>
  obtain ⟨q, l', rfl, hat, hu, hbel⟩ := hrel
  have HU := hide hu
  have HQ := hide hat
  have HB := hide hbel
  cases l' with
  | nil =>
   have hp := hat.nil
   have e1 : ¬ q < t.size := by omega
   clear hat hu hbel hp
   go_wp2_with (fail)
   go_ret
   exact ⟨by rw [unhide HU, u8_nil]; rfl, bel_any (unhide HB)⟩
  | cons d l' =>
   have e1 := hat.lt
   have hle := sca_le (d :: l')
   have hlen := hat.len
   have hsz := hat.small
   have HLE := hide hle
   have HLN := hide hlen
   clear hat hu hbel hle hlen
   go_wp2_with (fail)
   refine (rScalar_anyL (unhide HQ) _).mono ?_
   rintro x w2 ⟨rfl, hb2⟩
   have HB2 := hide ((unhide HB).trans (hb2.mono (unhide HB).size))
   generalize hsc : Sp.sca (d :: l') = vn at *
   obtain ⟨v, n⟩ := vn
   have HSC := hide hsc
   clear hb2 hsc
   by_cases hn : n = 0
   ·subst hn
    go_wp2_with (fail)
    go_ret
    exact ⟨by rw [unhide HU, u8_no (by simp) (by rw [unhide HSC])]; rfl, bel_any (unhide HB2)⟩
   ·have hn0 : ((n : Int) == 0) = false := by simp; omega
    have hn4 : n ≤ 1048576 := by have h1 := unhide HLE; have h2 := unhide HLN; have : n ≤ (d :: l').length := h1; omega
    have HN := hide hn
    clear hn
    go_wp2_with (fail)
    have h1 := unhide HLE
    have h2 := unhide HLN
    have h3 := unhide HN
    exact ⟨⟨q + n, (d :: l').drop n, by go_num, (unhide HQ).add n h1, by rw [unhide HU, u8_go (by simp) (by rw [unhide HSC]; exact h3), unhide HSC], bel_any (unhide HB2)⟩, by simp only [intOf]; omega⟩
theorem rUtf8_any (t : ByteArray) (hs : t.size ≤ 2000) (w : World) :
  Calls Tryz.prog 90 #[.string t] w fun e w' => e = .returned (.bool (Sp.u8 t.data.toList)) ∧ Below w.heap.size w w' := rUtf8_anyL t (Nat.le_trans hs (by decide)) w
def Sp.hxI (c : Nat) : Int := match Sp.hexd c with
 | some n => (n : Int)
 | none => -1
set_option maxHeartbeats 1000000 in
theorem rHex_0 (c : Nat) (h : 48 ≤ c ∧ c ≤ 57) (w : World) : Calls Tryz.prog 255 #[.int .u8 c] w fun e w' => e = .returned (.int .i64 (Sp.hxI c)) ∧ w' = w := by
 have e : Sp.hxI c = (c : Int) - 48 := by
  unfold Sp.hxI Sp.hexd
  rw [if_pos (by omega)]
  simp only
  omega
 have HE := hide e
 have hw : wrap64 (c : Int) = c := by unfold wrap64; omega
 have f0 : decide ((48 : Int) ≤ (c : Int)) = true := decide_eq_true (by omega)
 have f1 : decide ((c : Int) ≤ 57) = true := decide_eq_true (by omega)
 clear e
 go_enter Tryz.func255, Tryz.ntmps255
 go_wp2_with (fail)
 go_ret
 exact ⟨by rw [unhide HE]; rfl, rfl⟩
set_option maxHeartbeats 1000000 in
theorem rHex_1 (c : Nat) (h : 97 ≤ c ∧ c ≤ 102) (w : World) : Calls Tryz.prog 255 #[.int .u8 c] w fun e w' => e = .returned (.int .i64 (Sp.hxI c)) ∧ w' = w := by
 have e : Sp.hxI c = (c : Int) - 97 + 10 := by
  unfold Sp.hxI Sp.hexd
  rw [if_neg (by omega), if_pos (by omega)]
  simp only
  omega
 have HE := hide e
 have hw : wrap64 (c : Int) = c := by unfold wrap64; omega
 have f0 : decide ((48 : Int) ≤ (c : Int)) = true := decide_eq_true (by omega)
 have f1 : decide ((c : Int) ≤ 57) = false := decide_eq_false (by omega)
 have f2 : decide ((97 : Int) ≤ (c : Int)) = true := decide_eq_true (by omega)
 have f3 : decide ((c : Int) ≤ 102) = true := decide_eq_true (by omega)
 clear e
 go_enter Tryz.func255, Tryz.ntmps255
 go_wp2_with (fail)
 go_ret
 exact ⟨by rw [unhide HE]; rfl, rfl⟩
set_option maxHeartbeats 1000000 in
theorem rHex_2 (c : Nat) (h : 65 ≤ c ∧ c ≤ 70) (w : World) : Calls Tryz.prog 255 #[.int .u8 c] w fun e w' => e = .returned (.int .i64 (Sp.hxI c)) ∧ w' = w := by
 have e : Sp.hxI c = (c : Int) - 65 + 10 := by
  unfold Sp.hxI Sp.hexd
  rw [if_neg (by omega), if_neg (by omega), if_pos (by omega)]
  simp only
  omega
 have HE := hide e
 have hw : wrap64 (c : Int) = c := by unfold wrap64; omega
 have f0 : decide ((48 : Int) ≤ (c : Int)) = true := decide_eq_true (by omega)
 have f1 : decide ((c : Int) ≤ 57) = false := decide_eq_false (by omega)
 have f2 : decide ((97 : Int) ≤ (c : Int)) = false := decide_eq_false (by omega)
 have f3 : decide ((65 : Int) ≤ (c : Int)) = true := decide_eq_true (by omega)
 have f4 : decide ((c : Int) ≤ 70) = true := decide_eq_true (by omega)
 clear e
 go_enter Tryz.func255, Tryz.ntmps255
 go_wp2_with (fail)
 go_ret
 exact ⟨by rw [unhide HE]; rfl, rfl⟩
set_option maxHeartbeats 1000000 in
theorem rHex_3 (c : Nat) (h : c < 48) (w : World) : Calls Tryz.prog 255 #[.int .u8 c] w fun e w' => e = .returned (.int .i64 (Sp.hxI c)) ∧ w' = w := by
 have e : Sp.hxI c = -1 := by
  unfold Sp.hxI Sp.hexd
  rw [if_neg (by omega), if_neg (by omega), if_neg (by omega)]
 have HE := hide e
 have hw : wrap64 (c : Int) = c := by unfold wrap64; omega
 have f0 : decide ((48 : Int) ≤ (c : Int)) = false := decide_eq_false (by omega)
 have f1 : decide ((97 : Int) ≤ (c : Int)) = false := decide_eq_false (by omega)
 have f2 : decide ((65 : Int) ≤ (c : Int)) = false := decide_eq_false (by omega)
 clear e
 go_enter Tryz.func255, Tryz.ntmps255
 go_wp2_with (fail)
 go_ret
 exact ⟨by rw [unhide HE]; rfl, rfl⟩
set_option maxHeartbeats 1000000 in
theorem rHex_4 (c : Nat) (h : 58 ≤ c ∧ c ≤ 64) (w : World) : Calls Tryz.prog 255 #[.int .u8 c] w fun e w' => e = .returned (.int .i64 (Sp.hxI c)) ∧ w' = w := by
 have e : Sp.hxI c = -1 := by
  unfold Sp.hxI Sp.hexd
  rw [if_neg (by omega), if_neg (by omega), if_neg (by omega)]
 have HE := hide e
 have hw : wrap64 (c : Int) = c := by unfold wrap64; omega
 have f0 : decide ((48 : Int) ≤ (c : Int)) = true := decide_eq_true (by omega)
 have f1 : decide ((c : Int) ≤ 57) = false := decide_eq_false (by omega)
 have f2 : decide ((97 : Int) ≤ (c : Int)) = false := decide_eq_false (by omega)
 have f3 : decide ((65 : Int) ≤ (c : Int)) = false := decide_eq_false (by omega)
 clear e
 go_enter Tryz.func255, Tryz.ntmps255
 go_wp2_with (fail)
 go_ret
 exact ⟨by rw [unhide HE]; rfl, rfl⟩
set_option maxHeartbeats 1000000 in
theorem rHex_5 (c : Nat) (h : 71 ≤ c ∧ c ≤ 96) (w : World) : Calls Tryz.prog 255 #[.int .u8 c] w fun e w' => e = .returned (.int .i64 (Sp.hxI c)) ∧ w' = w := by
 have e : Sp.hxI c = -1 := by
  unfold Sp.hxI Sp.hexd
  rw [if_neg (by omega), if_neg (by omega), if_neg (by omega)]
 have HE := hide e
 have hw : wrap64 (c : Int) = c := by unfold wrap64; omega
 have f0 : decide ((48 : Int) ≤ (c : Int)) = true := decide_eq_true (by omega)
 have f1 : decide ((c : Int) ≤ 57) = false := decide_eq_false (by omega)
 have f2 : decide ((97 : Int) ≤ (c : Int)) = false := decide_eq_false (by omega)
 have f3 : decide ((65 : Int) ≤ (c : Int)) = true := decide_eq_true (by omega)
 have f4 : decide ((c : Int) ≤ 70) = false := decide_eq_false (by omega)
 clear e
 go_enter Tryz.func255, Tryz.ntmps255
 go_wp2_with (fail)
 go_ret
 exact ⟨by rw [unhide HE]; rfl, rfl⟩
set_option maxHeartbeats 1000000 in
theorem rHex_6 (c : Nat) (h : 103 ≤ c ∧ c < 256) (w : World) : Calls Tryz.prog 255 #[.int .u8 c] w fun e w' => e = .returned (.int .i64 (Sp.hxI c)) ∧ w' = w := by
 have e : Sp.hxI c = -1 := by
  unfold Sp.hxI Sp.hexd
  rw [if_neg (by omega), if_neg (by omega), if_neg (by omega)]
 have HE := hide e
 have hw : wrap64 (c : Int) = c := by unfold wrap64; omega
 have f0 : decide ((48 : Int) ≤ (c : Int)) = true := decide_eq_true (by omega)
 have f1 : decide ((c : Int) ≤ 57) = false := decide_eq_false (by omega)
 have f2 : decide ((97 : Int) ≤ (c : Int)) = true := decide_eq_true (by omega)
 have f3 : decide ((c : Int) ≤ 102) = false := decide_eq_false (by omega)
 have f4 : decide ((65 : Int) ≤ (c : Int)) = true := decide_eq_true (by omega)
 have f5 : decide ((c : Int) ≤ 70) = false := decide_eq_false (by omega)
 clear e
 go_enter Tryz.func255, Tryz.ntmps255
 go_wp2_with (fail)
 go_ret
 exact ⟨by rw [unhide HE]; rfl, rfl⟩
theorem rHex_any (c : Nat) (hc : c < 256) (w : World) : Calls Tryz.prog 255 #[.int .u8 c] w fun e w' => e = .returned (.int .i64 (Sp.hxI c)) ∧ w' = w := by
 by_cases h0 : 48 ≤ c ∧ c ≤ 57
 ·exact rHex_0 c h0 w
 ·by_cases h1 : 97 ≤ c ∧ c ≤ 102
  ·exact rHex_1 c h1 w
  ·by_cases h2 : 65 ≤ c ∧ c ≤ 70
   ·exact rHex_2 c h2 w
   ·by_cases h3 : c < 48
    ·exact rHex_3 c h3 w
    ·by_cases h4 : c ≤ 64
     ·exact rHex_4 c ⟨by omega, h4⟩ w
     ·by_cases h5 : c ≤ 96
      ·exact rHex_5 c ⟨by omega, h5⟩ w
      ·exact rHex_6 c ⟨by omega, hc⟩ w
end Go.Proofs.YtdpomdelmdofmaaGreatDoor

namespace Go.Proofs.YtdpomdelmdofmaaGreatDoor
open Go.RowKit
def Sp.fourI (l : Sp.By) : Int := if 6 ≤ l.length ∧ Sp.tk l 92 = true ∧ Sp.tk l.tail 117 = true then (match Sp.hexs 4 0 (l.drop 2) with
 | some (n, _) => (n : Int)
 | none => -1) else -1
theorem fourI_no {l : Sp.By} (h : ¬ (6 ≤ l.length ∧ Sp.tk l 92 = true ∧ Sp.tk l.tail 117 = true)) : Sp.fourI l = -1 := by unfold Sp.fourI; rw [if_neg h]
theorem fourI_yes {l : Sp.By} (h : 6 ≤ l.length ∧ Sp.tk l 92 = true ∧ Sp.tk l.tail 117 = true) : Sp.fourI l = match Sp.hexs 4 0 (l.drop 2) with
  | some (n, _) => (n : Int)
  | none => -1 := by unfold Sp.fourI; rw [if_pos h]
theorem tk_byte {t : ByteArray} {p : Nat} {c : UInt8} {r : Sp.By} (ha : At t p (c :: r)) (u : UInt8) : ((t[p]'ha.lt).toNat : Int) == (u.toNat : Int) ↔ Sp.tk (c :: r) u = true := by
 rw [ha.byte, tk_hd, beq_iff_eq, beq_iff_eq]
 constructor
 ·intro h; exact UInt8.toNat_inj.1 (by exact_mod_cast h)
 ·rintro rfl; rfl
theorem hexs_no {k n : Nat} {c : UInt8} {r : Sp.By} (h : Sp.hexd c.toNat = none) : Sp.hexs (k + 1) n (c :: r) = none := by
 rw [Sp.hexs, pk_cons, h]
theorem hexs_yes {k n m : Nat} {c : UInt8} {r : Sp.By} (h : Sp.hexd c.toNat = some m) : Sp.hexs (k + 1) n (c :: r) = Sp.hexs k (n * 16 + m) r := by
 rw [Sp.hexs, pk_cons, h]
 rfl
set_option maxRecDepth 100000 in
set_option maxHeartbeats 8000000 in
theorem rFour_any {w : World} {R : Nat} {t : ByteArray} {p : Nat} {l : Sp.By} (h : RS w R t) (ha : At t p l) :
  Calls Tryz.prog 210 #[.pointer (some ⟨R, 0, none⟩), .int .i64 p] w fun e w' => e = .returned (.int .i64 (Sp.fourI l)) ∧ w' = w := by
 have c0 : w.cell? ⟨R, 0, none⟩ = some (.string t) := h
 have hlen := ha.len
 have hsz := ha.small
 have hple := ha.le
 clear h
 by_cases hs : l.length < 6
 ·have e1 : (t.size : Int) < (p : Int) + 6 := by omega
  have HE := hide (fourI_no (l := l) (fun h => by omega))
  clear ha hlen hs
  go_enter Tryz.func210, Tryz.ntmps210
  go_wp2_with (fail)
  go_ret
  exact ⟨by rw [unhide HE]; rfl, rfl⟩
 ·match l, ha, hlen, hs with
  | a :: b :: l2, ha, hlen, hs =>
   have e1 : ¬ (t.size : Int) < (p : Int) + 6 := by omega
   have hlt := ha.lt
   have hlt1 := ha.next.lt
   have ka := tk_byte ha 92
   have kb := tk_byte ha.next 117
   have HA := hide ha
   have HS := hide hs
   by_cases ta : Sp.tk (a :: b :: l2) 92 = true
   ·have ea : (((t[p]'hlt).toNat : Int) != 92) = false := by rw [bne, show (((t[p]'hlt).toNat : Int) == 92) = true from ka.2 ta]; rfl
    by_cases tb : Sp.tk (b :: l2) 117 = true
    ·have eb : (((t[p + 1]'hlt1).toNat : Int) != 117) = false := by rw [bne, show (((t[p + 1]'hlt1).toNat : Int) == 117) = true from kb.2 tb]; rfl
     have HE := hide (fourI_yes (l := a :: b :: l2) ⟨by omega, ta, tb⟩)
     clear ha hlen hs ka kb ta tb
     go_enter Tryz.func210, Tryz.ntmps210
     go_wp2_with (fail)
     go_loopw [5, 6] (fun v i wr => ∃ (k n : Nat) (r' : Sp.By), 2 ≤ k ∧ k ≤ 6 ∧ i = .int .i64 k ∧ v = .int .i64 n ∧ At t (p + k) r' ∧ Sp.hexs 4 0 l2 = Sp.hexs (6 - k) n r' ∧ n < 16 ^ (k - 2) ∧ 6 - k ≤ r'.length ∧ wr = w) (fun _ i _ => 6 - (intOf i).toNat)
     case atStart => exact ⟨2, 0, l2, by omega, by omega, rfl, rfl, (unhide HA).next.next, rfl, by decide, by have := unhide HS; simp at this; omega, rfl⟩
     case round =>
      obtain ⟨k, n, r', hk1, hk2, rfl, rfl, hat, hcnt, hxb, hrl, rfl⟩ := hrel
      have hx : n < 65536 := Nat.lt_of_lt_of_le hxb (show 16 ^ (k - 2) ≤ 16 ^ 4 from Nat.pow_le_pow_right (by decide) (by omega))
      have HAT := hide hat
      have HCN := hide hcnt
      have HXB := hide hxb
      by_cases hkn : k < 6
      ·match r', hat, hcnt, hrl, HAT, HCN with
       | [], _, _, hrl, _, _ => exact absurd hrl (by simp only [List.length_nil]; omega)
       | d :: r'', hat, hcnt, hrl, HAT, HCN =>
        have hq := hat.lt
        obtain ⟨q, hqd⟩ : ∃ q, q = p + k := ⟨_, rfl⟩
        rw [← hqd] at hq
        have hqi : (p : Int) + (k : Int) = (q : Int) := by omega
        have hbq : t[q]'hq = d := by
         have := hat.byte
         simp only [← hqd] at this
         exact this
        have HBQ := hide hbq
        have HRL := hide hrl
        have HQ8 := hide (t[q]'hq).toNat_lt
        clear hat hcnt hrl hbq hqd hxb e1
        go_wp2_with (fail)
        refine (rHex_any (t[q]'hq).toNat (unhide HQ8) _).mono ?_
        rintro e w' ⟨rfl, rfl⟩
        cases hd : Sp.hexd (t[q]'hq).toNat with
        | none =>
         have hI : Sp.hxI (t[q]'hq).toNat = -1 := by unfold Sp.hxI; rw [hd]
         have HD := hide hd
         clear hd
         go_wp2_with (fail)
         go_ret
         refine ⟨?_, rfl⟩
         rw [unhide HE, List.drop_succ_cons, List.drop_succ_cons, List.drop_zero, unhide HCN, show 6 - k = 6 - k - 1 + 1 by omega, hexs_no (by rw [← unhide HBQ]; exact unhide HD)]
         rfl
        | some m =>
         have hI : Sp.hxI (t[q]'hq).toNat = (m : Int) := by unfold Sp.hxI; rw [hd]
         have hm := hexd_lt hd
         have HD := hide hd
         clear hd
         go_wp2_with (fail)
         have hrl := unhide HRL
         have hxb := unhide HXB
         refine ⟨⟨k + 1, n * 16 + m, r'', by omega, by omega, by go_num, ?_, (unhide HAT).next, ?_, ?_, by rw [List.length_cons] at hrl; omega, trivial⟩, by simp only [intOf]; omega⟩
         ·rw [show (16 * (n : Int) + (m : Int)) = ((n * 16 + m : Nat) : Int) by omega]
         ·rw [unhide HCN, show 6 - k = 6 - (k + 1) + 1 by omega, hexs_yes (by rw [← unhide HBQ]; exact unhide HD)]
         ·rw [show k + 1 - 2 = (k - 2) + 1 by omega, Nat.pow_succ]; omega
      ·obtain rfl : k = 6 := by omega
       have HCN2 := hide (show Sp.hexs 4 0 l2 = some (n, r') from hcnt)
       clear hat hcnt hrl hxb hkn
       go_wp2_with (fail)
       go_ret
       refine ⟨?_, rfl⟩
       rw [unhide HE, List.drop_succ_cons, List.drop_succ_cons, List.drop_zero, unhide HCN2]
       rfl
    ·have eb : (((t[p + 1]'hlt1).toNat : Int) == 117) = false := by
      cases hh : (((t[p + 1]'hlt1).toNat : Int) == 117) with
      | false => rfl
      | true => exact absurd (kb.1 hh) tb
     have nb : (((t[p + 1]'hlt1).toNat : Int) != 117) = true := by rw [bne, eb]; rfl
     have HE := hide (fourI_no (l := a :: b :: l2) (fun h => tb h.2.2))
     clear ha hlen hs ka kb ta tb
     go_enter Tryz.func210, Tryz.ntmps210
     go_wp2_with (fail)
     go_ret
     exact ⟨by rw [unhide HE]; rfl, rfl⟩
   ·have ea : (((t[p]'hlt).toNat : Int) == 92) = false := by
     cases hh : (((t[p]'hlt).toNat : Int) == 92) with
     | false => rfl
     | true => exact absurd (ka.1 hh) ta
    have na : (((t[p]'hlt).toNat : Int) != 92) = true := by rw [bne, ea]; rfl
    have HE := hide (fourI_no (l := a :: b :: l2) (fun h => ta h.2.1))
    clear ha hlen hs ka kb ta
    go_enter Tryz.func210, Tryz.ntmps210
    go_wp2_with (fail)
    go_ret
    exact ⟨by rw [unhide HE]; rfl, rfl⟩
  | [a], _, _, hs => exact absurd (show ([a] : Sp.By).length < 6 by simp) hs
  | [], _, _, hs => exact absurd (show ([] : Sp.By).length < 6 by simp) hs
end Go.Proofs.YtdpomdelmdofmaaGreatDoor
