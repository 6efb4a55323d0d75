/-
  strings.Builder's writing methods at this program.
  Walks of the reader's smallest functions: peek and take.
  Walks of isDigit and hexadecimal, and of the reader's blanks.
-/
import Derived.Test.YtmdaoepcjfbglaaGreatDoorPart01
import Derived.Test.YtmdaoepcjfbglaaGreatDoorPart00
namespace Go.Proofs.YtmdaoepcjfbglaaGreatDoor
open Go.RowKit

set_option maxHeartbeats 2000000 in
set_option maxRecDepth 100000 in
theorem WriteByte_any (B b : Nat) (bs : List Value) (c : Int) (w : World) (h : IsB B b bs w) (hlen : bs.length + 1 ≤ 140737488355328) (hBw : B ≤ w.heap.size) :
    Calls Tryz.prog 124 #[.pointer (some ⟨b, 0, none⟩), .int .u8 c] w fun e w' => e = .returned .nilIface ∧ BAt B b (bs ++ [.int .u8 c]) w' ∧ Below B w w' ∧ OKz b w w' := by
  obtain ⟨i0, hi, hz0, hz1, hz2⟩ := info_parts b_info5
  go_enter Tryz.func124, Tryz.ntmps124
  go_wp2_with (fail)
  refine (copyCheck_any B b bs _ h).mono ?_
  rintro e w1 ⟨rfl, h1, hb1, hz1'⟩
  obtain ⟨hB, v, hbk, hown, hne⟩ := h1
  have c0 : w1.cell? ⟨b, 0, none⟩ = some (.pointer (some ⟨b, 0, none⟩)) := by rw [Lib.cell_of_heap hbk]; rfl
  have c1 : w1.cell? ⟨b, 1, none⟩ = some v := by rw [Lib.cell_of_heap hbk]; rfl
  go_wp2_with (at_builtin; refine wpList_append_own _ rfl _ _ 113 rfl B 5 i0 (.int .u8 0) 1 1 Tryz.underlying113 hi hz0 hz1 hz2 rfl (by decide) _ _ _ rfl (hown.alloc _) ⟨w1.heap.size, 0, none⟩ 1 1 [.int .u8 c] rfl rfl ?c1 ?c2 ?c3 ?c4 ?c5 ?_)
  case c1 =>
    intro j u hj
    match j, hj with
    | 0, hj => simp at hj; subst hj; simp [Addr.add]
  case c2 => intro u hu; simp at hu; subst hu; rfl
  case c3 => unfold maxLen; omega
  case c4 => omega
  case c5 => have := hb1.size; simp; omega
  intro v' w2 hown' hgrow _
  have hlt : b < w1.heap.size := (Array.getElem?_eq_some_iff.1 hbk).1
  have hb2 : w2.heap[b]? = some (.cells #[.pointer (some ⟨b, 0, none⟩), v] 115 (0, 0)) := by
    rw [hgrow.block b (by simp; omega) (fun e => hne e.symm), Lib.alloc_old w1 _ b hlt]
    exact hbk
  have d0 : w2.cell? ⟨b, 0, none⟩ = some (.pointer (some ⟨b, 0, none⟩)) := by rw [Lib.cell_of_heap hb2]; rfl
  have d1 : w2.cell? ⟨b, 1, none⟩ = some v := by rw [Lib.cell_of_heap hb2]; rfl
  have f1 : w2.frozen? ⟨b, 1, none⟩ = false := Lib.frozen_of_heap hb2 1
  obtain ⟨g, cap, rfl⟩ : ∃ g cap, v' = .slice (some ⟨g, 0, none⟩) (bs.length + 1) cap := by
    rcases hown'.2 with ⟨_, h0⟩ | ⟨g, cap, cur, hv, _⟩
    · omega
    · exact ⟨g, cap, hv⟩
  go_wp2_with (fail)
  go_ret
  refine ⟨rfl, ?_, ?_, (hz1'.trans (OKz.grown hown (fun k hk => Lib.alloc_old w1 _ k hk) (by simp) hgrow)).trans (OKz.setCell _ _ _ _)⟩
  · exact Lib.BuilderAt.put hB hb2 (bs' := bs ++ [.int .u8 c]) (by simpa using hown') (by decide)
  · exact ((hb1.alloc (by have := hb1.size; omega) _).grown hgrow (by have := hb1.size; simp; omega) (fun k hk => (hown.lt k hk).1)).setCell (p := ⟨b, 1, none⟩) hB _

set_option maxHeartbeats 2000000 in
set_option maxRecDepth 100000 in
theorem WriteString_any (B b : Nat) (bs : List Value) (s : ByteArray) (w : World) (h : IsB B b bs w) (hlen : bs.length + s.size ≤ 140737488355328) (hBw : B ≤ w.heap.size) :
    Calls Tryz.prog 95 #[.pointer (some ⟨b, 0, none⟩), .string s] w fun e w' => e = .returned (.tuple #[.int .i64 s.size, .nilIface]) ∧ BAt B b (bs ++ Lib.strCells s) w' ∧ Below B w w' ∧ OKz b w w' := by
  obtain ⟨i0, hi, hz0, hz1, hz2⟩ := info_parts b_info5
  go_enter Tryz.func95, Tryz.ntmps95
  go_wp2_with (fail)
  refine (copyCheck_any B b bs _ h).mono ?_
  rintro e w1 ⟨rfl, h1, hb1, hz1'⟩
  obtain ⟨hB, v, hbk, hown, hne⟩ := h1
  have c0 : w1.cell? ⟨b, 0, none⟩ = some (.pointer (some ⟨b, 0, none⟩)) := by rw [Lib.cell_of_heap hbk]; rfl
  have c1 : w1.cell? ⟨b, 1, none⟩ = some v := by rw [Lib.cell_of_heap hbk]; rfl
  go_wp2_with (at_builtin; refine Lib.wpList_append_own_string _ rfl _ _ 113 9 rfl B 5 i0 Tryz.underlying113 Tryz.underlying9 hi hz0 hz1 hz2 _ _ _ rfl hown s rfl ?c3 ?c4 ?c5 ?_)
  case c3 => unfold maxLen; omega
  case c4 => omega
  case c5 => have := hb1.size; omega
  intro v' w2 hown' hgrow _
  have hlt : b < w1.heap.size := (Array.getElem?_eq_some_iff.1 hbk).1
  have hb2 : w2.heap[b]? = some (.cells #[.pointer (some ⟨b, 0, none⟩), v] 115 (0, 0)) := by
    rw [hgrow.block b hlt (fun e => hne e.symm)]
    exact hbk
  have d0 : w2.cell? ⟨b, 0, none⟩ = some (.pointer (some ⟨b, 0, none⟩)) := by rw [Lib.cell_of_heap hb2]; rfl
  have d1 : w2.cell? ⟨b, 1, none⟩ = some v := by rw [Lib.cell_of_heap hb2]; rfl
  have f1 : w2.frozen? ⟨b, 1, none⟩ = false := Lib.frozen_of_heap hb2 1
  obtain ⟨ao, n', cap, rfl⟩ : ∃ ao n' cap, v' = .slice ao n' cap := by
    rcases hown'.2 with ⟨hv, _⟩ | ⟨g, cap, cur, hv, _⟩
    · exact ⟨_, _, _, hv⟩
    · exact ⟨_, _, _, hv⟩
  go_wp2_with (fail)
  go_ret2
  refine ⟨rfl, ?_, ?_, (hz1'.trans (OKz.grown hown (fun k _ => rfl) (Nat.le_refl _) hgrow)).trans (OKz.setCell _ _ _ _)⟩
  · exact Lib.BuilderAt.put hB hb2 (bs' := bs ++ Lib.strCells s) (by simpa [Lib.strCells_length] using hown') (by decide)
  · exact (hb1.grown hgrow (by have := hb1.size; omega) (fun k hk => (hown.lt k hk).1)).setCell (p := ⟨b, 1, none⟩) hB _

set_option maxHeartbeats 2000000 in
set_option maxRecDepth 100000 in
theorem WriteRune_any (B b : Nat) (bs : List Value) (r : Int) (hr0 : -2147483648 ≤ r) (hr1 : r ≤ 2147483647) (w : World) (h : IsB B b bs w) (hlen : bs.length + 4 ≤ 140737488355328) (hBw : B ≤ w.heap.size) :
    Calls Tryz.prog 194 #[.pointer (some ⟨b, 0, none⟩), .int .i32 r] w fun e w' => (∃ n, e = .returned (.tuple #[.int .i64 n, .nilIface])) ∧ BAt B b (bs ++ Lib.runeCells r) w' ∧ Below B w w' := by
  go_enter Tryz.func194, Tryz.ntmps194
  go_wp2_with (fail)
  refine (copyCheck_any B b bs _ h).mono ?_
  rintro e w1 ⟨rfl, h1, hb1, hz1'⟩
  obtain ⟨hB, v, hbk, hown, hne⟩ := h1
  obtain ⟨ao, cap, rfl⟩ : ∃ ao cap, v = .slice ao bs.length cap := by
    rcases hown.2 with ⟨hv, h0⟩ | ⟨g, cap, cur, hv, _⟩
    · exact ⟨none, 0, by rw [hv, h0]⟩
    · exact ⟨_, _, hv⟩
  have c0 : w1.cell? ⟨b, 0, none⟩ = some (.pointer (some ⟨b, 0, none⟩)) := by rw [Lib.cell_of_heap hbk]; rfl
  have c1 : w1.cell? ⟨b, 1, none⟩ = some (.slice ao bs.length cap) := by rw [Lib.cell_of_heap hbk]; rfl
  go_wp2_with (fail)
  refine (Tryz.utf8_AppendRune_plain B _ bs.length bs r hr0 hr1 _ hown hlen (by have := hb1.size; omega)).mono ?_
  rintro e w2 ⟨v', rfl, hown', o, hgrow⟩
  have hlt : b < w1.heap.size := (Array.getElem?_eq_some_iff.1 hbk).1
  have hb2 : w2.heap[b]? = some (.cells #[.pointer (some ⟨b, 0, none⟩), .slice ao bs.length cap] 115 (0, 0)) := by
    rw [hgrow.block b (by simp; omega) (fun e => hne e.symm), Lib.alloc_old w1 _ b hlt]
    exact hbk
  have d0 : w2.cell? ⟨b, 0, none⟩ = some (.pointer (some ⟨b, 0, none⟩)) := by rw [Lib.cell_of_heap hb2]; rfl
  have d1 : w2.cell? ⟨b, 1, none⟩ = some (.slice ao bs.length cap) := by rw [Lib.cell_of_heap hb2]; rfl
  have f1 : w2.frozen? ⟨b, 1, none⟩ = false := Lib.frozen_of_heap hb2 1
  have hex : ∃ g cap', v' = .slice g (bs.length + (Lib.runeCells r).length) cap' := by
    rcases hown'.2 with ⟨hv, h0⟩ | ⟨g, cap', cur, hv, _⟩
    · exact ⟨none, 0, by rw [hv, h0]⟩
    · exact ⟨_, cap', hv⟩
  obtain ⟨g, cap', rfl⟩ := hex
  go_wp2_with (fail)
  go_ret2
  refine ⟨⟨_, rfl⟩, ?_, ?_⟩
  · exact Lib.BuilderAt.put hB hb2 (bs' := bs ++ Lib.runeCells r) (by simpa using hown') (by decide)
  · exact ((hb1.alloc (by have := hb1.size; omega) _).grown hgrow (by have := hb1.size; simp; omega) (fun k hk => (hown.lt k hk).1)).setCell (p := ⟨b, 1, none⟩) hB _

end Go.Proofs.YtmdaoepcjfbglaaGreatDoor

namespace Go.Proofs.YtmdaoepcjfbglaaGreatDoor
open Go.RowKit

set_option maxHeartbeats 400000 in
theorem peek_any {w : World} {R : Nat} {t : ByteArray} {l : Sp.By} {tw : Bool} {dp fr : Int} (h : RD w R t l tw dp fr) :
    Calls Tryz.prog 155 #[.pointer (some ⟨R, 0, none⟩)] w fun e w' => e = .returned (.int .u8 (Sp.pk l)) ∧ ∃ n, w' = w.drewN n := by
  obtain ⟨p, ha, h⟩ := h
  have c0 := h.c0
  have c1 := h.c1
  clear h
  cases l with
  | cons c l =>
    have hlt := ha.lt
    have hne : ((p : Int) == (t.size : Int)) = false := by simp; omega
    have hpk : Hid (Sp.pk (c :: l) = t[p].toNat) := by rw [ha.byte]; rfl
    clear ha
    go_enter Tryz.func155, Tryz.ntmps155
    go_wp2_with (fail)
    go_quiet (fail)
    go_wp2_with (fail)
    go_quiet (fail)
    go_wp2_with (fail)
    rw [hpk.out]
    go_ret
    exact ⟨rfl, _, drewN_two _ _ _⟩
  | nil =>
    have hp := ha.nil
    have hne : ((p : Int) == (t.size : Int)) = true := by simp; omega
    clear ha hp
    go_enter Tryz.func155, Tryz.ntmps155
    go_wp2_with (fail)
    go_quiet (fail)
    go_wp2_with (fail)
    go_ret
    exact ⟨rfl, _, rfl⟩

set_option maxHeartbeats 400000 in
theorem take_no {w : World} {R : Nat} {t : ByteArray} {l : Sp.By} {tw : Bool} {dp fr : Int} (u : UInt8) (c : Int) (hc : c = u.toNat) (h : RD w R t l tw dp fr) (hk : Sp.tk l u = false) :
    Calls Tryz.prog 154 #[.pointer (some ⟨R, 0, none⟩), .int .u8 c] w fun e w' => e = .returned (.bool false) ∧ ∃ n, w' = w.drewN n := by
  obtain ⟨p, ha, h⟩ := h
  have c0 := h.c0
  have c1 := h.c1
  clear h
  cases l with
  | cons d l =>
    have hlt := ha.lt
    have hne : ((p : Int) == (t.size : Int)) = false := by simp; omega
    have hne2 : ((t[p].toNat : Int) == c) = false := by
      rw [ha.byte, hc]
      simp [Sp.tk] at hk ⊢
      intro h; exact hk (UInt8.toNat_inj.1 (by exact_mod_cast h))
    have hne3 : ((t[p].toNat : Int) != c) = true := by rw [bne, hne2]; rfl
    clear hk ha hc
    go_enter Tryz.func154, Tryz.ntmps154
    go_wp2_with (fail)
    go_quiet (fail)
    go_wp2_with (fail)
    go_ret
    exact ⟨rfl, _, rfl⟩
  | nil =>
    have hp := ha.nil
    have hne : ((p : Int) == (t.size : Int)) = true := by simp; omega
    clear hk ha hp hc
    go_enter Tryz.func154, Tryz.ntmps154
    go_wp2_with (fail)
    go_quiet (fail)
    go_wp2_with (fail)
    go_ret
    exact ⟨rfl, _, rfl⟩

set_option maxHeartbeats 400000 in
theorem take_yes {w : World} {R : Nat} {t : ByteArray} {l : Sp.By} {tw : Bool} {dp fr : Int} (u : UInt8) (c : Int) (hc : c = u.toNat) (h : RD w R t l tw dp fr) (hk : Sp.tk l u = true) :
    Calls Tryz.prog 154 #[.pointer (some ⟨R, 0, none⟩), .int .u8 c] w fun e w' => e = .returned (.bool true) ∧ RD w' R t l.tail tw dp fr ∧ KeptX R w w' := by
  obtain ⟨p, ha, h⟩ := h
  cases l with
  | nil => simp [Sp.tk] at hk
  | cons d l =>
    have hlt := ha.lt
    have hne : ((p : Int) == (t.size : Int)) = false := by simp; omega
    have hp9 : (p : Int) < 2000 := by have := ha.small; omega
    have hne2 : ((t[p].toNat : Int) == c) = true := by rw [ha.byte, hc]; simp [Sp.tk] at hk ⊢; rw [hk]
    have hne3 : ((t[p].toNat : Int) != c) = false := by rw [bne, hne2]; rfl
    have HF : Hid (∀ n, RD ((w.drewN n).setCell ⟨R, 1, none⟩ (.int .i64 ((p + 1 : Nat) : Int))) R t l tw dp fr) := hide fun n => ⟨p + 1, ha.next, (h.drewN n).set1 (p + 1)⟩
    have HK : Hid (∀ n v, KeptX R w ((w.drewN n).setCell ⟨R, 1, none⟩ v)) := hide fun n v => ((KeptX.refl R w).drewN n).setCell rfl v
    have c0 := h.c0
    have c1 := h.c1
    have f1 := h.fz 1
    clear hk h ha hc
    go_enter Tryz.func154, Tryz.ntmps154
    go_wp2_with (fail)
    go_quiet (fail)
    go_wp2_with (fail)
    go_ret
    exact ⟨rfl, unhide HF _, unhide HK _ _⟩

end Go.Proofs.YtmdaoepcjfbglaaGreatDoor

namespace Go.Proofs.YtmdaoepcjfbglaaGreatDoor
open Go.RowKit

def isDn (n : Nat) : Bool := decide (48 ≤ n) && decide (n ≤ 57)

set_option maxHeartbeats 400000 in
theorem isDigit_any (n : Nat) (w : World) (hn : n < 256) :
    Calls Tryz.prog 159 #[.int .u8 n] w fun e w' => e = .returned (.bool (isDn n)) ∧ w' = w := by
  have hd : Hid (isDn n = (decide (48 ≤ (n : Int)) && decide ((n : Int) ≤ 57))) := by
    simp only [isDn, Hid]
    rw [Bool.eq_iff_iff]; simp; omega
  by_cases h1 : 48 ≤ n
  · have e1 : decide ((48 : Int) ≤ (n : Int)) = true := by simp; omega
    go_enter Tryz.func159, Tryz.ntmps159
    go_wp2_with (fail)
    rw [hd.out]
    go_ret
    exact ⟨by simp [e1], rfl⟩
  · have e1 : decide ((48 : Int) ≤ (n : Int)) = false := by simp; omega
    go_enter Tryz.func159, Tryz.ntmps159
    go_wp2_with (fail)
    rw [hd.out]
    go_ret
    exact ⟨by simp [e1], rfl⟩

theorem peekK {w : World} {R : Nat} {t : ByteArray} {l : Sp.By} {tw : Bool} {dp fr : Int} (h : RD w R t l tw dp fr) :
    Calls Tryz.prog 155 #[.pointer (some ⟨R, 0, none⟩)] w fun e w' => e = .returned (.int .u8 (Sp.pk l)) ∧ RD w' R t l tw dp fr ∧ KeptX R w w' :=
  (peek_any h).mono fun _ _ ⟨he, n, hw⟩ => ⟨he, hw ▸ h.drewN n, hw ▸ (KeptX.refl R w).drewN n⟩
theorem takeN {w : World} {R : Nat} {t : ByteArray} {l : Sp.By} {tw : Bool} {dp fr : Int} (u : UInt8) (c : Int) (hc : c = u.toNat) (h : RD w R t l tw dp fr) (hk : Sp.tk l u = false) :
    Calls Tryz.prog 154 #[.pointer (some ⟨R, 0, none⟩), .int .u8 c] w fun e w' => e = .returned (.bool false) ∧ RD w' R t l tw dp fr ∧ KeptX R w w' :=
  (take_no u c hc h hk).mono fun _ _ ⟨he, n, hw⟩ => ⟨he, hw ▸ h.drewN n, hw ▸ (KeptX.refl R w).drewN n⟩

theorem pk_lt (l : Sp.By) : Sp.pk l < 256 := by
  cases l with
  | nil => simp [Sp.pk]
  | cons c r => simpa [Sp.pk] using c.toNat_lt

end Go.Proofs.YtmdaoepcjfbglaaGreatDoor
