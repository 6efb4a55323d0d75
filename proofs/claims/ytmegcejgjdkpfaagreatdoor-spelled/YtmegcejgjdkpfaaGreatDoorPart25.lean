/-
  Walk of the statement's own values in two spellings, by their depth.
  Walk of the statement on reading again what a document says.
  Walk of the statement on spellings.
-/
import Derived.Test.YtmegcejgjdkpfaaGreatDoorPart24
import Derived.Test.YtmegcejgjdkpfaaGreatDoorPart22
namespace Go.Proofs.YtmegcejgjdkpfaaGreatDoor
open Go.RowKit

theorem two_end (k : Nat) {a b : ByteArray} (h : Sp.Two 0 a.data.toList b.data.toList) (sa : a.size ≤ 50) (sb : b.size ≤ 50) : TwoEnd k (.returned (.tuple #[.string a, .string b])) :=
  ⟨a, b, h.mono (Nat.zero_le _), Nat.le_trans sa (bnd_ge k), Nat.le_trans sb (bnd_ge k), rfl⟩
def wdCells : Array Value := #[.string ⟨#[110, 117, 108, 108]⟩, .string ⟨#[116, 114, 117, 101]⟩, .string ⟨#[102, 97, 108, 115, 101]⟩]
theorem two_word (k : Nat) {i : Nat} (hi : i < 3) {s : ByteArray} (e : s.data.toList = Sp.words.getD i []) : TwoEnd k (.returned (.tuple #[.string s, .string s])) := by
  have hl := words_len i
  have hs : s.size ≤ 5 := by rw [Lib.size_eq, e]; exact hl
  exact two_end k ⟨_, by rw [e]; exact rdV_word i hi, by rw [e]; exact rdV_word i hi⟩ (by omega) (by omega)
theorem bel_fk {R : Nat} {pa : Option Addr} {m cap : Nat} {a w w' : World} (h : FK R pa m cap a w) (e : w'.heap = w.heap := by rfl) (e1 : w'.os = w.os := by rfl) (e2 : w'.tape = w.tape := by rfl) (e3 : w'.output = w.output := by rfl) : FK R pa m cap a w' :=
  h.low ⟨e1, e2, e3, by rw [e]; exact Nat.le_refl _, fun k _ => by rw [e]⟩

set_option maxHeartbeats 8000000 in
theorem val_zero : ValT 0 := by
  intro w R pa m cap h
  have H := hide h
  clear h
  go_enter Tryz.func16, Tryz.ntmps16
  go_wp2_with (fail)
  refine (next_any (unhide H) 6 (by omega) (by omega)).mono ?_
  rintro x w2 ⟨⟨c, hc, rfl⟩, hfk⟩
  have HF := hide hfk
  clear hfk H
  rcases (show c = 0 ∨ c = 1 ∨ c = 2 ∨ c = 3 ∨ c = 4 ∨ c = 5 by omega) with rfl | rfl | rfl | rfl | rfl | rfl
  · go_wp2_with (fail)
    refine (knumber_any (unhide HF).1).mono ?_
    rintro r w3 ⟨⟨a, b, h2, sa, sb, rfl⟩, hf3⟩
    have HT := hide (two_end 0 h2 sa sb)
    have HF3 := hide ((unhide HF).trans hf3)
    clear h2 hf3 HF sa sb
    go_wp2_with (fail)
    go_ret2
    exact ⟨unhide HT, unhide HF3⟩
  · go_wp2_with (fail)
    refine (knumber_any (unhide HF).1).mono ?_
    rintro r w3 ⟨⟨a, b, h2, sa, sb, rfl⟩, hf3⟩
    have HT := hide (two_end 0 h2 sa sb)
    have HF3 := hide ((unhide HF).trans hf3)
    clear h2 hf3 HF sa sb
    go_wp2_with (fail)
    go_ret2
    exact ⟨unhide HT, unhide HF3⟩
  · go_wp2_with (fail)
    refine (ktext_any (unhide HF).1).mono ?_
    rintro r w3 ⟨⟨a, b, h2, sa, sb, rfl⟩, hf3⟩
    have HT := hide (two_end 0 h2 sa sb)
    have HF3 := hide ((unhide HF).trans hf3)
    clear h2 hf3 HF sa sb
    go_wp2_with (fail)
    go_ret2
    exact ⟨unhide HT, unhide HF3⟩
  · have hb : Below w2.heap.size w2 (w2.alloc (.cells wdCells 9)) := (Below.refl _ _).alloc (Nat.le_refl _) _
    have HFB := hide ((unhide HF).low hb)
    have HG := hide (Tx.new w2 Sp.words (cs := wdCells) (by rfl))
    have hlt := (unhide HF).1.lt
    clear hb
    go_wp2_with (fail)
    refine (next_any (unhide HFB).1 3 (by omega) (by omega)).mono ?_
    rintro r w3 ⟨⟨i, hi, rfl⟩, hf3⟩
    obtain ⟨s, cs, es⟩ := ((unhide HG).kept hf3.2 (by omega)).at i (by exact hi)
    have HT := hide (two_word 0 hi es)
    have HF3 := hide ((unhide HFB).trans hf3)
    clear es hf3 HFB HF HG
    go_wp2_with (fail)
    go_quiet (fail)
    go_wp2_with (fail)
    go_ret2
    exact ⟨unhide HT, bel_fk (unhide HF3)⟩
  · go_wp2_with (fail)
    refine (knumber_any (unhide HF).1).mono ?_
    rintro r w3 ⟨⟨a, b, h2, sa, sb, rfl⟩, hf3⟩
    have HT := hide (two_end 0 h2 sa sb)
    have HF3 := hide ((unhide HF).trans hf3)
    clear h2 hf3 HF sa sb
    go_wp2_with (fail)
    go_ret2
    exact ⟨unhide HT, unhide HF3⟩
  · go_wp2_with (fail)
    refine (knumber_any (unhide HF).1).mono ?_
    rintro r w3 ⟨⟨a, b, h2, sa, sb, rfl⟩, hf3⟩
    have HT := hide (two_end 0 h2 sa sb)
    have HF3 := hide ((unhide HF).trans hf3)
    clear h2 hf3 HF sa sb
    go_wp2_with (fail)
    go_ret2
    exact ⟨unhide HT, unhide HF3⟩

set_option maxHeartbeats 8000000 in
theorem val_succ {k : Nat} (hk : k < 3) (hV : ValT k) : ValT (k + 1) := by
  intro w R pa m cap h
  have H := hide h
  have HV := hide hV
  have e0 : (((k : Int) + 1) == 0) = false := by simp; omega
  clear h hV
  go_enter Tryz.func16, Tryz.ntmps16
  go_wp2_with (fail)
  refine (next_any (unhide H) 6 (by omega) (by omega)).mono ?_
  rintro x w2 ⟨⟨c, hc, rfl⟩, hfk⟩
  have HF := hide hfk
  clear hfk H
  rcases (show c = 0 ∨ c = 1 ∨ c = 2 ∨ c = 3 ∨ c = 4 ∨ c = 5 by omega) with rfl | rfl | rfl | rfl | rfl | rfl
  · go_wp2_with (fail)
    refine (knumber_any (unhide HF).1).mono ?_
    rintro r w3 ⟨⟨a, b, h2, sa, sb, rfl⟩, hf3⟩
    have HT := hide (two_end (k + 1) h2 sa sb)
    have HF3 := hide ((unhide HF).trans hf3)
    clear h2 hf3 HF sa sb
    go_wp2_with (fail)
    go_ret2
    exact ⟨unhide HT, unhide HF3⟩
  · go_wp2_with (fail)
    refine (knumber_any (unhide HF).1).mono ?_
    rintro r w3 ⟨⟨a, b, h2, sa, sb, rfl⟩, hf3⟩
    have HT := hide (two_end (k + 1) h2 sa sb)
    have HF3 := hide ((unhide HF).trans hf3)
    clear h2 hf3 HF sa sb
    go_wp2_with (fail)
    go_ret2
    exact ⟨unhide HT, unhide HF3⟩
  · go_wp2_with (fail)
    refine (ktext_any (unhide HF).1).mono ?_
    rintro r w3 ⟨⟨a, b, h2, sa, sb, rfl⟩, hf3⟩
    have HT := hide (two_end (k + 1) h2 sa sb)
    have HF3 := hide ((unhide HF).trans hf3)
    clear h2 hf3 HF sa sb
    go_wp2_with (fail)
    go_ret2
    exact ⟨unhide HT, unhide HF3⟩
  · have hb : Below w2.heap.size w2 (w2.alloc (.cells wdCells 9)) := (Below.refl _ _).alloc (Nat.le_refl _) _
    have HFB := hide ((unhide HF).low hb)
    have HG := hide (Tx.new w2 Sp.words (cs := wdCells) (by rfl))
    have hlt := (unhide HF).1.lt
    clear hb
    go_wp2_with (fail)
    refine (next_any (unhide HFB).1 3 (by omega) (by omega)).mono ?_
    rintro r w3 ⟨⟨i, hi, rfl⟩, hf3⟩
    obtain ⟨s, cs, es⟩ := ((unhide HG).kept hf3.2 (by omega)).at i (by exact hi)
    have HT := hide (two_word (k + 1) hi es)
    have HF3 := hide ((unhide HFB).trans hf3)
    clear es hf3 HFB HF HG
    go_wp2_with (fail)
    go_quiet (fail)
    go_wp2_with (fail)
    go_ret2
    exact ⟨unhide HT, bel_fk (unhide HF3)⟩
  · go_wp2_with (fail)
    refine (karray_any (by omega) (unhide HV) (unhide HF).1).mono ?_
    rintro r w3 ⟨⟨a, b, h2, sa, sb, rfl⟩, hf3⟩
    have HT := hide (show TwoEnd (k + 1) (.returned (.tuple #[.string a, .string b])) from ⟨a, b, h2, sa, sb, rfl⟩)
    have HF3 := hide ((unhide HF).trans hf3)
    clear h2 hf3 HF sa sb
    go_wp2_with (fail)
    go_ret2
    exact ⟨unhide HT, unhide HF3⟩
  · go_wp2_with (fail)
    refine (kobject_any (by omega) (unhide HV) (unhide HF).1).mono ?_
    rintro r w3 ⟨⟨a, b, h2, sa, sb, rfl⟩, hf3⟩
    have HT := hide (show TwoEnd (k + 1) (.returned (.tuple #[.string a, .string b])) from ⟨a, b, h2, sa, sb, rfl⟩)
    have HF3 := hide ((unhide HF).trans hf3)
    clear h2 hf3 HF sa sb
    go_wp2_with (fail)
    go_ret2
    exact ⟨unhide HT, unhide HF3⟩

theorem val_three : ValT 3 := val_succ (by omega) (val_succ (by omega) (val_succ (by omega) val_zero))

end Go.Proofs.YtmegcejgjdkpfaaGreatDoor

namespace Go.Proofs.YtmegcejgjdkpfaaGreatDoor
open Go.RowKit

theorem dumped_is {d e n : Int} (hc : Sp.cfg d e n = true) {t s : ByteArray} {c : Nat} (h : Sp.dmp d e t.data.toList = (c, s.data.toList)) (w : World) (hT : Laid w) :
    Calls Tryz.prog 14 #[.agg #[.int .i64 d, .int .i64 e, .int .i64 n], .string t] w fun x w' => x = .returned (.tuple #[.string s, .int .i64 c]) ∧ Below w.heap.size w w' := by
  have h1 := dumped_any hc t w hT
  rw [h] at h1
  have : (⟨s.data.toList.toArray⟩ : ByteArray) = s := by simp
  simpa only [this] using h1
theorem read_two {t : Sp.By} {d x : Int} : (∃ c, Sp.readTo t d x = (c, none) ∧ 0 < c) ∨ ∃ v, Sp.readTo t d x = (0, some v) := by
  unfold Sp.readTo
  split
  · exact Or.inl ⟨4, rfl, by omega⟩
  · split
    · exact Or.inl ⟨5, rfl, by omega⟩
    · rename_i v r fl hv
      split
      · split
        · exact Or.inl ⟨6, rfl, by omega⟩
        · split
          · exact Or.inl ⟨7, rfl, by omega⟩
          · split
            · exact Or.inl ⟨8, rfl, by omega⟩
            · exact Or.inr ⟨v, rfl⟩
      · exact Or.inl ⟨5, rfl, by omega⟩

/-- what the three loadings tell -/
theorem dmp_three (d e : Int) (he0 : 0 ≤ e) (he : e ≤ 400) (t : ByteArray) : ∃ (c : Nat) (s : ByteArray), Sp.dmp d e t.data.toList = (c, s.data.toList) ∧ s.size ≤ 80000 ∧
    ((0 < c ∧ s = ⟨#[]⟩) ∨ (c = 0 ∧ Sp.scn (false, false) s.data.toList = some (false, false) ∧
      (s.size ≤ 1998 → Sp.dmp d e s.data.toList = (0, s.data.toList) ∧ Sp.dmp d e ((⟨#[32]⟩ ++ s) ++ ⟨#[10]⟩ : ByteArray).data.toList = (0, s.data.toList)))) := by
  rcases read_two (t := t.data.toList) (d := d) (x := e) with ⟨c, h, hc⟩ | ⟨v, h⟩
  · exact ⟨c, ⟨#[]⟩, by unfold Sp.dmp; rw [h], by decide, Or.inl ⟨hc, rfl⟩⟩
  · have hg := read_gd h
    have hb := read_bd h top
    have hsz : (⟨(Sp.can top v).toArray⟩ : ByteArray).size = (Sp.can top v).length := by rw [Lib.size_eq]
    refine ⟨0, ⟨(Sp.can top v).toArray⟩, by unfold Sp.dmp; rw [h], by omega, Or.inr ⟨rfl, scn_can _ _ _ hg, fun hl => ?_⟩⟩
    have r1 := reread hg he0 (by omega) [] [] (fun l => rfl) rfl (by intro c t e; cases e) (by simp; omega)
    have r2 := reread hg he0 (by omega) [32] [10] (fun l => rfl) rfl (by intro c t e; injection e with e1 e2; subst e1; exact ⟨by decide, by decide, by decide, by decide⟩) (by simp; omega)
    constructor
    · simp only [List.nil_append, List.append_nil] at r1
      unfold Sp.dmp
      rw [r1]
    · have e1 : ((⟨#[32]⟩ ++ ⟨(Sp.can top v).toArray⟩) ++ ⟨#[10]⟩ : ByteArray).data.toList = [32] ++ (Sp.can top v ++ [10]) := by simp
      rw [e1]
      unfold Sp.dmp
      rw [r2]

theorem stp_quote {c : UInt8} (h : c.toNat = 34) {b o : Bool} {st : Bool × Bool} (hs : Sp.stp (b, o) c = some st) : st = (if o then b else !b, false) := by
  obtain rfl : c = 34 := UInt8.toNat_inj.1 h
  cases b <;> cases o <;> (injection hs with hs; exact hs.symm)
theorem stp_other {c : UInt8} (h : ¬ c.toNat = 34) {b o : Bool} {st : Bool × Bool} (hs : Sp.stp (b, o) c = some st) : st = (b, c == 92 && !o) ∧ (c.toNat = 32 → b = true) ∧ 32 ≤ c.toNat := by
  have e : (c == 34) = false := by rw [ofNat_beq]; simpa using h
  unfold Sp.stp at hs
  simp only [e, Bool.false_and, Bool.false_eq_true, if_false] at hs
  split at hs
  · cases hs
  · rename_i hn
    injection hs with hs
    refine ⟨hs.symm, fun h2 => ?_, by omega⟩
    cases b with
    | true => rfl
    | false => exact absurd (Or.inr ⟨h2, rfl⟩) hn
theorem config_int (a b : Int) (ha0 : -9223372036854775808 ≤ a) (ha1 : a ≤ 9223372036854775807) (hb0 : -9223372036854775808 ≤ b) (hb1 : b ≤ 9223372036854775807) (w : World) :
    Calls Tryz.prog 13 #[.int .i64 a, .int .i64 b, .int .i64 0] w fun x w' => (∃ (d e n : Int), Sp.cfg d e n = true ∧ 0 ≤ e ∧ e ≤ 400 ∧ x = .returned (.agg #[.int .i64 d, .int .i64 e, .int .i64 n])) ∧ Below w.heap.size w w' := by
  refine (config_any a b ha0 ha1 hb0 hb1 w).mono ?_
  rintro x w' ⟨⟨d, e, n, hd, he, hn, rfl⟩, hb⟩
  exact ⟨⟨_, _, _, by simp [Sp.cfg, Sp.inB]; omega, by omega, by omega, rfl⟩, hb⟩

set_option maxRecDepth 100000 in
set_option maxHeartbeats 8000000 in
theorem Round_any {a b : Int} (ha0 : -9223372036854775808 ≤ a) (ha1 : a ≤ 9223372036854775807) (hb0 : -9223372036854775808 ≤ b) (hb1 : b ≤ 9223372036854775807) (t : ByteArray) (w : World) (hT : Laid w) :
    Calls Tryz.prog 4 #[.int .i64 a, .int .i64 b, .string t] w fun x w' => x = .returned (.bool true) ∧ Below w.heap.size w w' := by
  have HT := hide hT
  have hng := hT.ng
  clear hT
  go_enter Tryz.func4, Tryz.ntmps4
  go_wp2_with (fail)
  refine (loading_any _ (unhide HT)).mono ?_
  rintro x w1 ⟨rfl, hb1'⟩
  have HB1 := hide hb1'
  have hs1 := hb1'.size
  clear hb1'
  go_wp2_with (fail)
  refine (config_int a b ha0 ha1 hb0 hb1 _).mono ?_
  rintro x w2 ⟨⟨d, e, n, hc, he0, he1, rfl⟩, hb2⟩
  have HC := hide hc
  have HB2 := hide (((unhide HB1).trans (hb2.mono hs1)).alloc (Nat.le_trans hs1 hb2.size) (.cells #[.int .i64 d, .int .i64 e, .int .i64 n] 23))
  have hs2 : w.heap.size ≤ w2.heap.size := Nat.le_trans hs1 hb2.size
  have hz : (w2.alloc (.cells #[.int .i64 d, .int .i64 e, .int .i64 n] 23)).heap[w2.heap.size]? = some (.cells #[.int .i64 d, .int .i64 e, .int .i64 n] 23 (0, 0)) := heap_new _ _ _ rfl
  obtain ⟨c, s, hd1, hss, hcase⟩ := dmp_three d e he0 he1 t
  have HD1 := hide hd1
  have HCS := hide hcase
  clear hb2 hc hd1 hcase he0 he1 HB1
  go_wp2_with (fail)
  generalize w2.alloc (.cells #[.int .i64 d, .int .i64 e, .int .i64 n] 23) = w3 at *
  refine (dumped_is (unhide HC) (unhide HD1) _ ((unhide HT).below ((unhide HB2).mono hng))).mono ?_
  rintro x w4 ⟨rfl, hb4⟩
  have hs3 : w2.heap.size < w3.heap.size := (Array.getElem?_eq_some_iff.1 hz).1
  have HB4 := hide ((unhide HB2).trans (hb4.mono (by omega)))
  have hs4 : w2.heap.size < w4.heap.size := Nat.lt_of_lt_of_le hs3 hb4.size
  have hz4 : w4.heap[w2.heap.size]? = some (.cells #[.int .i64 d, .int .i64 e, .int .i64 n] 23 (0, 0)) := (hb4.block _ hs3).trans hz
  have z0 : w4.cell? ⟨w2.heap.size, 0, none⟩ = some (.int .i64 d) := by simp [World.cell?, hz4]
  have z1 : w4.cell? ⟨w2.heap.size, 1, none⟩ = some (.int .i64 e) := by simp [World.cell?, hz4]
  have z2 : w4.cell? ⟨w2.heap.size, 2, none⟩ = some (.int .i64 n) := by simp [World.cell?, hz4]
  clear hb4 hz hz4
  rcases unhide HCS with ⟨hpos, rfl⟩ | ⟨rfl, hscn, htwo⟩
  · have e0 : ((c : Int) != 0) = true := by simp; omega
    clear hpos
    go_wp2_with (fail)
    go_ret
    exact ⟨rfl, bel_any (unhide HB4)⟩
  · have HSC := hide hscn
    have HTW := hide htwo
    clear hscn htwo
    by_cases hl : s.size ≤ 1998
    · obtain ⟨h2, h3⟩ := unhide HTW hl
      have HD2 := hide h2
      have HD3 := hide h3
      clear h2 h3
      have e1 : decide ((1998 : Int) < (s.size : Int)) = false := by simp; omega
      go_wp2_with (fail)
      refine (dumped_is (unhide HC) (unhide HD2) _ ((unhide HT).below ((unhide HB4).mono hng))).mono ?_
      rintro x w5 ⟨rfl, hb5⟩
      have HB5 := hide ((unhide HB4).trans (hb5.mono (by omega)))
      have hs5 : w2.heap.size < w5.heap.size := Nat.lt_of_lt_of_le hs4 hb5.size
      have y0 := (hb5.cell (p := ⟨w2.heap.size, 0, none⟩) hs4).trans z0
      have y1 := (hb5.cell (p := ⟨w2.heap.size, 1, none⟩) hs4).trans z1
      have y2 := (hb5.cell (p := ⟨w2.heap.size, 2, none⟩) hs4).trans z2
      clear hb5 z0 z1 z2 HB4 HCS HTW HD1 HD2
      go_wp2_with (fail)
      refine (dumped_is (unhide HC) (unhide HD3) _ ((unhide HT).below ((unhide HB5).mono hng))).mono ?_
      rintro x w6 ⟨rfl, hb6⟩
      have HB6 := hide ((unhide HB5).trans (hb6.mono (by omega)))
      clear hb6 y0 y1 y2 HB5 HD3
      go_wp2_with (fail)
      go_loopw [15, 16] (fun ins i wr => ∃ (k : Nat) (b o : Bool), k ≤ s.size ∧ i = .int .i64 k ∧ ins = .bool b ∧ Sp.scn (false, false) (s.data.toList.take k) = some (b, o) ∧ Below w.heap.size w wr) (fun _ i _ => s.size - (intOf i).toNat)
      case atStart => exact ⟨0, false, false, by omega, rfl, rfl, rfl, unhide HB6⟩
      case round =>
        obtain ⟨k, b, o, hk, rfl, rfl, hsn, hbel⟩ := hrel
        have HBEL := hide hbel
        clear hbel
        by_cases hlt : k < s.size
        · have hkl : k < s.data.toList.length := by simpa using hlt
          have hodd : o = decide (Sp.trB (s.data.toList.take k) % 2 = 1) := scn_odd _ (unhide HSC) k _ (by omega) hsn
          obtain ⟨st', hst, hsn'⟩ := scn_next _ _ (unhide HSC) k hkl hsn
          have hst3 : Sp.stp (b, o) (s[k]'hlt) = some st' := hst
          have HSN := hide hsn'
          have HODD := hide hodd
          have HST := hide hst3
          clear hsn hodd hst hst3 hsn' hkl
          have hnlt := (s[k]'hlt).toNat_lt
          by_cases h34 : s[k].toNat = 34
          · have f34 : ((s[k].toNat : Int) == 34) = true := by rw [h34]; rfl
            have f32 : ((s[k].toNat : Int) == 32) = false := by rw [h34]; rfl
            have flt : decide ((s[k].toNat : Int) < 32) = false := by rw [h34]; rfl
            have H34 := hide h34
            clear h34
            go_wp2_with (fail)
            refine (escaped_any s k hk hss _).mono ?_
            rintro x w7 ⟨rfl, hb7⟩
            have HB7 := hide ((unhide HBEL).trans (hb7.mono (unhide HBEL).size))
            rw [← unhide HODD]
            clear hb7
            have hst := stp_quote (unhide H34) (unhide HST)
            have HST2 := hide hst
            clear hst
            cases o with
            | true =>
              have HS3 := hide (unhide HST2)
              go_wp2_with (fail)
              exact ⟨⟨k + 1, b, false, by omega, by go_num, rfl, (unhide HSN).trans (congrArg some (unhide HS3)), bel_any (unhide HB7)⟩, by simp [intOf]; omega⟩
            | false =>
              have HS3 := hide (unhide HST2)
              go_wp2_with (fail)
              exact ⟨⟨k + 1, !b, false, by omega, by go_num, rfl, (unhide HSN).trans (congrArg some (unhide HS3)), bel_any (unhide HB7)⟩, by simp [intOf]; omega⟩
          · have f34 : ((s[k].toNat : Int) == 34) = false := by simp; omega
            obtain ⟨hst, h32, h31⟩ := stp_other h34 (unhide HST)
            have flt : decide ((s[k].toNat : Int) < 32) = false := by simp; omega
            have HST2 := hide hst
            have H32 := hide h32
            clear h34 hst h32 h31
            by_cases hb : s[k].toNat = 32
            · have f32 : ((s[k].toNat : Int) == 32) = true := by rw [hb]; rfl
              obtain rfl := unhide H32 hb
              clear hb
              go_wp2_with (fail)
              exact ⟨⟨k + 1, true, _, by omega, by go_num, rfl, (unhide HSN).trans (congrArg some (unhide HST2)), bel_any (unhide HBEL)⟩, by simp [intOf]; omega⟩
            · have f32 : ((s[k].toNat : Int) == 32) = false := by simp; omega
              clear hb
              go_wp2_with (fail)
              exact ⟨⟨k + 1, b, _, by omega, by go_num, rfl, (unhide HSN).trans (congrArg some (unhide HST2)), bel_any (unhide HBEL)⟩, by simp [intOf]; omega⟩
        · have hke : k = s.size := by omega
          have hfull : s.data.toList.take k = s.data.toList := List.take_of_length_le (by simp; omega)
          rw [hfull, unhide HSC] at hsn
          injection hsn with hsn
          injection hsn with h1 h2
          subst h1
          clear h2 hfull hke
          go_wp2_with (fail)
          go_ret
          exact ⟨rfl, bel_any (unhide HBEL)⟩
    · have e1 : decide ((1998 : Int) < (s.size : Int)) = true := by simp; omega
      go_wp2_with (fail)
      go_ret
      exact ⟨rfl, bel_any (unhide HB4)⟩

end Go.Proofs.YtmegcejgjdkpfaaGreatDoor

namespace Go.Proofs.YtmegcejgjdkpfaaGreatDoor
open Go.RowKit

theorem dmp_two {a b : ByteArray} (h : Sp.Two 3 a.data.toList b.data.toList) (ha : a.size ≤ 1996) (hb : b.size ≤ 1996) :
    ∃ s : ByteArray, s.toList.isEmpty = false ∧ Sp.dmp 4 2 a.data.toList = (0, s.data.toList) ∧ ∀ p q : ByteArray, Sp.Bl p.data.toList → Sp.Bl q.data.toList → Sp.dmp 4 2 (p ++ b ++ q : ByteArray).data.toList = (0, s.data.toList) := by
  rw [Lib.size_eq] at ha hb
  obtain ⟨s, h1, h2, _⟩ := two_dmp h ha hb bl_nil bl_nil
  refine ⟨⟨s.toArray⟩, ?_, h2, fun p q hp hq => ?_⟩
  · rw [ByteArray.toList_eq, List.isEmpty_eq_false_iff]; exact h1
  · obtain ⟨s', _, k2, k3⟩ := two_dmp h ha hb hp hq
    have e : s = s' := by rw [h2] at k2; injection k2
    have e1 : (p ++ b ++ q : ByteArray).data.toList = p.data.toList ++ (b.data.toList ++ q.data.toList) := by simp
    rw [e1, k3, ← e]

theorem no_big {p q b : ByteArray} (hp : p.size ≤ 2) (hq : q.size ≤ 2) (hb : b.size ≤ 1996) : ¬ 9223372036854775807 < p.size + b.size ∧ ¬ 9223372036854775807 < p.size + b.size + q.size := ⟨by omega, by omega⟩

set_option maxRecDepth 100000 in
set_option maxHeartbeats 8000000 in
theorem Spelled_any {pa : Option Addr} {m cap : Nat} {w : World} (hm : m ≤ cap) (hc : cap ≤ maxLen)
    (hraw : 0 < m → ∃ rb ro : Nat, pa = some ⟨rb, ro, none⟩ ∧ rb < w.heap.size ∧ ∀ i, i < m → ∃ z : Int, -9223372036854775808 ≤ z ∧ z ≤ 9223372036854775807 ∧ w.cell? ⟨rb, ro + i, none⟩ = some (.int .i64 z)) (hT : Laid w) :
    Calls Tryz.prog 5 #[.slice pa m cap] w fun x w' => x = .returned (.bool true) ∧ Below w.heap.size w w' := by
  have HT := hide hT
  have hng := hT.ng
  have HM := hide hm
  have HC := hide hc
  have HRAW := hide hraw
  clear hT hm hc hraw
  go_enter Tryz.func5, Tryz.ntmps5
  go_wp2_with (fail)
  refine (loading_any _ (unhide HT)).mono ?_
  rintro x w1 ⟨rfl, hb1⟩
  have HB1 := hide hb1
  have hs1 := hb1.size
  have hfd : FD (w1.alloc (.cells #[.slice pa m cap, .int .i64 0] 37)) w1.heap.size pa m cap := by
    refine ⟨unhide HM, unhide HC, ⟨0, Nat.zero_le _, heap_new _ _ _ rfl⟩, fun hp => ?_⟩
    obtain ⟨rb, ro, h1, h2, h3⟩ := unhide HRAW hp
    have hba : Below w.heap.size w (w1.alloc (.cells #[.slice pa m cap, .int .i64 0] 37)) := hb1.alloc hs1 _
    exact ⟨rb, ro, h1, by omega, Nat.lt_of_lt_of_le h2 hba.size, fun i hi => let ⟨z, z1, z2, z3⟩ := h3 i hi; ⟨z, z1, z2, (hba.cell (p := ⟨rb, ro + i, none⟩) h2).trans z3⟩⟩
  have HFD := hide hfd
  clear hb1 hfd
  go_wp2_with (fail)
  refine (val_three _ _ _ _ _ (unhide HFD)).mono ?_
  rintro r w2 ⟨⟨a, b, htwo, sa, sb, rfl⟩, hf2⟩
  have HTW := hide htwo
  have HF2 := hide hf2
  have hb02 : Below w.heap.size w w2 := ((unhide HB1).alloc hs1 _).trans (hf2.2.below hs1 (by simp; omega))
  have HB2 := hide hb02
  have hR2 := hf2.1.lt
  have hsa : a.size ≤ 3000 := Nat.le_trans sa (by decide)
  have hsb : b.size ≤ 3000 := Nat.le_trans sb (by decide)
  clear htwo hf2 hb02 sa sb HFD HB1
  by_cases hl1 : b.size ≤ 1996
  · have e1 : decide ((1996 : Int) < (b.size : Int)) = false := by simp; omega
    by_cases hl2 : a.size ≤ 1996
    · have e2 : decide ((1996 : Int) < (a.size : Int)) = false := by simp; omega
      obtain ⟨s, hse, hda, hdb⟩ := dmp_two (unhide HTW) hl2 hl1
      have HDA := hide hda
      have HDB := hide hdb
      have HBC := hide ((unhide HB2).alloc (Nat.le_trans hs1 (Nat.le_of_lt hR2)) (.cells #[.int .i64 4, .int .i64 2, .int .i64 0] 23))
      have hz : (w2.alloc (.cells #[.int .i64 4, .int .i64 2, .int .i64 0] 23)).heap[w2.heap.size]? = some (.cells #[.int .i64 4, .int .i64 2, .int .i64 0] 23 (0, 0)) := heap_new _ _ _ rfl
      have HFC := hide ((unhide HF2).1.low (((Below.refl _ w2).alloc (Nat.le_refl _) (.cells #[.int .i64 4, .int .i64 2, .int .i64 0] 23))))
      have hcfg := hide (show Sp.cfg 4 2 0 = true by decide)
      clear hda hdb HTW
      go_wp2_with (fail)
      generalize w2.alloc (.cells #[.int .i64 4, .int .i64 2, .int .i64 0] 23) = w3 at *
      refine (dumped_is (unhide hcfg) (unhide HDA) _ ((unhide HT).below ((unhide HBC).mono hng))).mono ?_
      rintro x w4 ⟨rfl, hb4⟩
      have hs3 : w2.heap.size < w3.heap.size := (Array.getElem?_eq_some_iff.1 hz).1
      have HB4 := hide ((unhide HBC).trans (hb4.mono (by omega)))
      have hs4 : w2.heap.size < w4.heap.size := Nat.lt_of_lt_of_le hs3 hb4.size
      have hz4 : w4.heap[w2.heap.size]? = some (.cells #[.int .i64 4, .int .i64 2, .int .i64 0] 23 (0, 0)) := (hb4.block _ hs3).trans hz
      have z0 : w4.cell? ⟨w2.heap.size, 0, none⟩ = some (.int .i64 4) := by simp [World.cell?, hz4]
      have z1 : w4.cell? ⟨w2.heap.size, 1, none⟩ = some (.int .i64 2) := by simp [World.cell?, hz4]
      have z2 : w4.cell? ⟨w2.heap.size, 2, none⟩ = some (.int .i64 0) := by simp [World.cell?, hz4]
      have HF4 := hide ((unhide HFC).low hb4)
      have hne : w2.heap.size ≠ w1.heap.size := by omega
      clear hb4 hz hz4 HFC HDA
      go_wp2_with (fail)
      go_region_with (first
        | (go_at_call 14; refine (dumped_is (unhide hcfg) (unhide HDB p q (unhide HP) (unhide HQ)) _ ?_).mono ?_; exact (unhide HT).below ((unhide HB6).mono hng); rintro x w7 ⟨rfl, hb7⟩)
        | (go_at_call 17; refine (blank_any (unhide HF5)).mono ?_; rintro r w6 ⟨⟨q, hq, sq, rfl⟩, hf6⟩; have HQ := hide hq; have HB6 := hide ((unhide HB5).trans (hf6.2.below hs1 (Nat.le_trans hs1 (Nat.le_of_lt (unhide HF5).lt)))); have c0 := (hf6.2.cell (p := ⟨w2.heap.size, 0, none⟩) hs5 hne).trans y0; have c1 := (hf6.2.cell (p := ⟨w2.heap.size, 1, none⟩) hs5 hne).trans y1; have c2 := (hf6.2.cell (p := ⟨w2.heap.size, 2, none⟩) hs5 hne).trans y2; obtain ⟨n3, n4⟩ := no_big sp sq hl1)
        | (go_at_call 17; refine (blank_any (FD.drew (unhide HF4))).mono ?_; rintro r w5 ⟨⟨p, hp, sp, rfl⟩, hf5⟩; have HP := hide hp; have HF5 := hide hf5.1; have HB5 := hide ((unhide HB4).trans (hf5.2.undrew.below hs1 (Nat.le_trans hs1 (Nat.le_of_lt (unhide HF4).lt)))); have y0 := (hf5.2.undrew.cell (p := ⟨w2.heap.size, 0, none⟩) hs4 hne).trans z0; have y1 := (hf5.2.undrew.cell (p := ⟨w2.heap.size, 1, none⟩) hs4 hne).trans z1; have y2 := (hf5.2.undrew.cell (p := ⟨w2.heap.size, 2, none⟩) hs4 hne).trans z2; have hs5 := Nat.lt_of_lt_of_le hs4 hf5.2.undrew.size; obtain ⟨n1, n2⟩ := no_big sp sp hl1))
      all_goals (
        have HB7 := hide ((unhide HB6).trans (bel_from (a' := w6) (hb7.mono (unhide HB6).size)))
        clear hb7 hf5 hf6
        go_wp2_with (fail)
        go_ret
        exact ⟨rfl, bel_any (unhide HB7)⟩)
    · have e2 : decide ((1996 : Int) < (a.size : Int)) = true := by simp; omega
      go_wp2_with (fail)
      go_ret
      exact ⟨rfl, bel_any (unhide HB2)⟩
  · have e1 : decide ((1996 : Int) < (b.size : Int)) = true := by simp; omega
    go_wp2_with (fail)
    go_ret
    exact ⟨rfl, bel_any (unhide HB2)⟩

end Go.Proofs.YtmegcejgjdkpfaaGreatDoor
