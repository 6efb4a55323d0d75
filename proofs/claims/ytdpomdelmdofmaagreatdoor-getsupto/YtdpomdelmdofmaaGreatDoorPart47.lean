/-
  Walk of Find.
-/
import Derived.Test.YtdpomdelmdofmaaGreatDoorPart45
import Derived.Test.YtdpomdelmdofmaaGreatDoorPart22
import Derived.Test.YtdpomdelmdofmaaGreatDoorPart07
import Derived.Test.YtdpomdelmdofmaaGreatDoorPart35
import Derived.Lib.SplitLaws
namespace Go.Proofs.YtdpomdelmdofmaaGreatDoor
open Go.RowKit
theorem child_err {d : Sp.V} {t : Sp.By} {c : Nat} (h : Sp.child d t = .error c) : c = 11 ∨ c = 12 := by
 unfold Sp.child at h
 split at h
 ·split at h
  ·cases h
  ·injection h with h; exact Or.inl h.symm
 ·split at h
  ·injection h with h; exact Or.inr h.symm
  ·split at h
   ·cases h
   ·injection h with h; exact Or.inl h.symm
 ·injection h with h; exact Or.inl h.symm
set_option maxRecDepth 100000 in
set_option maxHeartbeats 8000000 in
theorem Find_any {F : Nat → Prop} {w : World} {v pv : Value} {d : Sp.V} {l : List Sp.By} (hl : ∀ t ∈ l, t.length ≤ 1048576) (hn : l.length ≤ 1048576) (hr : Rng w) (h : RepE F w v d) (hp : Toks w pv l) :
  Calls Tryz.prog 81 #[pv, v] w fun e w' => Out F (Sp.find d l) e w' ∧ Below w.heap.size w w' := by
 rcases hp with ⟨rfl, a, c, rfl, _⟩ | ⟨g, o, cap, rfl, _, _, a1, hc⟩
 ·have HH := hide h
  clear hl hn hr h
  go_enter Tryz.func81, Tryz.ntmps81
  go_wp2_with (fail)
  refine wp_loop_rounds 1 ?_
  rw [rounds_succ]
  go_wp2_with (fail)
  go_ret2
  exact ⟨⟨_, rfl, unhide HH⟩, Below.refl _ _⟩
 obtain ⟨N, hN⟩ : ∃ N, N = l.length := ⟨_, rfl⟩
 obtain ⟨R, hR⟩ : ∃ R, R = Sp.find d l := ⟨_, rfl⟩
 rw [← hR, ← hN]
 have hn1 : (N : Int) ≤ 1048576 := by omega
 have HL := hide hl
 have HC := hide hc
 have HR := hide hr
 have HH := hide h
 have HN := hide hN
 have HRR := hide hR
 clear hl hc hr h hN hR hn
 go_enter Tryz.func81, Tryz.ntmps81
 go_wp2_with (fail)
 go_loopw [6, 14] (fun a i wr => ∃ (k : Nat) (d' : Sp.V), k ≤ N ∧ i = .int .i64 k ∧ RepE F wr a d' ∧ Hid (Sp.find d l = Sp.find d' (l.drop k)) ∧ Below w.heap.size w wr) (fun _ i _ => N - (intOf i).toNat)
 case atStart => exact ⟨0, d, by omega, rfl, unhide HH, rfl, Below.refl _ _⟩
 case round =>
  obtain ⟨k, d', hk, rfl, hrep, heq, hb⟩ := hrel
  have HB := hide hb
  have HREP := hide hrep
  by_cases hlt : k < N
  ·have h1 : k < l.length := by have := unhide HN; omega
   have hdrop : l.drop k = l[k] :: l.drop (k + 1) := List.drop_eq_getElem_cons h1
   have q := (hb.cell (p := ⟨g, o + k, none⟩) a1).trans (unhide HC k h1)
   have hcall := hide (Child_any (F := F) (t := l[k]) (unhide HL _ (List.getElem_mem h1)) ((unhide HR).kept hb) hrep)
   have hlt2 : (k : Int) < (N : Int) := by omega
   rw [hdrop] at heq
   have HEQ := hide (show Sp.find d l = (match Sp.child d' l[k] with | .ok e => Sp.find e (l.drop (k + 1)) | .error c => .error c) from heq)
   generalize l[k] = tk at *
   clear heq hb hrep hdrop h1
   go_wp2_with (fail)
   refine (unhide hcall).mono ?_
   rintro e w2 ⟨ho, hb2⟩
   have HB2 := hide ((unhide HB).trans (hb2.mono (unhide HB).size))
   clear hb2 hcall q
   cases hch : Sp.child d' tk with
   | ok d2 =>
    rw [hch] at ho
    obtain ⟨v2, rfl, hv2⟩ := ho
    have HV2 := hide hv2
    have HE2 := hide (show Sp.find d l = Sp.find d2 (l.drop (k + 1)) by have h9 := unhide HEQ; rw [hch] at h9; exact h9)
    clear hv2 hch
    go_wp2_with (fail)
    exact ⟨⟨k + 1, d2, by omega, by go_num, unhide HV2, unhide HE2, unhide HB2⟩, by simp only [intOf]; omega⟩
   | error c =>
    rw [hch] at ho
    have ho2 : e = .returned (.tuple #[.pointer none, .int .i64 c]) := ho
    subst ho2
    have HOUT := hide (show Out F R (.returned (.tuple #[.pointer none, .int .i64 c])) w2 by
     have h9 := unhide HEQ; rw [hch] at h9; rw [unhide HRR, h9]; rfl)
    have hc12 := child_err hch
    have e1 : ((c : Int) == 0) = false := by rw [beq_eq_false_iff_ne]; omega
    have e2 : ((c : Int) != 0) = true := by rw [bne_iff_ne]; omega
    clear hch ho hc12
    go_wp2_with (fail)
    go_ret2
    exact ⟨unhide HOUT, unhide HB2⟩
  ·have hlt2 : ¬ (k : Int) < (N : Int) := by omega
   have HOUT := hide (show ∀ a, RepE F wr a d' → Out F R (.returned (.tuple #[a, .int .i64 0])) wr from fun a ha => by
    rw [unhide HRR, show Sp.find d l = Sp.find d' (l.drop k) from heq, List.drop_eq_nil_of_le (by have := unhide HN; omega)]
    exact ⟨_, rfl, ha⟩)
   clear heq hb hrep
   go_wp2_with (fail)
   go_ret2
   exact ⟨unhide HOUT _ (unhide HREP), unhide HB⟩
end Go.Proofs.YtdpomdelmdofmaaGreatDoor

namespace Go.Proofs.YtdpomdelmdofmaaGreatDoor
open Go.RowKit
namespace Sp
def pes (l : By) : Option UInt8 := match l with
 | 126 :: 48 :: _ => some 126
 | 126 :: 49 :: _ => some 47
 | _ => none
end Sp
theorem below_drN {B : Nat} {a w : World} (h : Below B a w) (q : Nat) : Below B a (w.drewN q) := ⟨h.os, h.tape, h.output, h.size, h.block⟩
theorem PTab.below {w w' : World} {B : Nat} (h : PTab w) (hb : Below B w w') (hB : 4 < B) : PTab w' := by
 obtain ⟨t, fr, e⟩ := h; exact ⟨t, fr, (hb.block _ hB).trans e⟩
theorem PTab.kept {w w' : World} (h : PTab w) (hb : Below w.heap.size w w') : PTab w' := by
 refine h.below hb ?_
 obtain ⟨t, fr, e⟩ := h
 exact (Array.getElem?_eq_some_iff.1 e).1
theorem pes_i0 (w : World) : (Instr.index 256 (.agg pescCells) (.int .i64 0)).run Tryz.prog w = .ok (.agg #[.string ⟨#[126, 48]⟩, .int .u8 126]) w := by kernel_rfl
theorem pes_i1 (w : World) : (Instr.index 256 (.agg pescCells) (.int .i64 1)).run Tryz.prog w = .ok (.agg #[.string ⟨#[126, 49]⟩, .int .u8 47]) w := by kernel_rfl
theorem pref_any (l : Sp.By) (p : ByteArray) (w : World) : Calls Tryz.prog 194 #[.string ⟨l.toArray⟩, .string p] w fun e w' => e = .returned (.bool (Lib.hasPrefix l p.data.toList)) ∧ w' = w := Tryz.strings_HasPrefix ⟨l.toArray⟩ p w
theorem pes_0 {l : Sp.By} (h : Lib.hasPrefix l [126, 48] = true) : Sp.pes l = some 126 := by
 match l, h with
 | [], h => cases h
 | [a], h => simp [Lib.hasPrefix] at h
 | a :: b :: r, h =>
  simp [Lib.hasPrefix] at h
  rw [← h.1, ← h.2]; rfl
theorem pes_1 {l : Sp.By} (h : Lib.hasPrefix l [126, 49] = true) : Sp.pes l = some 47 := by
 match l, h with
 | [], h => cases h
 | [a], h => simp [Lib.hasPrefix] at h
 | a :: b :: r, h =>
  simp [Lib.hasPrefix] at h
  rw [← h.1, ← h.2]; rfl
theorem pes_no {l : Sp.By} (h : Lib.hasPrefix l [126, 48] = false) (h1 : Lib.hasPrefix l [126, 49] = false) : Sp.pes l = none := by
 match l, h, h1 with
 | [], _, _ => rfl
 | [a], _, _ => unfold Sp.pes; split <;> simp_all
 | a :: b :: r, h, h1 =>
  unfold Sp.pes
  split
  ·rename_i e; injection e with e1 e2; injection e2 with e2 _; subst e1; subst e2; simp [Lib.hasPrefix] at h
  ·rename_i e; injection e with e1 e2; injection e2 with e2 _; subst e1; subst e2; simp [Lib.hasPrefix] at h1
  ·rfl
def pesK (j : Nat) : ByteArray := if j = 0 then ⟨#[126, 48]⟩ else ⟨#[126, 49]⟩
def pesB (j : Nat) : Int := if j = 0 then 126 else 47
theorem pes_idx (j : Nat) (hj : j < 2) (w : World) : (Instr.index 256 (.agg pescCells) (.int .i64 j)).run Tryz.prog w = .ok (.agg #[.string (pesK j), .int .u8 (pesB j)]) w := by
 match j, hj with
 | 0, _ => exact pes_i0 w
 | 1, _ => exact pes_i1 w
theorem pesK_size (j : Nat) (hj : j < 2) : (pesK j).size = 2 := by
 match j, hj with
 | 0, _ => rfl
 | 1, _ => rfl
def PSt (l : Sp.By) (j : Nat) : Prop := (1 ≤ j → Lib.hasPrefix l [126, 48] = false) ∧ (2 ≤ j → Lib.hasPrefix l [126, 49] = false)
theorem PSt.step {l : Sp.By} {j : Nat} (hj : j < 2) (h : PSt l j) (hh : Lib.hasPrefix l (pesK j).data.toList = false) : PSt l (j + 1) := by
 match j, hj with
 | 0, _ => exact ⟨fun _ => hh, fun h => absurd h (by omega)⟩
 | 1, _ => exact ⟨fun _ => h.1 (by omega), fun _ => hh⟩
def pesV (o : Option UInt8) : Value := match o with
 | none => .tuple #[.int .u8 0, .int .i64 0]
 | some c => .tuple #[.int .u8 c.toNat, .int .i64 2]
theorem pes_hit {l : Sp.By} {j : Nat} (hj : j < 2) (_ : PSt l j) (hh : Lib.hasPrefix l (pesK j).data.toList = true) : pesV (Sp.pes l) = .tuple #[.int .u8 (pesB j), .int .i64 2] := by
 match j, hj with
 | 0, _ => rw [pes_0 hh]; rfl
 | 1, _ => rw [pes_1 hh]; rfl
set_option maxHeartbeats 4000000 in
theorem pescape_any (l : Sp.By) (w : World) (hT : PTab w) :
  Calls Tryz.prog 146 #[.string ⟨l.toArray⟩] w fun e w' => e = .returned (pesV (Sp.pes l)) ∧ Below w.heap.size w w' := by
 obtain ⟨R, hR⟩ : ∃ R, R = pesV (Sp.pes l) := ⟨_, rfl⟩
 rw [← hR]
 have HR := hide hR
 have hp0 := fun w1 => pref_any l ⟨#[126, 48]⟩ w1
 have hp1 := fun w1 => pref_any l ⟨#[126, 49]⟩ w1
 have HP0 := hide hp0
 have HP1 := hide hp1
 have hlt : 4 < w.heap.size := by obtain ⟨t, fr, e⟩ := hT; exact (Array.getElem?_eq_some_iff.1 e).1
 obtain ⟨tt, fz, hg1⟩ := hT
 clear hR hp0 hp1
 go_enter Tryz.func146, Tryz.ntmps146
 go_wp2_with (refine wpList_load_row rfl 256 _ rfl 4 rfl tt _ fz _ hg1 Tryz.underlying256 rfl (by kernel_rfl) ?_)
 clear hg1
 go_loopw [7] (fun i wr => ∃ j : Nat, j ≤ 2 ∧ i = .int .i64 j ∧ Below w.heap.size w wr ∧ Hid (PSt l j)) (fun i _ => 2 - (intOf i).toNat)
 case atStart => exact ⟨0, by omega, rfl, Below.refl _ _, fun h => absurd h (by omega), fun h => absurd h (by omega)⟩
 case round =>
  obtain ⟨j, hj, rfl, hb, hst⟩ := hrel
  have HB := hide hb
  have HS := hide (unhide hst)
  have hsz := hb.size
  clear hb hst
  by_cases h2 : j = 2
  ·subst h2
   have HV := hide (show R = .tuple #[.int .u8 0, .int .i64 0] by rw [unhide HR, pes_no ((unhide HS).1 (by omega)) ((unhide HS).2 (by omega))]; rfl)
   go_wp2_with (fail)
   go_ret2
   exact ⟨by rw [unhide HV]; rfl, unhide HB⟩
  ·have hjj : j < 2 := by omega
   have hlt2 : (j : Int) < 2 := by omega
   have hidx := fun w1 => pes_idx j hjj w1
   have hcall := hide (fun w1 => pref_any l (pesK j) w1)
   have hks := pesK_size j hjj
   cases hh : Lib.hasPrefix l (pesK j).data.toList with
   | true =>
    have HV := hide (show R = .tuple #[.int .u8 (pesB j), .int .i64 2] by rw [unhide HR]; exact pes_hit hjj (unhide HS) hh)
    rw [hh] at hcall
    clear hh
    generalize pesK j = pk at *
    generalize pesB j = pb at *
    go_wp2_with (fail)
    refine (unhide hcall _).mono ?_
    rintro e w2 ⟨rfl, rfl⟩
    go_wp2_with (fail)
    go_quiet (fail)
    go_wp2_with (fail)
    go_ret2
    exact ⟨by rw [unhide HV]; first | rfl | (congr; simp [hks]), below_drN ((unhide HB).alloc hsz _) _⟩
   | false =>
    have HST := hide ((unhide HS).step hjj hh)
    rw [hh] at hcall
    clear hh
    generalize pesK j = pk at *
    generalize pesB j = pb at *
    go_wp2_with (fail)
    refine (unhide hcall _).mono ?_
    rintro e w2 ⟨rfl, rfl⟩
    go_wp2_with (fail)
    go_roundw
    case rel => exact ⟨j + 1, by omega, by go_num, (unhide HB).alloc hsz _, HST⟩
    case measure => simp [intOf]; omega
end Go.Proofs.YtdpomdelmdofmaaGreatDoor

namespace Go.Proofs.YtdpomdelmdofmaaGreatDoor
open Go.RowKit
theorem ahd_le (l : Sp.By) : (Sp.ahd l).length ≤ l.length := (List.takeWhile_sublist _).length_le
theorem idx_126 : ∀ l : Sp.By, (Lib.index l [126] = -1 ∧ Sp.ahd l = l) ∨ (Lib.index l [126] = (Sp.ahd l).length ∧ ∃ r, l = Sp.ahd l ++ 126 :: r)
 | [] => Or.inl ⟨rfl, rfl⟩
 | b :: l => by
  by_cases hb : b = 126
  ·subst hb
   exact Or.inr ⟨by simp [Lib.index, Sp.ahd], l, by simp [Sp.ahd]⟩
  ·have h1 : Sp.ahd (b :: l) = b :: Sp.ahd l := by simp [Sp.ahd, hb]
   have h2 : Lib.index (b :: l) [126] = if Lib.index l [126] == -1 then -1 else Lib.index l [126] + 1 := by
    have : ([126] : List UInt8).isPrefixOf (b :: l) = false := by
     simp only [List.isPrefixOf]
     simp [Ne.symm hb]
    simp only [Lib.index, this]
    rfl
   rw [h1, h2]
   rcases idx_126 l with ⟨e1, e2⟩ | ⟨e1, r, e2⟩
   ·rw [e1, e2]; exact Or.inl ⟨rfl, rfl⟩
   ·refine Or.inr ⟨?_, r, by rw [List.cons_append, ← e2]⟩
    rw [e1, if_neg (by simp)]
    simp
theorem cut_no {l : Sp.By} (h : Lib.index l [126] = -1) : Lib.cut l [126] = (l, [], false) := by
 unfold Lib.cut; rw [h]; rfl
theorem cut_yes {l r : Sp.By} (h : Lib.index l [126] = (Sp.ahd l).length) (e : l = Sp.ahd l ++ 126 :: r) : Lib.cut l [126] = (Sp.ahd l, r, true) := by
 unfold Lib.cut
 rw [h, if_pos (by omega)]
 simp only [Int.toNat_natCast]
 have e1 : l.take (Sp.ahd l).length = Sp.ahd l := by
  have h1 : (Sp.ahd l ++ 126 :: r).take (Sp.ahd l).length = Sp.ahd l := List.take_left' rfl
  rw [← e] at h1; exact h1
 have e2 : l.drop ((Sp.ahd l).length + [(126 : UInt8)].length) = r := by
  have h1 : (Sp.ahd l ++ 126 :: r).drop ((Sp.ahd l).length + 1) = r := by
   rw [← List.drop_drop, List.drop_left' rfl]; rfl
  rw [← e] at h1; exact h1
 rw [e1, e2]
theorem une_plain : ∀ {p : Sp.By} (r : Sp.By), (∀ c ∈ p, c ≠ 126) → Sp.une (p ++ r) = (Sp.une r).map (p ++ ·)
 | [], r, _ => by simp
 | c :: p, r, h => by
  rw [List.cons_append, Sp.une_eq, if_neg (h c (by simp)), une_plain r (fun d hd => h d (by simp [hd]))]
  cases Sp.une r <;> rfl
theorem ahd_mem (l : Sp.By) : ∀ c ∈ Sp.ahd l, c ≠ 126 := by
 induction l with
 | nil => intro c hc; cases hc
 | cons b l ih =>
  intro c hc
  by_cases hb : b = 126
  ·subst hb; simp [Sp.ahd] at hc
  ·have h1 : Sp.ahd (b :: l) = b :: Sp.ahd l := by simp [Sp.ahd, hb]
   rw [h1] at hc
   rcases List.mem_cons.1 hc with e | e
   ·rw [e]; exact hb
   ·exact ih c e
theorem une_no {l : Sp.By} (h : Sp.ahd l = l) : Sp.une l = some l := by
 have := une_plain (p := l) [] (by rw [← h]; exact ahd_mem l)
 rw [List.append_nil] at this
 rw [this]; simp [Sp.une]
theorem une_esc (r : Sp.By) : Sp.une (126 :: r) = match Sp.pes (126 :: r) with
 | none => none
 | some c => (Sp.une ((126 :: r).drop 2)).map (c :: ·) := by
 rw [Sp.une_eq, if_pos rfl]
 match r with
 | [] => rfl
 | b :: q =>
  by_cases h0 : b = 48
  ·subst h0; rfl
  ·by_cases h1 : b = 49
   ·subst h1; rfl
   ·have e : Sp.pes (126 :: b :: q) = none := by
     unfold Sp.pes
     split
     ·rename_i e; injection e with _ e; injection e with e _; exact absurd e h0
     ·rename_i e; injection e with _ e; injection e with e _; exact absurd e h1
     ·rfl
    rw [e]
    simp only
    split
    ·rename_i e; injection e with e _; exact absurd e h0
    ·rename_i e; injection e with e _; exact absurd e h1
    ·rfl
end Go.Proofs.YtdpomdelmdofmaaGreatDoor
/-
  Walk of unescape.
-/
namespace Go.Proofs.YtdpomdelmdofmaaGreatDoor
open Go.RowKit
theorem Mx.kept {w w' : World} (h : Mx w) (hb : Below w.heap.size w w') : Mx w' := by
 obtain ⟨m, h⟩ := h
 exact ⟨m, (hb.cell (p := ⟨6, 0, none⟩) (Lib.lt_of_cell h)).trans h⟩
theorem cut_any (l : Sp.By) (w : World) (h : l.length ≤ 1048576) (hm : Mx w) :
  Calls Tryz.prog 145 #[.string ⟨l.toArray⟩, .string ⟨#[126]⟩] w fun e w' => e = .returned (.tuple #[.string ⟨(Lib.cut l [126]).1.toArray⟩, .string ⟨(Lib.cut l [126]).2.1.toArray⟩, .bool (Lib.cut l [126]).2.2]) ∧ ∃ n, w' = w.drewN n := by
 obtain ⟨m, hm⟩ := hm
 exact Tryz.strings_Cut ⟨l.toArray⟩ ⟨#[126]⟩ m w (by rw [bs_size]; omega) hm
theorem ba_of {x : ByteArray} {l : Sp.By} (h : x.data.toList = l) : x = ⟨l.toArray⟩ := by
 cases x with
 | mk d => simp at h; subst h; simp
theorem ext_drop (l : Sp.By) (k : Nat) : (⟨l.toArray⟩ : ByteArray).extract k l.length = ⟨(l.drop k).toArray⟩ := by
 apply ba_of
 by_cases hk : k ≤ l.length
 ·have h1 := ext_list ⟨l.toArray⟩ k (l.length - k)
  rw [show k + (l.length - k) = l.length by omega] at h1
  rw [h1]
  show (l.drop k).take (l.length - k) = l.drop k
  exact List.take_of_length_le (by simp)
 ·rw [List.drop_eq_nil_of_le (by omega)]
  apply List.eq_nil_of_length_eq_zero
  simp
  omega
def uneEnd (o : Option Sp.By) (e : Ending) : Prop := match o with
 | some s => e = .returned (.tuple #[.string ⟨s.toArray⟩, .bool true])
 | none => e = .returned (.tuple #[.string ⟨#[]⟩, .bool false])
set_option maxRecDepth 100000 in
set_option maxHeartbeats 8000000 in
theorem unescape_any {l : Sp.By} {w : World} (hn : l.length ≤ 1048576) (hT : PTab w) (hm : Mx w) :
  Calls Tryz.prog 110 #[.string ⟨l.toArray⟩] w fun e w' => uneEnd (Sp.une l) e ∧ Below w.heap.size w w' := by
 have hba := (Below.refl w.heap.size w).alloc (Nat.le_refl _) (.cells #[.pointer none, .slice none 0 0] 119)
 have h0 : Bu w.heap.size w.heap.size [] (w.alloc (.cells #[.pointer none, .slice none 0 0] 119)) := Or.inl ⟨Nat.le_refl _, .slice none 0 0, by show (w.heap.push _)[w.heap.size]? = _; simp, World.ownsRow_nil _ _ _ _, by simp [Value.ownBlock]⟩
 have HT := hide hT
 have HM := hide hm
 have HBA := hide hba
 have H0 := hide h0
 have HN := hide hn
 clear hT hm hba h0 hn
 go_enter Tryz.func110, Tryz.ntmps110
 go_wp2_with (fail)
 go_loopw [0] (fun a wr => ∃ l' acc, a = .string ⟨l'.toArray⟩ ∧ Hid (Bu w.heap.size w.heap.size acc wr) ∧ Hid (Below w.heap.size w wr) ∧ Hid (Sp.une l = (Sp.une l').map (acc ++ ·)) ∧ acc.length + l'.length ≤ l.length)
  (fun a _ => match a with | .string s => s.size | _ => 0)
 case atStart => exact ⟨l, [], rfl, H0, HBA, by show Sp.une l = _; cases Sp.une l <;> rfl, by simp⟩
 case round =>
  obtain ⟨l', acc, rfl, HBU, HB, HE, hlen⟩ := hrel
  have hn := unhide HN
  have hcut := hide (cut_any l' wr (by omega) ((unhide HM).kept (unhide HB)))
  have hsz := (unhide HB).size
  rcases idx_126 l' with ⟨h1, h2⟩ | ⟨h1, r, h2⟩
  ·rw [cut_no h1] at hcut
   have HV := hide (show Sp.une l = some (acc ++ l') by rw [unhide HE, une_no h2]; rfl)
   clear h1 h2
   go_wp2_with (fail)
   refine (unhide hcut).mono ?_
   rintro e w2 ⟨rfl, q, rfl⟩
   go_wp2_with (fail)
   refine (wStr l' (Bu_below (unhide HBU) (below_drN (Below.refl _ _) q)) (by omega) (by show w.heap.size ≤ wr.heap.size; exact hsz)).mono ?_
   rintro e w3 ⟨rfl, hbu3, hf3⟩
   have hb3 := (below_drN (unhide HB) q).trans hf3.low
   go_wp2_with (fail)
   refine (Tryz.Builder_String_any w.heap.size w.heap.size _ w3 hbu3 (by have := hb3.size; omega)).mono ?_
   rintro e w4 ⟨rfl, hb4⟩
   go_wp2_with (fail)
   go_ret2
   exact ⟨by rw [unhide HV]; simp [uneEnd], hb3.trans hb4⟩
  ·rw [cut_yes h1 h2] at hcut
   have hal := ahd_le l'
   have hue := une_plain (126 :: r) (ahd_mem l')
   rw [← h2, une_esc] at hue
   have hl2 : (Sp.ahd l').length + (r.length + 1) = l'.length := by
    have := congrArg List.length h2
    simp only [List.length_append, List.length_cons] at this
    omega
   have HUE := hide hue
   have H2 := hide h2
   generalize Sp.ahd l' = p at *
   clear hue h1 h2
   go_wp2_with (fail)
   refine (unhide hcut).mono ?_
   rintro e w2 ⟨rfl, q, rfl⟩
   go_wp2_with (fail)
   refine (wStr p (Bu_below (unhide HBU) (below_drN (Below.refl _ _) q)) (by omega) (by show w.heap.size ≤ wr.heap.size; exact hsz)).mono ?_
   rintro e w3 ⟨rfl, hbu3, hf3⟩
   have HB3 := hide ((below_drN (unhide HB) q).trans hf3.low)
   have HBU3 := hide hbu3
   have hx : (⟨l'.toArray⟩ : ByteArray).extract p.length l'.length = ⟨(126 :: r).toArray⟩ := by
    rw [ext_drop, unhide H2]; simp
   have hszX : (⟨l'.toArray⟩ : ByteArray).size = l'.length := bs_size _
   have hle : (p.length : Int) ≤ ((⟨l'.toArray⟩ : ByteArray).size : Int) := by rw [hszX]; omega
   clear hbu3 hf3
   go_wp2_with (fail)
   refine (pescape_any (126 :: r) w3 ((unhide HT).kept (unhide HB3))).mono ?_
   rintro e w4 ⟨rfl, hb4⟩
   have HB4 := hide ((unhide HB3).trans (hb4.mono (unhide HB3).size))
   have HBU4 := hide (Bu_below (unhide HBU3) hb4)
   clear hb4
   cases hpe : Sp.pes (126 :: r) with
   | none =>
    have HV := hide (show Sp.une l = none by
     have h9 := unhide HUE
     rw [hpe] at h9
     rw [unhide HE, h9]; rfl)
    clear hpe
    unfold pesV
    go_wp2_with (fail)
    go_ret2
    exact ⟨by rw [unhide HV]; rfl, unhide HB4⟩
   | some c =>
    have HV := hide (show Sp.une l = (Sp.une ((126 :: r).drop 2)).map (acc ++ p ++ [c] ++ ·) by
     have h9 := unhide HUE
     rw [hpe] at h9
     rw [unhide HE, h9]
     cases Sp.une ((126 :: r).drop 2) <;> simp)
    have hr1 : 1 ≤ r.length := by
     cases r with
     | nil => cases hpe
     | cons _ _ => simp
    have hx2 : (⟨(126 :: r).toArray⟩ : ByteArray).extract 2 (126 :: r).length = ⟨((126 :: r).drop 2).toArray⟩ := ext_drop _ _
    have hs2 : (⟨(126 :: r).toArray⟩ : ByteArray).size = r.length + 1 := by rw [bs_size]; rfl
    clear hpe hx
    unfold pesV
    go_wp2_with (fail)
    refine (wByte c _ rfl (unhide HBU4) (by simp only [List.length_append]; omega) (unhide HB4).size).mono ?_
    rintro e w5 ⟨rfl, hbu5, hf5⟩
    have HBU5 := hide hbu5
    have HB5 := hide ((unhide HB4).trans hf5.low)
    have hle2 : (2 : Int) ≤ ((⟨(126 :: r).toArray⟩ : ByteArray).size : Int) := by rw [hs2]; omega
    clear hbu5 hf5
    go_wp2_with (fail)
    rw [show ((⟨(126 :: r).toArray⟩ : ByteArray).extract 2 (r.length + 1)) = ⟨((126 :: r).drop 2).toArray⟩ from hx2]
    refine ⟨⟨(126 :: r).drop 2, acc ++ p ++ [c], rfl, HBU5, HB5, HV, ?_⟩, ?_⟩
    ·simp only [List.length_append, List.length_drop, List.length_cons, List.length_nil]; omega
    ·show (⟨((126 :: r).drop 2).toArray⟩ : ByteArray).size < (⟨l'.toArray⟩ : ByteArray).size
     rw [bs_size, bs_size]
     simp only [List.length_drop, List.length_cons]; omega
end Go.Proofs.YtdpomdelmdofmaaGreatDoor

namespace Go.Proofs.YtdpomdelmdofmaaGreatDoor
open Go.RowKit
theorem pcs_ne (l : Sp.By) : Sp.pcs l ≠ [] := by
 cases l with
 | nil => intro h; cases h
 | cons c r =>
  unfold Sp.pcs
  split
  ·intro h; cases h
  ·split <;> (intro h; cases h)
theorem idx_47 : ∀ l : Sp.By, (Lib.index l [47] = -1 ∧ l.count 47 = 0 ∧ Sp.pcs l = [l]) ∨ (Lib.index l [47] = (Sp.ahs l).length ∧ ∃ r, l = Sp.ahs l ++ 47 :: r ∧ l.count 47 = r.count 47 + 1 ∧ Sp.pcs l = Sp.ahs l :: Sp.pcs r)
 | [] => Or.inl ⟨rfl, rfl, rfl⟩
 | b :: l => by
  by_cases hb : b = 47
  ·subst hb
   exact Or.inr ⟨by simp [Lib.index, Sp.ahs], l, by simp [Sp.ahs], by simp, by simp [Sp.ahs, Sp.pcs]⟩
  ·have h1 : Sp.ahs (b :: l) = b :: Sp.ahs l := by simp [Sp.ahs, hb]
   have h2 : Lib.index (b :: l) [47] = if Lib.index l [47] == -1 then -1 else Lib.index l [47] + 1 := by
    have : ([47] : List UInt8).isPrefixOf (b :: l) = false := by
     simp only [List.isPrefixOf]
     simp [Ne.symm hb]
    simp only [Lib.index, this]
    rfl
   have h3 : (b :: l).count 47 = l.count 47 := by rw [List.count_cons]; simp [hb]
   have h4 : Sp.pcs (b :: l) = match Sp.pcs l with | p :: ps => (b :: p) :: ps | [] => [[b]] := by
    conv => lhs; unfold Sp.pcs
    rw [if_neg hb]
    cases Sp.pcs l <;> rfl
   rw [h1, h2, h3, h4]
   rcases idx_47 l with ⟨e1, e2, e3⟩ | ⟨e1, r, e2, e3, e4⟩
   ·rw [e1, e2, e3]; exact Or.inl ⟨rfl, rfl, rfl⟩
   ·refine Or.inr ⟨?_, r, by rw [List.cons_append, ← e2], e3, by rw [e4]⟩
    rw [e1, if_neg (by simp)]
    simp
theorem splitK_succ (sep : Sp.By) (k : Nat) (l : Sp.By) : Lib.splitK sep 0 (k + 1) l = if Lib.index l sep == -1 then [l] else l.take ((Lib.index l sep).toNat + 0) :: Lib.splitK sep 0 k (l.drop ((Lib.index l sep).toNat + sep.length)) := rfl
theorem split_pcs : ∀ (n : Nat) (l : Sp.By), l.length ≤ n → Lib.splitK [47] 0 (l.count 47) l = Sp.pcs l
 | n, l, hn => by
  rcases idx_47 l with ⟨e1, e2, e3⟩ | ⟨e1, r, e2, e3, e4⟩
  ·rw [e2, e3]; rfl
  ·have hr : r.length < l.length := by
    have := congrArg List.length e2
    simp only [List.length_append, List.length_cons] at this
    omega
   rw [e3, e4]
   match n with
   | 0 => omega
   | n + 1 =>
    rw [← split_pcs n r (by omega)]
    rw [splitK_succ, e1, if_neg (by simp)]
    simp only [Int.toNat_natCast, Nat.add_zero]
    have t1 : l.take (Sp.ahs l).length = Sp.ahs l := by
     have h1 : (Sp.ahs l ++ 47 :: r).take (Sp.ahs l).length = Sp.ahs l := List.take_left' rfl
     rw [← e2] at h1; exact h1
    have t2 : l.drop ((Sp.ahs l).length + [(47 : UInt8)].length) = r := by
     have h1 : (Sp.ahs l ++ 47 :: r).drop ((Sp.ahs l).length + 1) = r := by
      rw [← List.drop_drop, List.drop_left' rfl]; rfl
     rw [← e2] at h1; exact h1
    rw [t1, t2]
end Go.Proofs.YtdpomdelmdofmaaGreatDoor

namespace Go.Proofs.YtdpomdelmdofmaaGreatDoor
open Go.RowKit
theorem valid_any (l : Sp.By) (w : World) (h : l.length ≤ 1048576) (hT : Laid w) :
  Calls Tryz.prog 108 #[.string ⟨l.toArray⟩] w fun e w' => e = .returned (.bool (Lib.validD l)) ∧ Below w.heap.size w w' :=
 Any.utf8_ValidString Tryz.lays196 ⟨l.toArray⟩ w (by rw [bs_size]; omega) hT.utf8
def strs (ps : List Sp.By) : List Value := ps.map fun p => .string ⟨p.toArray⟩
theorem cnt_47 (l : Sp.By) : Lib.countB ⟨l.toArray⟩ ⟨#[47]⟩ = l.count 47 := Lib.count_one 47 l
theorem split_strs (l : Sp.By) : (Lib.splitB ⟨#[47]⟩ 0 (l.count 47) ⟨l.toArray⟩).map Value.string = strs (Sp.pcs l) := by
 have h := Lib.splitB_data ⟨#[47]⟩ 0 (l.count 47) ⟨l.toArray⟩
 have h2 : (Lib.splitB ⟨#[47]⟩ 0 (l.count 47) ⟨l.toArray⟩).map (·.data.toList) = Sp.pcs l := h.trans (split_pcs l.length l (Nat.le_refl _))
 unfold strs
 rw [← h2, List.map_map]
 apply List.map_congr_left
 intro x _
 show Value.string x = Value.string ⟨x.data.toList.toArray⟩
 rw [← ba_of (x := x) rfl]
theorem pcs_len (l : Sp.By) : (Sp.pcs l).length = l.count 47 + 1 := by
 have h := congrArg List.length (split_strs l)
 have h1 := Lib.splitB_all ⟨#[47]⟩ (by decide) 0 (l.count 47) ⟨l.toArray⟩ (cnt_47 l)
 rw [List.length_map] at h
 unfold strs at h
 rw [List.length_map] at h
 omega
theorem split_any (l : Sp.By) (w : World) (h : l.length ≤ 1048576) (hm : Mx w) :
  Calls Tryz.prog 109 #[.string ⟨l.toArray⟩, .string ⟨#[47]⟩] w fun e w' => e = .returned (.slice (some ⟨w.heap.size, 0, none⟩) (Sp.pcs l).length (Sp.pcs l).length) ∧ w' = w.alloc (.cells (strs (Sp.pcs l)).toArray 9) := by
 obtain ⟨m, hm⟩ := hm
 have c := Any.strings_Split Tryz.lays146 (by kernel_rfl) ⟨l.toArray⟩ ⟨#[47]⟩ m w (by rw [bs_size]; omega) hm (by decide)
 rw [cnt_47, split_strs, ← pcs_len] at c
 exact c
end Go.Proofs.YtdpomdelmdofmaaGreatDoor
