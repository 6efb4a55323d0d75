/-
  Walk of unescape.
-/
import Derived.Test.YtdpomdelmdofmaaGreatDoorPart47
import Derived.Test.YtdpomdelmdofmaaGreatDoorPart35
import Derived.Lib.SplitLaws
namespace Go.Proofs.YtdpomdelmdofmaaGreatDoor
open Go.RowKit
theorem Mx.kept {w w' : World} (h : Mx w) (hb : Below w.heap.size w w') : Mx w' := by
 obtain ⟨m, h⟩ := h
 exact ⟨m, (hb.cell (p := ⟨6, 0, none⟩) (Lib.lt_of_cell h)).trans h⟩
theorem cut_any (l : Sp.By) (w : World) (h : l.length ≤ 1048576) (hm : Mx w) :
  Calls Tryz.prog 145 #[.string ⟨l.toArray⟩, .string ⟨#[126]⟩] w fun e w' => e = .returned (.tuple #[.string ⟨(Lib.cut l [126]).1.toArray⟩, .string ⟨(Lib.cut l [126]).2.1.toArray⟩, .bool (Lib.cut l [126]).2.2]) ∧ ∃ n, w' = w.drewN n := by
 obtain ⟨m, hm⟩ := hm
 exact Tryz.strings_Cut ⟨l.toArray⟩ ⟨#[126]⟩ m w (by rw [bs_size]; omega) hm
theorem ba_of {x : ByteArray} {l : Sp.By} (h : x.data.toList = l) : x = ⟨l.toArray⟩ := by
 cases x with
 | mk d => simp at h; subst h; simp
theorem ext_drop (l : Sp.By) (k : Nat) : (⟨l.toArray⟩ : ByteArray).extract k l.length = ⟨(l.drop k).toArray⟩ := by
 apply ba_of
 by_cases hk : k ≤ l.length
 ·have h1 := ext_list ⟨l.toArray⟩ k (l.length - k)
  rw [show k + (l.length - k) = l.length by omega] at h1
  rw [h1]
  show (l.drop k).take (l.length - k) = l.drop k
  exact List.take_of_length_le (by simp)
 ·rw [List.drop_eq_nil_of_le (by omega)]
  apply List.eq_nil_of_length_eq_zero
  simp
  omega
def uneEnd (o : Option Sp.By) (e : Ending) : Prop := match o with
 | some s => e = .returned (.tuple #[.string ⟨s.toArray⟩, .bool true])
 | none => e = .returned (.tuple #[.string ⟨#[]⟩, .bool false])
set_option maxRecDepth 100000 in
set_option maxHeartbeats 8000000 in
theorem unescape_any {l : Sp.By} {w : World} (hn : l.length ≤ 1048576) (hT : PTab w) (hm : Mx w) :
  Calls Tryz.prog 110 #[.string ⟨l.toArray⟩] w fun e w' => uneEnd (Sp.une l) e ∧ Below w.heap.size w w' := by
 have hba := (Below.refl w.heap.size w).alloc (Nat.le_refl _) (.cells #[.pointer none, .slice none 0 0] 119)
 have h0 : Bu w.heap.size w.heap.size [] (w.alloc (.cells #[.pointer none, .slice none 0 0] 119)) := Or.inl ⟨Nat.le_refl _, .slice none 0 0, by show (w.heap.push _)[w.heap.size]? = _; simp, World.ownsRow_nil _ _ _ _, by simp [Value.ownBlock]⟩
 have HT := hide hT
 have HM := hide hm
 have HBA := hide hba
 have H0 := hide h0
 have HN := hide hn
 clear hT hm hba h0 hn
 go_enter Tryz.func110, Tryz.ntmps110
 go_wp2_with (fail)
 go_loopw [0] (fun a wr => ∃ l' acc, a = .string ⟨l'.toArray⟩ ∧ Hid (Bu w.heap.size w.heap.size acc wr) ∧ Hid (Below w.heap.size w wr) ∧ Hid (Sp.une l = (Sp.une l').map (acc ++ ·)) ∧ acc.length + l'.length ≤ l.length)
  (fun a _ => match a with | .string s => s.size | _ => 0)
 case atStart => exact ⟨l, [], rfl, H0, HBA, by show Sp.une l = _; cases Sp.une l <;> rfl, by simp⟩
 case round =>
  obtain ⟨l', acc, rfl, HBU, HB, HE, hlen⟩ := hrel
  have hn := unhide HN
  have hcut := hide (cut_any l' wr (by omega) ((unhide HM).kept (unhide HB)))
  have hsz := (unhide HB).size
  rcases idx_126 l' with ⟨h1, h2⟩ | ⟨h1, r, h2⟩
  ·rw [cut_no h1] at hcut
   have HV := hide (show Sp.une l = some (acc ++ l') by rw [unhide HE, une_no h2]; rfl)
   clear h1 h2
   go_wp2_with (fail)
   refine (unhide hcut).mono ?_
   rintro e w2 ⟨rfl, q, rfl⟩
   go_wp2_with (fail)
   refine (wStr l' (Bu_below (unhide HBU) (below_drN (Below.refl _ _) q)) (by omega) (by show w.heap.size ≤ wr.heap.size; exact hsz)).mono ?_
   rintro e w3 ⟨rfl, hbu3, hf3⟩
   have hb3 := (below_drN (unhide HB) q).trans hf3.low
   go_wp2_with (fail)
   refine (Tryz.Builder_String_any w.heap.size w.heap.size _ w3 hbu3 (by have := hb3.size; omega)).mono ?_
   rintro e w4 ⟨rfl, hb4⟩
   go_wp2_with (fail)
   go_ret2
   exact ⟨by rw [unhide HV]; simp [uneEnd], hb3.trans hb4⟩
  ·rw [cut_yes h1 h2] at hcut
   have hal := ahd_le l'
   have hue := une_plain (126 :: r) (ahd_mem l')
   rw [← h2, une_esc] at hue
   have hl2 : (Sp.ahd l').length + (r.length + 1) = l'.length := by
    have := congrArg List.length h2
    simp only [List.length_append, List.length_cons] at this
    omega
   have HUE := hide hue
   have H2 := hide h2
   generalize Sp.ahd l' = p at *
   clear hue h1 h2
   go_wp2_with (fail)
   refine (unhide hcut).mono ?_
   rintro e w2 ⟨rfl, q, rfl⟩
   go_wp2_with (fail)
   refine (wStr p (Bu_below (unhide HBU) (below_drN (Below.refl _ _) q)) (by omega) (by show w.heap.size ≤ wr.heap.size; exact hsz)).mono ?_
   rintro e w3 ⟨rfl, hbu3, hf3⟩
   have HB3 := hide ((below_drN (unhide HB) q).trans hf3.low)
   have HBU3 := hide hbu3
   have hx : (⟨l'.toArray⟩ : ByteArray).extract p.length l'.length = ⟨(126 :: r).toArray⟩ := by
    rw [ext_drop, unhide H2]; simp
   have hszX : (⟨l'.toArray⟩ : ByteArray).size = l'.length := bs_size _
   have hle : (p.length : Int) ≤ ((⟨l'.toArray⟩ : ByteArray).size : Int) := by rw [hszX]; omega
   clear hbu3 hf3
   go_wp2_with (fail)
   refine (pescape_any (126 :: r) w3 ((unhide HT).kept (unhide HB3))).mono ?_
   rintro e w4 ⟨rfl, hb4⟩
   have HB4 := hide ((unhide HB3).trans (hb4.mono (unhide HB3).size))
   have HBU4 := hide (Bu_below (unhide HBU3) hb4)
   clear hb4
   cases hpe : Sp.pes (126 :: r) with
   | none =>
    have HV := hide (show Sp.une l = none by
     have h9 := unhide HUE
     rw [hpe] at h9
     rw [unhide HE, h9]; rfl)
    clear hpe
    unfold pesV
    go_wp2_with (fail)
    go_ret2
    exact ⟨by rw [unhide HV]; rfl, unhide HB4⟩
   | some c =>
    have HV := hide (show Sp.une l = (Sp.une ((126 :: r).drop 2)).map (acc ++ p ++ [c] ++ ·) by
     have h9 := unhide HUE
     rw [hpe] at h9
     rw [unhide HE, h9]
     cases Sp.une ((126 :: r).drop 2) <;> simp)
    have hr1 : 1 ≤ r.length := by
     cases r with
     | nil => cases hpe
     | cons _ _ => simp
    have hx2 : (⟨(126 :: r).toArray⟩ : ByteArray).extract 2 (126 :: r).length = ⟨((126 :: r).drop 2).toArray⟩ := ext_drop _ _
    have hs2 : (⟨(126 :: r).toArray⟩ : ByteArray).size = r.length + 1 := by rw [bs_size]; rfl
    clear hpe hx
    unfold pesV
    go_wp2_with (fail)
    refine (wByte c _ rfl (unhide HBU4) (by simp only [List.length_append]; omega) (unhide HB4).size).mono ?_
    rintro e w5 ⟨rfl, hbu5, hf5⟩
    have HBU5 := hide hbu5
    have HB5 := hide ((unhide HB4).trans hf5.low)
    have hle2 : (2 : Int) ≤ ((⟨(126 :: r).toArray⟩ : ByteArray).size : Int) := by rw [hs2]; omega
    clear hbu5 hf5
    go_wp2_with (fail)
    rw [show ((⟨(126 :: r).toArray⟩ : ByteArray).extract 2 (r.length + 1)) = ⟨((126 :: r).drop 2).toArray⟩ from hx2]
    refine ⟨⟨(126 :: r).drop 2, acc ++ p ++ [c], rfl, HBU5, HB5, HV, ?_⟩, ?_⟩
    ·simp only [List.length_append, List.length_drop, List.length_cons, List.length_nil]; omega
    ·show (⟨((126 :: r).drop 2).toArray⟩ : ByteArray).size < (⟨l'.toArray⟩ : ByteArray).size
     rw [bs_size, bs_size]
     simp only [List.length_drop, List.length_cons]; omega
end Go.Proofs.YtdpomdelmdofmaaGreatDoor

namespace Go.Proofs.YtdpomdelmdofmaaGreatDoor
open Go.RowKit
theorem pcs_ne (l : Sp.By) : Sp.pcs l ≠ [] := by
 cases l with
 | nil => intro h; cases h
 | cons c r =>
  unfold Sp.pcs
  split
  ·intro h; cases h
  ·split <;> (intro h; cases h)
theorem idx_47 : ∀ l : Sp.By, (Lib.index l [47] = -1 ∧ l.count 47 = 0 ∧ Sp.pcs l = [l]) ∨ (Lib.index l [47] = (Sp.ahs l).length ∧ ∃ r, l = Sp.ahs l ++ 47 :: r ∧ l.count 47 = r.count 47 + 1 ∧ Sp.pcs l = Sp.ahs l :: Sp.pcs r)
 | [] => Or.inl ⟨rfl, rfl, rfl⟩
 | b :: l => by
  by_cases hb : b = 47
  ·subst hb
   exact Or.inr ⟨by simp [Lib.index, Sp.ahs], l, by simp [Sp.ahs], by simp, by simp [Sp.ahs, Sp.pcs]⟩
  ·have h1 : Sp.ahs (b :: l) = b :: Sp.ahs l := by simp [Sp.ahs, hb]
   have h2 : Lib.index (b :: l) [47] = if Lib.index l [47] == -1 then -1 else Lib.index l [47] + 1 := by
    have : ([47] : List UInt8).isPrefixOf (b :: l) = false := by
     simp only [List.isPrefixOf]
     simp [Ne.symm hb]
    simp only [Lib.index, this]
    rfl
   have h3 : (b :: l).count 47 = l.count 47 := by rw [List.count_cons]; simp [hb]
   have h4 : Sp.pcs (b :: l) = match Sp.pcs l with | p :: ps => (b :: p) :: ps | [] => [[b]] := by
    conv => lhs; unfold Sp.pcs
    rw [if_neg hb]
    cases Sp.pcs l <;> rfl
   rw [h1, h2, h3, h4]
   rcases idx_47 l with ⟨e1, e2, e3⟩ | ⟨e1, r, e2, e3, e4⟩
   ·rw [e1, e2, e3]; exact Or.inl ⟨rfl, rfl, rfl⟩
   ·refine Or.inr ⟨?_, r, by rw [List.cons_append, ← e2], e3, by rw [e4]⟩
    rw [e1, if_neg (by simp)]
    simp
theorem splitK_succ (sep : Sp.By) (k : Nat) (l : Sp.By) : Lib.splitK sep 0 (k + 1) l = if Lib.index l sep == -1 then [l] else l.take ((Lib.index l sep).toNat + 0) :: Lib.splitK sep 0 k (l.drop ((Lib.index l sep).toNat + sep.length)) := rfl
theorem split_pcs : ∀ (n : Nat) (l : Sp.By), l.length ≤ n → Lib.splitK [47] 0 (l.count 47) l = Sp.pcs l
 | n, l, hn => by
  rcases idx_47 l with ⟨e1, e2, e3⟩ | ⟨e1, r, e2, e3, e4⟩
  ·rw [e2, e3]; rfl
  ·have hr : r.length < l.length := by
    have := congrArg List.length e2
    simp only [List.length_append, List.length_cons] at this
    omega
   rw [e3, e4]
   match n with
   | 0 => omega
   | n + 1 =>
    rw [← split_pcs n r (by omega)]
    rw [splitK_succ, e1, if_neg (by simp)]
    simp only [Int.toNat_natCast, Nat.add_zero]
    have t1 : l.take (Sp.ahs l).length = Sp.ahs l := by
     have h1 : (Sp.ahs l ++ 47 :: r).take (Sp.ahs l).length = Sp.ahs l := List.take_left' rfl
     rw [← e2] at h1; exact h1
    have t2 : l.drop ((Sp.ahs l).length + [(47 : UInt8)].length) = r := by
     have h1 : (Sp.ahs l ++ 47 :: r).drop ((Sp.ahs l).length + 1) = r := by
      rw [← List.drop_drop, List.drop_left' rfl]; rfl
     rw [← e2] at h1; exact h1
    rw [t1, t2]
end Go.Proofs.YtdpomdelmdofmaaGreatDoor

namespace Go.Proofs.YtdpomdelmdofmaaGreatDoor
open Go.RowKit
theorem valid_any (l : Sp.By) (w : World) (h : l.length ≤ 1048576) (hT : Laid w) :
  Calls Tryz.prog 108 #[.string ⟨l.toArray⟩] w fun e w' => e = .returned (.bool (Lib.validD l)) ∧ Below w.heap.size w w' :=
 Any.utf8_ValidString Tryz.lays196 ⟨l.toArray⟩ w (by rw [bs_size]; omega) hT.utf8
def strs (ps : List Sp.By) : List Value := ps.map fun p => .string ⟨p.toArray⟩
theorem cnt_47 (l : Sp.By) : Lib.countB ⟨l.toArray⟩ ⟨#[47]⟩ = l.count 47 := Lib.count_one 47 l
theorem split_strs (l : Sp.By) : (Lib.splitB ⟨#[47]⟩ 0 (l.count 47) ⟨l.toArray⟩).map Value.string = strs (Sp.pcs l) := by
 have h := Lib.splitB_data ⟨#[47]⟩ 0 (l.count 47) ⟨l.toArray⟩
 have h2 : (Lib.splitB ⟨#[47]⟩ 0 (l.count 47) ⟨l.toArray⟩).map (·.data.toList) = Sp.pcs l := h.trans (split_pcs l.length l (Nat.le_refl _))
 unfold strs
 rw [← h2, List.map_map]
 apply List.map_congr_left
 intro x _
 show Value.string x = Value.string ⟨x.data.toList.toArray⟩
 rw [← ba_of (x := x) rfl]
theorem pcs_len (l : Sp.By) : (Sp.pcs l).length = l.count 47 + 1 := by
 have h := congrArg List.length (split_strs l)
 have h1 := Lib.splitB_all ⟨#[47]⟩ (by decide) 0 (l.count 47) ⟨l.toArray⟩ (cnt_47 l)
 rw [List.length_map] at h
 unfold strs at h
 rw [List.length_map] at h
 omega
theorem split_any (l : Sp.By) (w : World) (h : l.length ≤ 1048576) (hm : Mx w) :
  Calls Tryz.prog 109 #[.string ⟨l.toArray⟩, .string ⟨#[47]⟩] w fun e w' => e = .returned (.slice (some ⟨w.heap.size, 0, none⟩) (Sp.pcs l).length (Sp.pcs l).length) ∧ w' = w.alloc (.cells (strs (Sp.pcs l)).toArray 9) := by
 obtain ⟨m, hm⟩ := hm
 have c := Any.strings_Split Tryz.lays146 (by kernel_rfl) ⟨l.toArray⟩ ⟨#[47]⟩ m w (by rw [bs_size]; omega) hm (by decide)
 rw [cnt_47, split_strs, ← pcs_len] at c
 exact c
end Go.Proofs.YtdpomdelmdofmaaGreatDoor
