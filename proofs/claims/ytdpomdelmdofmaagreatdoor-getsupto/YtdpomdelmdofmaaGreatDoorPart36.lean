/-
  Walk of unescape.
-/
import Derived.Test.YtdpomdelmdofmaaGreatDoorPart35
import Derived.Test.YtdpomdelmdofmaaGreatDoorPart26
import Derived.Lib.SplitLaws
import Derived.Test.YtdpomdelmdofmaaGreatDoorPart31
import Derived.Test.YtdpomdelmdofmaaGreatDoorPart18
import Derived.Lib.ValidLaws
namespace Go.Proofs.YtdpomdelmdofmaaGreatDoor
open Go.RowKit
theorem Mx.kept {w w' : World} (h : Mx w) (hb : Below w.heap.size w w') : Mx w' := by
 obtain ⟨m, h⟩ := h
 exact ⟨m, (hb.cell (p := ⟨6, 0, none⟩) (Lib.lt_of_cell h)).trans h⟩
theorem cut_any (l : Sp.By) (w : World) (h : l.length ≤ 1048576) (hm : Mx w) :
  Calls Tryz.prog 145 #[.string ⟨l.toArray⟩, .string ⟨#[126]⟩] w fun e w' => e = .returned (.tuple #[.string ⟨(Lib.cut l [126]).1.toArray⟩, .string ⟨(Lib.cut l [126]).2.1.toArray⟩, .bool (Lib.cut l [126]).2.2]) ∧ ∃ n, w' = w.drewN n := by
 obtain ⟨m, hm⟩ := hm
 exact Tryz.strings_Cut ⟨l.toArray⟩ ⟨#[126]⟩ m w (by rw [bs_size]; omega) hm
theorem ba_of {x : ByteArray} {l : Sp.By} (h : x.data.toList = l) : x = ⟨l.toArray⟩ := by
 cases x with
 | mk d => simp at h; subst h; simp
theorem ext_drop (l : Sp.By) (k : Nat) : (⟨l.toArray⟩ : ByteArray).extract k l.length = ⟨(l.drop k).toArray⟩ := by
 apply ba_of
 by_cases hk : k ≤ l.length
 ·have h1 := ext_list ⟨l.toArray⟩ k (l.length - k)
  rw [show k + (l.length - k) = l.length by omega] at h1
  rw [h1]
  show (l.drop k).take (l.length - k) = l.drop k
  exact List.take_of_length_le (by simp)
 ·rw [List.drop_eq_nil_of_le (by omega)]
  apply List.eq_nil_of_length_eq_zero
  simp
  omega
def uneEnd (o : Option Sp.By) (e : Ending) : Prop := match o with
 | some s => e = .returned (.tuple #[.string ⟨s.toArray⟩, .bool true])
 | none => e = .returned (.tuple #[.string ⟨#[]⟩, .bool false])
set_option maxRecDepth 100000 in
set_option maxHeartbeats 8000000 in
theorem unescape_any {l : Sp.By} {w : World} (hn : l.length ≤ 1048576) (hT : PTab w) (hm : Mx w) :
  Calls Tryz.prog 110 #[.string ⟨l.toArray⟩] w fun e w' => uneEnd (Sp.une l) e ∧ Below w.heap.size w w' := by
 have hba := (Below.refl w.heap.size w).alloc (Nat.le_refl _) (.cells #[.pointer none, .slice none 0 0] 119)
 have h0 : Bu w.heap.size w.heap.size [] (w.alloc (.cells #[.pointer none, .slice none 0 0] 119)) := Or.inl ⟨Nat.le_refl _, .slice none 0 0, by show (w.heap.push _)[w.heap.size]? = _; simp, World.ownsRow_nil _ _ _ _, by simp [Value.ownBlock]⟩
 have HT := hide hT
 have HM := hide hm
 have HBA := hide hba
 have H0 := hide h0
 have HN := hide hn
 clear hT hm hba h0 hn
 go_enter Tryz.func110, Tryz.ntmps110
 go_wp2_with (fail)
 go_loopw [0] (fun a wr => ∃ l' acc, a = .string ⟨l'.toArray⟩ ∧ Hid (Bu w.heap.size w.heap.size acc wr) ∧ Hid (Below w.heap.size w wr) ∧ Hid (Sp.une l = (Sp.une l').map (acc ++ ·)) ∧ acc.length + l'.length ≤ l.length)
  (fun a _ => match a with | .string s => s.size | _ => 0)
 case atStart => exact ⟨l, [], rfl, H0, HBA, by show Sp.une l = _; cases Sp.une l <;> rfl, by simp⟩
 case round =>
  obtain ⟨l', acc, rfl, HBU, HB, HE, hlen⟩ := hrel
  have hn := unhide HN
  have hcut := hide (cut_any l' wr (by omega) ((unhide HM).kept (unhide HB)))
  have hsz := (unhide HB).size
  rcases idx_126 l' with ⟨h1, h2⟩ | ⟨h1, r, h2⟩
  ·rw [cut_no h1] at hcut
   have HV := hide (show Sp.une l = some (acc ++ l') by rw [unhide HE, une_no h2]; rfl)
   clear h1 h2
   go_wp2_with (fail)
   refine (unhide hcut).mono ?_
   rintro e w2 ⟨rfl, q, rfl⟩
   go_wp2_with (fail)
   refine (wStr l' (Bu_below (unhide HBU) (below_drN (Below.refl _ _) q)) (by omega) (by show w.heap.size ≤ wr.heap.size; exact hsz)).mono ?_
   rintro e w3 ⟨rfl, hbu3, hf3⟩
   have hb3 := (below_drN (unhide HB) q).trans hf3.low
   go_wp2_with (fail)
   refine (Tryz.Builder_String_any w.heap.size w.heap.size _ w3 hbu3 (by have := hb3.size; omega)).mono ?_
   rintro e w4 ⟨rfl, hb4⟩
   go_wp2_with (fail)
   go_ret2
   exact ⟨by rw [unhide HV]; simp [uneEnd], hb3.trans hb4⟩
  ·rw [cut_yes h1 h2] at hcut
   have hal := ahd_le l'
   have hue := une_plain (126 :: r) (ahd_mem l')
   rw [← h2, une_esc] at hue
   have hl2 : (Sp.ahd l').length + (r.length + 1) = l'.length := by
    have := congrArg List.length h2
    simp only [List.length_append, List.length_cons] at this
    omega
   have HUE := hide hue
   have H2 := hide h2
   generalize Sp.ahd l' = p at *
   clear hue h1 h2
   go_wp2_with (fail)
   refine (unhide hcut).mono ?_
   rintro e w2 ⟨rfl, q, rfl⟩
   go_wp2_with (fail)
   refine (wStr p (Bu_below (unhide HBU) (below_drN (Below.refl _ _) q)) (by omega) (by show w.heap.size ≤ wr.heap.size; exact hsz)).mono ?_
   rintro e w3 ⟨rfl, hbu3, hf3⟩
   have HB3 := hide ((below_drN (unhide HB) q).trans hf3.low)
   have HBU3 := hide hbu3
   have hx : (⟨l'.toArray⟩ : ByteArray).extract p.length l'.length = ⟨(126 :: r).toArray⟩ := by
    rw [ext_drop, unhide H2]; simp
   have hszX : (⟨l'.toArray⟩ : ByteArray).size = l'.length := bs_size _
   have hle : (p.length : Int) ≤ ((⟨l'.toArray⟩ : ByteArray).size : Int) := by rw [hszX]; omega
   clear hbu3 hf3
   go_wp2_with (fail)
   refine (pescape_any (126 :: r) w3 ((unhide HT).kept (unhide HB3))).mono ?_
   rintro e w4 ⟨rfl, hb4⟩
   have HB4 := hide ((unhide HB3).trans (hb4.mono (unhide HB3).size))
   have HBU4 := hide (Bu_below (unhide HBU3) hb4)
   clear hb4
   cases hpe : Sp.pes (126 :: r) with
   | none =>
    have HV := hide (show Sp.une l = none by
     have h9 := unhide HUE
     rw [hpe] at h9
     rw [unhide HE, h9]; rfl)
    clear hpe
    unfold pesV
    go_wp2_with (fail)
    go_ret2
    exact ⟨by rw [unhide HV]; rfl, unhide HB4⟩
   | some c =>
    have HV := hide (show Sp.une l = (Sp.une ((126 :: r).drop 2)).map (acc ++ p ++ [c] ++ ·) by
     have h9 := unhide HUE
     rw [hpe] at h9
     rw [unhide HE, h9]
     cases Sp.une ((126 :: r).drop 2) <;> simp)
    have hr1 : 1 ≤ r.length := by
     cases r with
     | nil => cases hpe
     | cons _ _ => simp
    have hx2 : (⟨(126 :: r).toArray⟩ : ByteArray).extract 2 (126 :: r).length = ⟨((126 :: r).drop 2).toArray⟩ := ext_drop _ _
    have hs2 : (⟨(126 :: r).toArray⟩ : ByteArray).size = r.length + 1 := by rw [bs_size]; rfl
    clear hpe hx
    unfold pesV
    go_wp2_with (fail)
    refine (wByte c _ rfl (unhide HBU4) (by simp only [List.length_append]; omega) (unhide HB4).size).mono ?_
    rintro e w5 ⟨rfl, hbu5, hf5⟩
    have HBU5 := hide hbu5
    have HB5 := hide ((unhide HB4).trans hf5.low)
    have hle2 : (2 : Int) ≤ ((⟨(126 :: r).toArray⟩ : ByteArray).size : Int) := by rw [hs2]; omega
    clear hbu5 hf5
    go_wp2_with (fail)
    rw [show ((⟨(126 :: r).toArray⟩ : ByteArray).extract 2 (r.length + 1)) = ⟨((126 :: r).drop 2).toArray⟩ from hx2]
    refine ⟨⟨(126 :: r).drop 2, acc ++ p ++ [c], rfl, HBU5, HB5, HV, ?_⟩, ?_⟩
    ·simp only [List.length_append, List.length_drop, List.length_cons, List.length_nil]; omega
    ·show (⟨((126 :: r).drop 2).toArray⟩ : ByteArray).size < (⟨l'.toArray⟩ : ByteArray).size
     rw [bs_size, bs_size]
     simp only [List.length_drop, List.length_cons]; omega
end Go.Proofs.YtdpomdelmdofmaaGreatDoor

namespace Go.Proofs.YtdpomdelmdofmaaGreatDoor
open Go.RowKit
theorem pcs_ne (l : Sp.By) : Sp.pcs l ≠ [] := by
 cases l with
 | nil => intro h; cases h
 | cons c r =>
  unfold Sp.pcs
  split
  ·intro h; cases h
  ·split <;> (intro h; cases h)
theorem idx_47 : ∀ l : Sp.By, (Lib.index l [47] = -1 ∧ l.count 47 = 0 ∧ Sp.pcs l = [l]) ∨ (Lib.index l [47] = (Sp.ahs l).length ∧ ∃ r, l = Sp.ahs l ++ 47 :: r ∧ l.count 47 = r.count 47 + 1 ∧ Sp.pcs l = Sp.ahs l :: Sp.pcs r)
 | [] => Or.inl ⟨rfl, rfl, rfl⟩
 | b :: l => by
  by_cases hb : b = 47
  ·subst hb
   exact Or.inr ⟨by simp [Lib.index, Sp.ahs], l, by simp [Sp.ahs], by simp, by simp [Sp.ahs, Sp.pcs]⟩
  ·have h1 : Sp.ahs (b :: l) = b :: Sp.ahs l := by simp [Sp.ahs, hb]
   have h2 : Lib.index (b :: l) [47] = if Lib.index l [47] == -1 then -1 else Lib.index l [47] + 1 := by
    have : ([47] : List UInt8).isPrefixOf (b :: l) = false := by
     simp only [List.isPrefixOf]
     simp [Ne.symm hb]
    simp only [Lib.index, this]
    rfl
   have h3 : (b :: l).count 47 = l.count 47 := by rw [List.count_cons]; simp [hb]
   have h4 : Sp.pcs (b :: l) = match Sp.pcs l with | p :: ps => (b :: p) :: ps | [] => [[b]] := by
    conv => lhs; unfold Sp.pcs
    rw [if_neg hb]
    cases Sp.pcs l <;> rfl
   rw [h1, h2, h3, h4]
   rcases idx_47 l with ⟨e1, e2, e3⟩ | ⟨e1, r, e2, e3, e4⟩
   ·rw [e1, e2, e3]; exact Or.inl ⟨rfl, rfl, rfl⟩
   ·refine Or.inr ⟨?_, r, by rw [List.cons_append, ← e2], e3, by rw [e4]⟩
    rw [e1, if_neg (by simp)]
    simp
theorem splitK_succ (sep : Sp.By) (k : Nat) (l : Sp.By) : Lib.splitK sep 0 (k + 1) l = if Lib.index l sep == -1 then [l] else l.take ((Lib.index l sep).toNat + 0) :: Lib.splitK sep 0 k (l.drop ((Lib.index l sep).toNat + sep.length)) := rfl
theorem split_pcs : ∀ (n : Nat) (l : Sp.By), l.length ≤ n → Lib.splitK [47] 0 (l.count 47) l = Sp.pcs l
 | n, l, hn => by
  rcases idx_47 l with ⟨e1, e2, e3⟩ | ⟨e1, r, e2, e3, e4⟩
  ·rw [e2, e3]; rfl
  ·have hr : r.length < l.length := by
    have := congrArg List.length e2
    simp only [List.length_append, List.length_cons] at this
    omega
   rw [e3, e4]
   match n with
   | 0 => omega
   | n + 1 =>
    rw [← split_pcs n r (by omega)]
    rw [splitK_succ, e1, if_neg (by simp)]
    simp only [Int.toNat_natCast, Nat.add_zero]
    have t1 : l.take (Sp.ahs l).length = Sp.ahs l := by
     have h1 : (Sp.ahs l ++ 47 :: r).take (Sp.ahs l).length = Sp.ahs l := List.take_left' rfl
     rw [← e2] at h1; exact h1
    have t2 : l.drop ((Sp.ahs l).length + [(47 : UInt8)].length) = r := by
     have h1 : (Sp.ahs l ++ 47 :: r).drop ((Sp.ahs l).length + 1) = r := by
      rw [← List.drop_drop, List.drop_left' rfl]; rfl
     rw [← e2] at h1; exact h1
    rw [t1, t2]
end Go.Proofs.YtdpomdelmdofmaaGreatDoor

namespace Go.Proofs.YtdpomdelmdofmaaGreatDoor
open Go.RowKit
theorem valid_any (l : Sp.By) (w : World) (h : l.length ≤ 1048576) (hT : Laid w) :
  Calls Tryz.prog 108 #[.string ⟨l.toArray⟩] w fun e w' => e = .returned (.bool (Lib.validD l)) ∧ Below w.heap.size w w' :=
 Any.utf8_ValidString Tryz.lays196 ⟨l.toArray⟩ w (by rw [bs_size]; omega) hT.utf8
def strs (ps : List Sp.By) : List Value := ps.map fun p => .string ⟨p.toArray⟩
theorem cnt_47 (l : Sp.By) : Lib.countB ⟨l.toArray⟩ ⟨#[47]⟩ = l.count 47 := Lib.count_one 47 l
theorem split_strs (l : Sp.By) : (Lib.splitB ⟨#[47]⟩ 0 (l.count 47) ⟨l.toArray⟩).map Value.string = strs (Sp.pcs l) := by
 have h := Lib.splitB_data ⟨#[47]⟩ 0 (l.count 47) ⟨l.toArray⟩
 have h2 : (Lib.splitB ⟨#[47]⟩ 0 (l.count 47) ⟨l.toArray⟩).map (·.data.toList) = Sp.pcs l := h.trans (split_pcs l.length l (Nat.le_refl _))
 unfold strs
 rw [← h2, List.map_map]
 apply List.map_congr_left
 intro x _
 show Value.string x = Value.string ⟨x.data.toList.toArray⟩
 rw [← ba_of (x := x) rfl]
theorem pcs_len (l : Sp.By) : (Sp.pcs l).length = l.count 47 + 1 := by
 have h := congrArg List.length (split_strs l)
 have h1 := Lib.splitB_all ⟨#[47]⟩ (by decide) 0 (l.count 47) ⟨l.toArray⟩ (cnt_47 l)
 rw [List.length_map] at h
 unfold strs at h
 rw [List.length_map] at h
 omega
theorem split_any (l : Sp.By) (w : World) (h : l.length ≤ 1048576) (hm : Mx w) :
  Calls Tryz.prog 109 #[.string ⟨l.toArray⟩, .string ⟨#[47]⟩] w fun e w' => e = .returned (.slice (some ⟨w.heap.size, 0, none⟩) (Sp.pcs l).length (Sp.pcs l).length) ∧ w' = w.alloc (.cells (strs (Sp.pcs l)).toArray 9) := by
 obtain ⟨m, hm⟩ := hm
 have c := Any.strings_Split Tryz.lays146 (by kernel_rfl) ⟨l.toArray⟩ ⟨#[47]⟩ m w (by rw [bs_size]; omega) hm (by decide)
 rw [cnt_47, split_strs, ← pcs_len] at c
 exact c
end Go.Proofs.YtdpomdelmdofmaaGreatDoor

namespace Go.Proofs.YtdpomdelmdofmaaGreatDoor
open Go.RowKit Go.Maps
theorem dec_L (l : Sp.By) (h : l ≠ []) : Sp.dec l = Lib.decodeL l := by rw [dec_list l h, Lib.decodeL_N]
theorem u8_valid : ∀ (n : Nat) (l : Sp.By), l.length ≤ n → Sp.u8 l = Lib.validD l
 | _, [], _ => by rw [u8_nil, Lib.validD_nil]
 | 0, _ :: _, h => by simp at h
 | n + 1, a :: r, h => by
  have hne : a :: r ≠ [] := by simp
  have hD := sca_eq a r
  rw [dec_L _ hne] at hD
  have hw := Lib.decodeL_width (a :: r)
  rw [Lib.validD_step _ hne]
  rcases hD with ⟨⟨h1, h2⟩, h3⟩ | ⟨h1, h3⟩
  ·rw [if_pos ⟨h1, by omega⟩, u8_no hne (by rw [h3])]
  ·rw [if_neg (fun ⟨e1, e2⟩ => h1 ⟨e1, by omega⟩), u8_go hne (by rw [h3]; omega), h3]
   exact u8_valid n _ (by rw [List.length_drop]; simp only [List.length_cons] at h ⊢; omega)
namespace Sp
def tkz : By → By → Option (List By)
 | t, [] => some [t]
 | t, c :: r => if c = 47 then (tkz [] r).map (t :: ·) else if c = 126 then (match r with
  | 48 :: q => tkz (t ++ [126]) q
  | 49 :: q => tkz (t ++ [47]) q
  | _ => none) else tkz (t ++ [c]) r
theorem tkz_eq (t : By) (c : UInt8) (r : By) : tkz t (c :: r) = if c = 47 then (tkz [] r).map (t :: ·) else if c = 126 then (match r with
  | 48 :: q => tkz (t ++ [126]) q
  | 49 :: q => tkz (t ++ [47]) q
  | _ => none) else tkz (t ++ [c]) r := by
 match r with
 | [] => rfl
 | b :: q =>
  by_cases h0 : b = 48
  ·subst h0; rfl
  ·by_cases h1 : b = 49
   ·subst h1; rfl
   ·conv => lhs; unfold tkz
    rfl
def tkp (t : By) : List By → Option (List By)
 | [] => none
 | p :: ps => match une p with
  | none => none
  | some k => (keysOf ps).map ((t ++ k) :: ·)
end Sp
theorem tkp_cons (t p : Sp.By) (ps : List Sp.By) : Sp.tkp t (p :: ps) = match Sp.une p with
  | none => none
  | some k => (Sp.keysOf ps).map ((t ++ k) :: ·) := rfl
theorem keysOf_cons (p : Sp.By) (ps : List Sp.By) : Sp.keysOf (p :: ps) = match Sp.une p with
  | none => none
  | some k => (Sp.keysOf ps).map (k :: ·) := rfl
theorem tkp_keys : ∀ ps : List Sp.By, ps ≠ [] → Sp.tkp [] ps = Sp.keysOf ps
 | [], h => absurd rfl h
 | p :: ps, _ => by
  rw [tkp_cons, keysOf_cons]
  cases Sp.une p <;> rfl
theorem pcs_47 (r : Sp.By) : Sp.pcs (47 :: r) = [] :: Sp.pcs r := by
 conv => lhs; unfold Sp.pcs
 rw [if_pos rfl]
theorem pcs_no {c : UInt8} (h : c ≠ 47) (r : Sp.By) : ∃ p ps, Sp.pcs r = p :: ps ∧ Sp.pcs (c :: r) = (c :: p) :: ps := by
 cases hp : Sp.pcs r with
 | nil => exact absurd hp (pcs_ne r)
 | cons p ps =>
  refine ⟨p, ps, rfl, ?_⟩
  conv => lhs; unfold Sp.pcs
  rw [if_neg h, hp]
theorem une_skip {c : UInt8} (h : c ≠ 126) (r : Sp.By) : Sp.une (c :: r) = (Sp.une r).map (c :: ·) := by rw [Sp.une_eq, if_neg h]
theorem tkz_pcs : ∀ (n : Nat) (l t : Sp.By), l.length ≤ n → Sp.tkz t l = Sp.tkp t (Sp.pcs l)
 | _, [], t, _ => by simp [Sp.tkz, Sp.pcs, Sp.tkp, Sp.une, Sp.keysOf]
 | 0, _ :: _, _, h => by simp at h
 | n + 1, c :: r, t, h => by
  simp only [List.length_cons] at h
  rw [Sp.tkz_eq]
  by_cases h47 : c = 47
  ·subst h47
   rw [if_pos rfl, pcs_47, tkz_pcs n r [] (by omega), tkp_keys _ (pcs_ne r)]
   simp [Sp.tkp, Sp.une]
  ·rw [if_neg h47]
   by_cases h126 : c = 126
   ·subst h126
    rw [if_pos rfl]
    obtain ⟨p, ps, hp, hq⟩ := pcs_no h47 r
    rw [hq]
    match r, hp, h with
    | [], hp, _ =>
     injection hp with hp _
     subst hp
     simp [Sp.tkp, Sp.une]
    | b :: q, hp, h =>
     simp only [List.length_cons] at h
     by_cases hb47 : b = 47
     ·subst hb47
      rw [pcs_47] at hp
      injection hp with hp _
      subst hp
      simp [Sp.tkp, Sp.une]
     ·obtain ⟨p2, ps2, hp2, hq2⟩ := pcs_no hb47 q
      rw [hq2] at hp
      injection hp with hp hps
      subst hp; subst hps
      by_cases h48 : b = 48
      ·subst h48
       simp only
       rw [tkz_pcs n q _ (by omega), hp2]
       rw [tkp_cons, tkp_cons, Sp.une_eq, if_pos rfl]
       simp only
       cases Sp.une p2 <;> simp
      ·by_cases h49 : b = 49
       ·subst h49
        simp only
        rw [tkz_pcs n q _ (by omega), hp2]
        rw [tkp_cons, tkp_cons, Sp.une_eq, if_pos rfl]
        simp only
        cases Sp.une p2 <;> simp
       ·have e : Sp.une (126 :: b :: p2) = none := by
         rw [Sp.une_eq, if_pos rfl]
         split
         ·rename_i e; injection e with e _; exact absurd e h48
         ·rename_i e; injection e with e _; exact absurd e h49
         ·rfl
        rw [tkp_cons, e]
        split
        ·rename_i e; injection e with e _; exact absurd e h48
        ·rename_i e; injection e with e _; exact absurd e h49
        ·rfl
   ·rw [if_neg h126]
    obtain ⟨p, ps, hp, hq⟩ := pcs_no h47 r
    rw [hq, tkz_pcs n r _ (by omega), hp]
    rw [tkp_cons, tkp_cons, une_skip h126]
    cases Sp.une p <;> simp
theorem toks_tkz (l : Sp.By) : Sp.toks l = match l with
  | [] => some []
  | c :: r => if Sp.u8 (c :: r) = true then (if c = 47 then Sp.tkz [] r else none) else none := by
 cases l with
 | nil => simp [Sp.toks, Lib.validD_nil, Sp.pcs, Sp.keysOf]
 | cons c r =>
  simp only
  unfold Sp.toks
  rw [u8_valid _ _ (Nat.le_refl _)]
  split
  ·by_cases h : c = 47
   ·subst h
    rw [if_pos rfl, pcs_47, tkz_pcs _ r [] (Nat.le_refl _), tkp_keys _ (pcs_ne r)]
   ·rw [if_neg h]
    obtain ⟨p, ps, hp, hq⟩ := pcs_no h r
    rw [hq]
  ·rfl
theorem grt_ixf (l : Sp.By) (hd : l.all (Sp.dgs.contains ·) = true) : ∀ (a : Nat) (b : Int), b = min (a : Int) 1000000000 → Sp.grt l b = min (Sp.ixf a l : Int) 1000000000 := by
 induction l with
 | nil => intro a b h; exact h
 | cons c r ih =>
  intro a b h
  rw [List.all_cons, Bool.and_eq_true] at hd
  obtain ⟨c1, c2⟩ := Sp.dgs_iff c hd.1
  have hs : Sp.ixf a (c :: r) = Sp.ixf (a * 10 + (c.toNat - 48)) r := rfl
  rw [Sp.grt, hs]
  exact ih hd.2 _ _ (by omega)
theorem go_up : ∀ (f g : Nat) (o : Sp.O), Sp.goO f o → f ≤ g → Sp.nrm g o = Sp.nrm f o
 | 0, _, _, h, _ => h.elim
 | f + 1, 0, _, _, hg => by omega
 | f + 1, g + 1, o, h, hg => by
  rcases h with ⟨k, _, rfl⟩ | ⟨n, rfl, _⟩ | ⟨s, rfl⟩ | ⟨es, rfl, h⟩ | ⟨es, rfl, _, h⟩
  ·rfl
  ·rfl
  ·rfl
  ·show Sp.vArr (es.map (Sp.nrm g)) = Sp.vArr (es.map (Sp.nrm f))
   rw [List.map_congr_left fun e he => go_up f g e (h e he) (by omega)]
  ·show Sp.puts (Sp.vObj []) ((Sp.lits es).map fun p => (p.1, Sp.nrm g p.2)) = Sp.puts (Sp.vObj []) ((Sp.lits es).map fun p => (p.1, Sp.nrm f p.2))
   congr 1
   apply List.map_congr_left
   intro p hp
   unfold Sp.lits at hp
   obtain ⟨q, hq, rfl⟩ := List.mem_map.1 hp
   show (Lit.string q.1, Sp.nrm g q.2) = (Lit.string q.1, Sp.nrm f q.2)
   rw [go_up f g q.2 (h q hq) (by omega)]
theorem obj_ents (f : Nat) (es : Sp.Ms) (hnd : (es.map (·.1)).Nodup) : ∃ es', Sp.nrm (f + 1) (Sp.oObj es) = Sp.vObj es' ∧ es'.Perm (es.map fun p => (Lit.string p.1, Sp.nrm f p.2)) ∧ es'.Pairwise (fun p q => p.1 ≠ q.1) := by
 have hpw : ((Sp.lits es).map fun p => (p.1, Sp.nrm f p.2)).Pairwise (fun p q => p.1 ≠ q.1) := by
  unfold Sp.lits
  rw [List.pairwise_map, List.pairwise_map]
  have h2 : es.Pairwise (fun a b => a.1 ≠ b.1) := List.pairwise_map.1 hnd
  exact h2.imp fun h e => h (Lit.string.inj e)
 obtain ⟨L, hL⟩ : ∃ L : List (Lit × Sp.V), L = (Sp.lits es).map fun p => (p.1, Sp.nrm f p.2) := ⟨_, rfl⟩
 rw [← hL] at hpw
 obtain ⟨E', e1, e2⟩ := puts_perm L [] hpw
 rw [List.nil_append] at e2
 refine ⟨E', by rw [hL] at e1; exact e1, ?_, e2.symm.pairwise hpw (fun hab => Ne.symm hab)⟩
 refine e2.trans (List.Perm.of_eq ?_)
 rw [hL]
 unfold Sp.lits
 rw [List.map_map]; rfl
def Sp.mem (k : Sp.By) : Sp.Ms → Option Sp.O
 | [] => none
 | p :: r => if p.1 = k then some p.2 else Sp.mem k r
theorem mem_some {k : Sp.By} {o : Sp.O} : ∀ {es : Sp.Ms}, Sp.mem k es = some o → (k, o) ∈ es
 | [], h => by cases h
 | p :: r, h => by
  unfold Sp.mem at h
  split at h
  ·rename_i e
   injection h with h
   subst e; subst h
   exact List.mem_cons_self ..
  ·exact List.mem_cons_of_mem _ (mem_some h)
theorem mem_none {k : Sp.By} : ∀ {es : Sp.Ms}, Sp.mem k es = none → ∀ p ∈ es, p.1 ≠ k
 | [], _, p, hp => by cases hp
 | q :: r, h, p, hp => by
  unfold Sp.mem at h
  split at h
  ·cases h
  ·rename_i e
   rcases List.mem_cons.1 hp with rfl | hp
   ·exact e
   ·exact mem_none h p hp
def Sp.ochild (o : Sp.O) (t : Sp.By) : Except Nat Sp.O := match o with
 | .map es => (match Sp.mem t (es.map fun p => (strOf p.1, p.2)) with
  | some x => .ok x
  | none => .error 11)
 | .slice es _ => (match Sp.idx t with
  | none => .error 12
  | some i => match es[i]? with
   | some e => .ok e
   | none => .error 11)
 | _ => .error 11
def Sp.ofind (o : Sp.O) : List Sp.By → Except Nat Sp.O
 | [] => .ok o
 | t :: r => match Sp.ochild o t with
  | .ok e => Sp.ofind e r
  | .error c => .error c
theorem ochild_obj (es : Sp.Ms) (t : Sp.By) : Sp.ochild (Sp.oObj es) t = match Sp.mem t es with | some x => .ok x | none => .error 11 := by
 unfold Sp.ochild Sp.oObj Sp.lits
 simp only
 rw [List.map_map]
 have : es.map ((fun p : Lit × Sp.O => (strOf p.1, p.2)) ∘ fun p => (Lit.string p.1, p.2)) = es := by
  conv => rhs; rw [← List.map_id es]
  rfl
 rw [this]
theorem nrm_child {f : Nat} {o : Sp.O} {t : Sp.By} (h : Sp.goO (f + 1) o) :
  (∃ y, Sp.ochild o t = .ok y ∧ Sp.goO f y ∧ Sp.child (Sp.nrm (f + 1) o) t = .ok (Sp.nrm f y)) ∨ (∃ c, Sp.ochild o t = .error c ∧ Sp.child (Sp.nrm (f + 1) o) t = .error c) := by
 rcases h with ⟨k, _, rfl⟩ | ⟨n, rfl, _⟩ | ⟨s, rfl⟩ | ⟨es, rfl, h⟩ | ⟨es, rfl, hnd, h⟩
 ·exact Or.inr ⟨11, rfl, rfl⟩
 ·exact Or.inr ⟨11, rfl, rfl⟩
 ·exact Or.inr ⟨11, rfl, rfl⟩
 ·have e : Sp.nrm (f + 1) (Sp.oArr es) = Sp.vArr (es.map (Sp.nrm f)) := rfl
  rw [e]
  unfold Sp.ochild Sp.child Sp.oArr Sp.vArr
  simp only
  cases Sp.idx t with
  | none => exact Or.inr ⟨12, rfl, rfl⟩
  | some i =>
   simp only [List.getElem?_map]
   cases hx : es[i]? with
   | none => exact Or.inr ⟨11, rfl, rfl⟩
   | some y => exact Or.inl ⟨y, rfl, h y (List.mem_of_getElem? hx), rfl⟩
 ·obtain ⟨es', e1, e2, e3⟩ := obj_ents f es hnd
  rw [e1, ochild_obj]
  have hks : ∀ p ∈ es', ∃ s, p.1 = .string s := fun p hp => by
   obtain ⟨q, _, rfl⟩ := List.mem_map.1 (e2.mem_iff.1 hp)
   exact ⟨q.1, rfl⟩
  unfold Sp.child Sp.vObj
  simp only
  cases hm : Sp.mem t es with
  | some y =>
   have hy := mem_some hm
   have hin : (Lit.string t, Sp.nrm f y) ∈ es' := e2.mem_iff.2 (List.mem_map.2 ⟨(t, y), hy, rfl⟩)
   have hh : Maps.has (.map es' : Sp.V) (.string t) = true := List.any_eq_true.2 ⟨_, hin, WideAt.sameKey_self trivial⟩
   rw [if_pos hh, WideAt.atKey_mem .nil (show WideAt.IsKeyLit (Lit.string t) from trivial) e3 hin]
   exact Or.inl ⟨y, rfl, h _ hy, rfl⟩
  | none =>
   have hh : ¬ Maps.has (.map es' : Sp.V) (.string t) = true := fun hh => by
    obtain ⟨p, hp, hs⟩ := List.any_eq_true.1 (show es'.any (fun p => p.1.sameKey (.string t)) = true from hh)
    have e := WideAt.sameKey_eq hs
    obtain ⟨q, hq, rfl⟩ := List.mem_map.1 (e2.mem_iff.1 hp)
    exact mem_none hm q hq (Lit.string.inj e)
   rw [if_neg hh]
   exact Or.inr ⟨11, rfl, rfl⟩
theorem nrm_find : ∀ (l : List Sp.By) (f : Nat) (o : Sp.O), Sp.goO f o →
  (∃ y f', Sp.ofind o l = .ok y ∧ f' + l.length = f ∧ Sp.goO f' y ∧ Sp.find (Sp.nrm f o) l = .ok (Sp.nrm f' y)) ∨ (∃ c, (c = 11 ∨ c = 12) ∧ Sp.ofind o l = .error c ∧ Sp.find (Sp.nrm f o) l = .error c)
 | [], f, o, h => Or.inl ⟨o, f, rfl, rfl, h, rfl⟩
 | t :: r, 0, o, h => h.elim
 | t :: r, f + 1, o, h => by
  rcases nrm_child (t := t) h with ⟨y, h1, h2, h3⟩ | ⟨c, h1, h2⟩
  ·have e1 : Sp.ofind o (t :: r) = Sp.ofind y r := by
    show (match Sp.ochild o t with | .ok e => Sp.ofind e r | .error c => .error c) = _
    rw [h1]
   have e2 : Sp.find (Sp.nrm (f + 1) o) (t :: r) = Sp.find (Sp.nrm f y) r := by
    show (match Sp.child (Sp.nrm (f + 1) o) t with | .ok e => Sp.find e r | .error c => .error c) = _
    rw [h3]
   rw [e1, e2]
   rcases nrm_find r f y h2 with ⟨z, f', a, b, c, d⟩ | h
   ·exact Or.inl ⟨z, f', a, by simp only [List.length_cons]; omega, c, d⟩
   ·exact Or.inr h
  ·refine Or.inr ⟨c, child_err h2, ?_, ?_⟩
   ·show (match Sp.ochild o t with | .ok e => Sp.ofind e r | .error c => .error c) = _
    rw [h1]
   ·show (match Sp.child (Sp.nrm (f + 1) o) t with | .ok e => Sp.find e r | .error c => .error c) = _
    rw [h2]
end Go.Proofs.YtdpomdelmdofmaaGreatDoor
