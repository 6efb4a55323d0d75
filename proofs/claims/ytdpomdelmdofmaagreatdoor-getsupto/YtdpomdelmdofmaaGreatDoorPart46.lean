/-
  Pointers: an index as a number; what the library tells of digits.
-/
import Derived.Test.YtdpomdelmdofmaaGreatDoorPart44
import Derived.Test.YtdpomdelmdofmaaGreatDoorPart45
namespace Go.Proofs.YtdpomdelmdofmaaGreatDoor
open Go.RowKit
theorem dropW_nil {α : Type} (p : α → Bool) : ∀ {l : List α}, l.dropWhile p = [] ↔ l.all p = true
 | [] => by simp
 | a :: r => by
  rw [List.dropWhile_cons, List.all_cons]
  cases h : p a
  ·simp
  ·simp only [if_true, Bool.true_and]
   exact dropW_nil p
theorem dropW_head {α : Type} (p : α → Bool) : ∀ {l : List α} {a : α} {r : List α}, l.dropWhile p = a :: r → p a = false
 | [], _, _, h => by cases h
 | b :: s, a, r, h => by
  rw [List.dropWhile_cons] at h
  cases hb : p b
  ·rw [hb] at h
   simp at h
   rw [← h.1]; exact hb
  ·rw [hb] at h
   simp only [if_true] at h
   exact dropW_head p h
theorem trimS_nil (l cs : List UInt8) : Lib.trimS l cs = [] ↔ l.all (cs.contains ·) = true := by
 have h1 : Lib.trimS l cs = ((l.reverse.dropWhile (cs.contains ·)).reverse).dropWhile (cs.contains ·) := rfl
 rw [h1]
 constructor
 ·intro h
  have h2 := (dropW_nil _).1 h
  cases hd : l.reverse.dropWhile (cs.contains ·) with
  | nil =>
   have h3 := (dropW_nil _).1 hd
   simpa using h3
  | cons a r =>
   have h4 := dropW_head _ hd
   rw [hd] at h2
   simp only [List.all_reverse, List.all_cons, Bool.and_eq_true] at h2
   rw [h4] at h2
   cases h2.1
 ·intro h
  have h3 : l.reverse.dropWhile (cs.contains ·) = [] := (dropW_nil _).2 (by simpa using h)
  rw [h3]; rfl
theorem pu_digits : ∀ (l : Sp.By) (acc : Nat), acc < 18446744073709551616 → l.all (Sp.dgs.contains ·) = true →
  (Lib.parseUint10 acc l = .ok (Sp.ixf acc l) ∧ Sp.ixf acc l < 18446744073709551616) ∨ (Lib.parseUint10 acc l = .range ∧ 18446744073709551616 ≤ Sp.ixf acc l)
 | [], acc, ha, _ => Or.inl ⟨rfl, ha⟩
 | c :: r, acc, ha, h => by
  rw [List.all_cons, Bool.and_eq_true] at h
  obtain ⟨hc, hr⟩ := h
  obtain ⟨c1, c2⟩ := Sp.dgs_iff c hc
  have hstep : Sp.ixf acc (c :: r) = Sp.ixf (acc * 10 + (c.toNat - 48)) r := rfl
  rw [hstep]
  have hge : ∀ (l : Sp.By) (a : Nat), a ≤ Sp.ixf a l := by
   intro l
   induction l with
   | nil => intro a; exact Nat.le_refl _
   | cons d s ih => intro a; exact Nat.le_trans (by omega) (ih (a * 10 + (d.toNat - 48)))
  have h0 := hge r (acc * 10 + (c.toNat - 48))
  simp only [Lib.parseUint10]
  rw [if_pos (by omega)]
  split
  ·exact Or.inr ⟨rfl, by omega⟩
  ·split
   ·exact Or.inr ⟨rfl, by omega⟩
   ·exact pu_digits r _ (by omega) hr
theorem atoi_digits {t : Sp.By} (hne : t ≠ []) (h : t.all (Sp.dgs.contains ·) = true) :
  (Lib.atoiAll t = .ok (Sp.ixf 0 t : Nat) ∧ Sp.ixf 0 t < 9223372036854775808) ∨ (Lib.atoiAll t = .range ∧ Lib.atoiSat t = 9223372036854775807 ∧ 9223372036854775808 ≤ Sp.ixf 0 t) := by
 cases t with
 | nil => exact absurd rfl hne
 | cons c r =>
  have hc : Sp.dgs.contains c = true := by rw [List.all_cons, Bool.and_eq_true] at h; exact h.1
  obtain ⟨c1, c2⟩ := Sp.dgs_iff c hc
  have n1 : ¬ (c.toNat = 43 ∨ c.toNat = 45) := by omega
  have n2 : ¬ (c.toNat = 45) := by omega
  have hs : Lib.atoiSat (c :: r) = 9223372036854775807 := by
   unfold Lib.atoiSat
   rw [if_neg (by simp; omega)]
  have hp := pu_digits (c :: r) 0 (by omega) h
  unfold Lib.atoiAll
  simp only [if_neg n1, Lib.parseMag, if_neg (List.cons_ne_nil c r)]
  rcases hp with ⟨e, hl⟩ | ⟨e, hl⟩
  ·rw [e]
   simp only
   by_cases hb : 9223372036854775808 ≤ Sp.ixf 0 (c :: r)
   ·rw [if_pos ⟨n2, hb⟩]
    exact Or.inr ⟨rfl, hs, hb⟩
   ·rw [if_neg (fun h => hb h.2), if_neg (fun h => n2 h.1), if_neg n2]
    exact Or.inl ⟨rfl, by omega⟩
  ·rw [e]
   exact Or.inr ⟨rfl, hs, by omega⟩
end Go.Proofs.YtdpomdelmdofmaaGreatDoor

namespace Go.Proofs.YtdpomdelmdofmaaGreatDoor
open Go.RowKit
theorem trim_any (t : Sp.By) (w : World) (h : t.length ≤ 1048576) :
  Calls Tryz.prog 195 #[.string ⟨t.toArray⟩, .string ⟨#[48, 49, 50, 51, 52, 53, 54, 55, 56, 57]⟩] w fun e w' => e = .returned (.string ⟨(Lib.trimS t Sp.dgs).toArray⟩) ∧ Below w.heap.size w w' :=
 Any.strings_Trim_laid Tryz.lays160 (by kernel_rfl) ⟨t.toArray⟩ ⟨#[48, 49, 50, 51, 52, 53, 54, 55, 56, 57]⟩ w (by rw [bs_size]; omega) (by decide) (ascii_of_all (by decide))
theorem Rng.kept {w w' : World} (h : Rng w) (hb : Below w.heap.size w w') : Rng w' := by
 obtain ⟨ev, h1, h2⟩ := h
 refine ⟨ev, ?_, h2⟩
 have : 9 < w.heap.size := Lib.lt_of_cell h1
 exact (hb.cell (p := ⟨9, 0, none⟩) this).trans h1
theorem atoi_any (t : Sp.By) (w : World) (h : t.length ≤ 1048576) (hne : t ≠ []) (hd : t.all (Sp.dgs.contains ·) = true) (hr : Rng w) :
  Calls Tryz.prog 196 #[.string ⟨t.toArray⟩] w fun e w' => ∃ x, e = .returned (.tuple #[.int .i64 (min (Sp.ixf 0 t) 9223372036854775807 : Nat), x]) ∧ Below w.heap.size w w' := by
 obtain ⟨ev, hv, hev⟩ := hr
 rcases atoi_digits hne hd with ⟨h1, h2⟩ | ⟨h1, h2, h3⟩
 ·have hm : min (Sp.ixf 0 t) 9223372036854775807 = Sp.ixf 0 t := by omega
  rw [hm]
  refine Calls.mono (Any.strconv_Atoi_ok Tryz.laysC172 ⟨t.toArray⟩ (by rw [bs_size]; omega) (Sp.ixf 0 t : Nat) h1 w) ?_
  rintro e w' ⟨rfl, hw⟩
  refine ⟨_, rfl, ?_⟩
  rcases hw with rfl | ⟨x, rfl⟩
  ·exact Below.refl _ _
  ·exact Lib.bytesWorld_below _ _ _
 ·have hm : min (Sp.ixf 0 t) 9223372036854775807 = 9223372036854775807 := by omega
  rw [hm]
  refine Calls.mono (Any.strconv_Atoi_range Tryz.laysC172 ⟨t.toArray⟩ (by rw [bs_size]; omega) h1 ev w hv hev) ?_
  rintro e w' ⟨N, rfl, _, _, hb⟩
  rw [show Lib.atoiSat (⟨t.toArray⟩ : ByteArray).data.toList = 9223372036854775807 from h2]
  exact ⟨_, rfl, hb⟩
theorem isE_t {X : ByteArray} (h : X.size = 0) : X.toList.isEmpty = true := by
 rw [ByteArray.toList_eq, List.isEmpty_iff]; exact List.eq_nil_of_length_eq_zero (by rw [← Lib.size_eq]; exact h)
theorem isE_f {X : ByteArray} (h : 0 < X.size) : X.toList.isEmpty = false := by
 rw [ByteArray.toList_eq]
 have := Lib.size_eq X
 cases hl : X.data.toList with
 | nil => rw [hl, List.length_nil] at this; omega
 | cons a r => rfl
def idxV (o : Option Nat) : Value := match o with
 | none => .tuple #[.int .i64 0, .bool false]
 | some n => .tuple #[.int .i64 n, .bool true]
set_option maxRecDepth 100000 in
set_option maxHeartbeats 8000000 in
theorem Index_any (t : Sp.By) (w : World) (h : t.length ≤ 1048576) (hr : Rng w) :
  Calls Tryz.prog 147 #[.string ⟨t.toArray⟩] w fun e w' => e = .returned (idxV (Sp.idx t)) ∧ Below w.heap.size w w' := by
 match t, h with
 | [], _ =>
  rw [Sp.idx_none (Or.inl rfl)]
  have e1 := isE_t (X := ⟨([] : Sp.By).toArray⟩) rfl
  have e2 : ¬ (1 : Int) < ((⟨([] : Sp.By).toArray⟩ : ByteArray).size : Int) := by decide
  go_enter Tryz.func147, Tryz.ntmps147
  go_wp2_with (fail)
  go_ret2
  exact ⟨rfl, Below.refl _ _⟩
 | c :: r, h =>
  have hsz : (⟨(c :: r).toArray⟩ : ByteArray).size = r.length + 1 := by rw [bs_size]; rfl
  obtain ⟨X, hX⟩ : ∃ X : ByteArray, X = ⟨(c :: r).toArray⟩ := ⟨_, rfl⟩
  have e1 := isE_f (X := X) (by rw [hX, hsz]; omega)
  have hlt0 : 0 < X.size := by rw [hX, hsz]; omega
  have hg : X[0]'hlt0 = c := by subst hX; rfl
  rw [← hX]
  rw [← hX] at hsz
  by_cases hn : 1 < (c :: r).length ∧ c = 48
  ·rw [Sp.idx_none (Or.inr (Or.inl ⟨hn.1, by rw [hn.2]; rfl⟩))]
   have e2 : (1 : Int) < (X.size : Int) := by have := hn.1; simp only [List.length_cons] at this; omega
   have e3 : X[0]'hlt0 = 48 := by rw [hg]; exact hn.2
   clear h hX hg
   go_enter Tryz.func147, Tryz.ntmps147
   go_wp2_with (fail)
   go_ret2
   exact ⟨rfl, Below.refl _ _⟩
  ·have hno : ((decide ((1 : Int) < (X.size : Int))) && (decide (X[0]'hlt0 = 48))) = false := by
    rw [hg, hsz]
    cases r with
    | nil => rfl
    | cons d q =>
     have : c ≠ 48 := fun e => hn ⟨by simp, e⟩
     simp [this]
   have ht := hide (trim_any (c :: r) w h)
   have hx : ¬ (1 : Int) < (X.size : Int) ∨ ((1 : Int) < (X.size : Int) ∧ ¬ ((X[0]'hlt0).toNat : Int) = 48) := by
    by_cases h1 : (1 : Int) < (X.size : Int)
    ·refine Or.inr ⟨h1, fun e => ?_⟩
     have e9 : X[0]'hlt0 = 48 := UInt8.toNat_inj.1 (by have : (48 : UInt8).toNat = 48 := rfl; omega)
     simp [h1, e9] at hno
    ·exact Or.inl h1
   clear hno hg
   by_cases hd : (c :: r).all (Sp.dgs.contains ·) = true
   ·have hne : c :: r ≠ [] := List.cons_ne_nil _ _
    have hi : Sp.idx (c :: r) = some (min (Sp.ixf 0 (c :: r)) 9223372036854775807) := Sp.idx_some (by
     rintro (e | ⟨e1, e2⟩ | e)
     ·cases e
     ·exact hn ⟨e1, by simpa using e2⟩
     ·rw [hd] at e; cases e)
    rw [hi]
    have hat := hide (fun w2 (hb : Below w.heap.size w w2) => atoi_any (c :: r) w2 h hne hd (hr.kept hb))
    rw [(trimS_nil _ _).2 hd] at ht
    have e4 := isE_t (X := ⟨([] : Sp.By).toArray⟩) rfl
    generalize min (Sp.ixf 0 (c :: r)) 9223372036854775807 = nn at *
    rw [← hX] at ht hat
    clear hX hd hne h hn hsz hi hr
    rcases hx with h1 | ⟨h1, h2⟩
    all_goals (
     go_enter Tryz.func147, Tryz.ntmps147
     go_wp2_with (fail)
     refine (unhide ht).mono ?_
     rintro e w2 ⟨rfl, hb⟩
     have HAT := hide (unhide hat w2 hb)
     have HB := hide hb
     clear hat hb
     go_wp2_with (fail)
     refine (unhide HAT).mono ?_
     rintro e w3 ⟨x, rfl, hb3⟩
     go_wp2_with (fail)
     go_ret2
     exact ⟨rfl, (unhide HB).trans (hb3.mono (unhide HB).size)⟩)
   ·have hd2 : (c :: r).all (Sp.dgs.contains ·) = false := by simpa using hd
    rw [Sp.idx_none (Or.inr (Or.inr hd2))]
    have hne : Lib.trimS (c :: r) Sp.dgs ≠ [] := fun e => hd ((trimS_nil _ _).1 e)
    generalize Lib.trimS (c :: r) Sp.dgs = Y at *
    have e4 : Y.isEmpty = false := by cases Y with
     | nil => exact absurd rfl hne
     | cons _ _ => rfl
    rw [← hX] at ht
    clear hX hd hd2 hne h hn hsz hr
    rcases hx with h1 | ⟨h1, h2⟩
    all_goals (
     go_enter Tryz.func147, Tryz.ntmps147
     go_wp2_with (fail)
     refine (unhide ht).mono ?_
     rintro e w2 ⟨rfl, hb⟩
     go_wp2_with (fail)
     go_ret2
     exact ⟨rfl, hb⟩)
end Go.Proofs.YtdpomdelmdofmaaGreatDoor

namespace Go.Proofs.YtdpomdelmdofmaaGreatDoor
open Go.RowKit Go.Maps
def RepE (F : Nat → Prop) (w : World) (v : Value) (d : Sp.V) : Prop := ∃ f, Rep f F w v d
theorem RepE.bel {F : Nat → Prop} {w w' : World} {v : Value} {d : Sp.V} (h : RepE F w v d) (hb : Below w.heap.size w w') : RepE F w' v d := h.imp fun _ h => h.bel hb
def Out (F : Nat → Prop) (r : Except Nat Sp.V) (e : Ending) (w' : World) : Prop := match r with
 | .ok d => ∃ v, e = .returned (.tuple #[v, .int .i64 0]) ∧ RepE F w' v d
 | .error c => e = .returned (.tuple #[.pointer none, .int .i64 c])
theorem tkey (s : Sp.By) (h : s.length ≤ 1048576) : keyOf Tryz.prog 9 (.string ⟨s.toArray⟩) = some (.string s) := by
 have := Go.WideMaps.keyOf_string_mk Tryz.underlying9 (s := ⟨s.toArray⟩) (by rw [bs_size]; unfold maxLen; omega)
 simpa using this
section
variable {w : World} {b : Nat} {F : Nat → Prop} {t : Sp.By}
set_option maxHeartbeats 4000000 in
theorem child_leaf {k : Nat} (hk : k < 5) {n : Sp.Nm} {s : Sp.By} {sl mp : Value} (h : VB w b k n s sl mp) :
  Calls Tryz.prog 111 #[.pointer (some ⟨b, 0, none⟩), .string ⟨t.toArray⟩] w fun e w' => e = .returned (.tuple #[.pointer none, .int .i64 11]) ∧ Below w.heap.size w w' := by
 have c0 := h.c0
 clear h
 have e5 : ((k : Int) == 5) = false := by rw [beq_eq_false_iff_ne]; omega
 have e6 : ((k : Int) == 6) = false := by rw [beq_eq_false_iff_ne]; omega
 go_enter Tryz.func111, Tryz.ntmps111
 go_wp2_with (fail)
 go_ret2
 exact ⟨rfl, Below.refl _ _⟩
set_option maxRecDepth 100000 in
set_option maxHeartbeats 8000000 in
theorem child_obj {f : Nat} {m n : Nat} {D : List (Lit × DataW Value)} {es : List (Lit × Sp.V)} (ht : t.length ≤ 1048576) (h : VB w b 6 n0 [] (.slice none 0 0) (.map (some m))) (ho : w.ownsMap Tryz.prog 9 RV m n (.map D)) (hp : Pt (Rep f F w) D es) :
  Calls Tryz.prog 111 #[.pointer (some ⟨b, 0, none⟩), .string ⟨t.toArray⟩] w fun e w' => Out F (Sp.child (Sp.vObj es) t) e w' ∧ Below w.heap.size w w' := by
 have hml := hide mlaw
 have hmz := hide (fun w => mzero w)
 have c0 := h.c0
 have c6 := h.c6
 have hkl := hide (tkey t ht)
 have HH := hp.has (.string t)
 obtain ⟨R, hR⟩ : ∃ R, R = Sp.child (Sp.vObj es) t := ⟨_, rfl⟩
 rw [← hR]
 unfold Sp.child Sp.vObj at hR
 simp only at hR
 cases hh : Maps.has (.map D : DataW Value) (.string t) with
 | false =>
  rw [hh] at HH
  rw [← HH, if_neg (by decide)] at hR
  have HOUT := hide (show Out F R (.returned (.tuple #[.pointer none, .int .i64 11])) w by rw [hR]; rfl)
  have HO := hide ho
  have HHH := hide hh
  clear hp h hR ho hh HH
  go_enter Tryz.func111, Tryz.ntmps111
  go_wp2_with (first | (at_lookup; refine wpList_lookup_own_ok _ rfl _ _ 109 rfl 9 80 (unhide hml) Tryz.underlying109 RV (unhide hmz _) (.held (.pointer none)) [] rfl m n (.map D) rfl (unhide HO) _ _ rfl (unhide hkl) ?_; intro v2 ps2 hv2; rw [unhide HHH]))
  go_ret2
  exact ⟨unhide HOUT, Below.refl _ _⟩
 | true =>
  rw [hh] at HH
  rw [← HH, if_pos rfl] at hR
  obtain ⟨x, e4, hrep⟩ := hp.at (.string t) hh
  have HOUT := hide (show Out F R (.returned (.tuple #[x, .int .i64 0])) w by rw [hR]; exact ⟨_, rfl, _, hrep⟩)
  have HO := hide ho
  have HHH := hide hh
  clear hp h hR ho hh HH
  go_enter Tryz.func111, Tryz.ntmps111
  go_wp2_with (first | (at_lookup; refine wpList_lookup_own_ok _ rfl _ _ 109 rfl 9 80 (unhide hml) Tryz.underlying109 RV (unhide hmz _) (.held (.pointer none)) [] rfl m n (.map D) rfl (unhide HO) _ _ rfl (unhide hkl) ?_; intro v2 ps2 hv2; rw [unhide HHH]; obtain ⟨rfl, _⟩ := rv_held hv2 (e4 _)))
  go_ret2
  exact ⟨unhide HOUT, Below.refl _ _⟩
theorem child_arr_none {es : List Sp.V} (h : Sp.idx t = none) : Sp.child (Sp.vArr es) t = .error 12 := by unfold Sp.child Sp.vArr; simp only [h]
theorem child_arr_in {es : List Sp.V} {i : Nat} (h : Sp.idx t = some i) (hi : i < es.length) : Sp.child (Sp.vArr es) t = .ok es[i] := by unfold Sp.child Sp.vArr; simp only [h, List.getElem?_eq_getElem hi]
theorem child_arr_out {es : List Sp.V} {i : Nat} (h : Sp.idx t = some i) (hi : ¬ i < es.length) : Sp.child (Sp.vArr es) t = .error 11 := by unfold Sp.child Sp.vArr; simp only [h, List.getElem?_eq_none (Nat.le_of_not_lt hi)]
set_option maxRecDepth 100000 in
set_option maxHeartbeats 8000000 in
theorem child_arr {f : Nat} {sl : Value} {ps : List Value} {es : List Sp.V} (ht : t.length ≤ 1048576) (hr : Rng w) (h : VB w b 5 n0 [] sl (.map none)) (ho : w.ownsRow 0 80 1 sl ps.length ps) (ha : Al (Rep f F w) ps es) :
  Calls Tryz.prog 111 #[.pointer (some ⟨b, 0, none⟩), .string ⟨t.toArray⟩] w fun e w' => Out F (Sp.child (Sp.vArr es) t) e w' ∧ Below w.heap.size w w' := by
 have c0 := h.c0
 have c5 := h.c5
 have hbl := h.lt
 have hal := ha.length
 have hI := hide (Index_any t w ht hr)
 obtain ⟨N, hN⟩ : ∃ N, N = ps.length := ⟨_, rfl⟩
 obtain ⟨R, hR⟩ : ∃ R, R = Sp.child (Sp.vArr es) t := ⟨_, rfl⟩
 rw [← hR]
 have hmx := owns_max ho
 cases hi : Sp.idx t with
 | none =>
  have HOUT := hide (fun w' => show Out F R (.returned (.tuple #[.pointer none, .int .i64 12])) w' by rw [hR, child_arr_none hi]; rfl)
  rw [hi] at hI
  clear ho ha h hR hal hr hi hmx c5
  go_enter Tryz.func111, Tryz.ntmps111
  go_wp2_with (fail)
  refine (unhide hI).mono ?_
  rintro e w2 ⟨rfl, hb⟩
  unfold idxV
  go_wp2_with (fail)
  go_ret2
  exact ⟨unhide HOUT _, hb⟩
 | some i =>
  rw [hi] at hI
  by_cases hin : i < ps.length
  ·obtain ⟨g, cap, rfl, a1, a2, a3, hc⟩ := owns_cell1 ho (by omega)
   have HOUT := hide (fun w' (hb : Below w.heap.size w w') => show Out F R (.returned (.tuple #[ps[i], .int .i64 0])) w' by
    rw [hR, child_arr_in hi (by omega)]
    exact ⟨_, rfl, f, (ha.get i hin (by omega)).bel hb⟩)
   have hci := hc i hin
   have hn1 : (N : Int) ≤ 9223372036854775807 := by unfold maxLen at hmx; omega
   have hlt : (i : Int) < (N : Int) := by omega
   generalize ps[i] = pv at *
   have HC := hide hci
   have HC5 := hide c5
   rw [← hN] at c5 a1
   have HC5 := hide c5
   clear ho ha hR hal hr hi hmx hc hci c5
   go_enter Tryz.func111, Tryz.ntmps111
   go_wp2_with (fail)
   refine (unhide hI).mono ?_
   rintro e w2 ⟨rfl, hb⟩
   have q5 := (hb.cell (p := ⟨b, 5, none⟩) hbl).trans (unhide HC5)
   have qi := (hb.cell (p := ⟨g, i, none⟩) a3).trans (unhide HC)
   have HB := hide hb
   clear hb hN hin h
   unfold idxV
   go_wp2_with (fail)
   go_ret2
   exact ⟨unhide HOUT _ (unhide HB), unhide HB⟩
  ·have HOUT := hide (fun w' => show Out F R (.returned (.tuple #[.pointer none, .int .i64 11])) w' by rw [hR, child_arr_out hi (by omega)]; rfl)
   obtain ⟨g, cap, rfl⟩ := slice_form ho
   have hlt : ¬ (i : Int) < (N : Int) := by omega
   rw [← hN] at c5
   have HC5 := hide c5
   clear ho ha hR hal hr hi hmx c5
   go_enter Tryz.func111, Tryz.ntmps111
   go_wp2_with (fail)
   refine (unhide hI).mono ?_
   rintro e w2 ⟨rfl, hb⟩
   have q5 := (hb.cell (p := ⟨b, 5, none⟩) hbl).trans (unhide HC5)
   have HB := hide hb
   clear hb hN hin h
   unfold idxV
   go_wp2_with (fail)
   go_ret2
   exact ⟨unhide HOUT _, unhide HB⟩
end
theorem Child_any {F : Nat → Prop} {w : World} {v : Value} {d : Sp.V} {t : Sp.By} (ht : t.length ≤ 1048576) (hr : Rng w) (h : RepE F w v d) :
  Calls Tryz.prog 111 #[v, .string ⟨t.toArray⟩] w fun e w' => Out F (Sp.child d t) e w' ∧ Below w.heap.size w w' := by
 obtain ⟨f, h⟩ := h
 cases f with
 | zero => exact h.elim
 | succ f =>
  obtain ⟨p, rfl, _, h⟩ := h
  rcases h with ⟨k, hk, rfl, h⟩ | ⟨n, rfl, h, _⟩ | ⟨s, rfl, h⟩ | ⟨es, sl, ps, rfl, h, ho, _, hal⟩ | ⟨es, m, n, D, rfl, h, _, ho, hp⟩
  ·exact child_leaf (k := k) (by omega) h
  ·exact child_leaf (k := 3) (by omega) h
  ·exact child_leaf (k := 4) (by omega) h
  ·exact child_arr ht hr h ho hal
  ·exact child_obj ht h ho hp
end Go.Proofs.YtdpomdelmdofmaaGreatDoor
