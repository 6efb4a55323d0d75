/-
  Plain facts on the functions of Sp: a canonical text has no blank outside of its strings, no byte below 32, and each string ends.
-/
import Derived.Test.YtdpomdelmdofmaaGreatDoorPart21
namespace Go.Proofs.YtdpomdelmdofmaaGreatDoor
def Sp.stp (st : Bool × Bool) (c : UInt8) : Option (Bool × Bool) :=
 let ins := if c == 34 && !st.2 then !st.1 else st.1
 if c.toNat < 32 ∨ (c.toNat = 32 ∧ ins = false) then none else some (ins, c == 92 && !st.2)
def Sp.scn : Bool × Bool → Sp.By → Option (Bool × Bool)
 | st, [] => some st
 | st, c :: r => match Sp.stp st c with
  | none => none
  | some st' => Sp.scn st' r
theorem scn_app (a b : Sp.By) : ∀ (st st' : Bool × Bool), Sp.scn st a = some st' → Sp.scn st (a ++ b) = Sp.scn st' b := by
 induction a with
 | nil => intro st st' h; injection h with h; subst h; rfl
 | cons c r ih =>
  intro st st' h
  unfold Sp.scn at h
  rw [List.cons_append]
  rw [Sp.scn]
  cases hs : Sp.stp st c with
  | none => rw [hs] at h; cases h
  | some st1 => rw [hs] at h; exact ih _ _ h
theorem ofNat_beq (c k : UInt8) : (c == k) = decide (c.toNat = k.toNat) := by
 rw [Bool.eq_iff_iff, beq_iff_eq, decide_eq_true_eq]
 exact ⟨fun h => by rw [h], fun h => UInt8.toNat_inj.1 h⟩
def Sp.pl (c : UInt8) : Prop := 33 ≤ c.toNat ∧ c.toNat ≠ 34 ∧ c.toNat ≠ 92
theorem stp_pl {c : UInt8} (h : Sp.pl c) (o : Bool) (i : Bool) : Sp.stp (i, o) c = some (i, false) := by
 obtain ⟨h1, h2, h3⟩ := h
 unfold Sp.stp
 have e1 : (c == 34) = false := by rw [ofNat_beq]; simpa using h2
 have e2 : (c == 92) = false := by rw [ofNat_beq]; simpa using h3
 simp only [e1, e2, Bool.false_and]
 rw [if_neg (by omega)]
 rfl
theorem scn_pl (l : Sp.By) (h : ∀ c ∈ l, Sp.pl c) (i : Bool) : Sp.scn (i, false) l = some (i, false) := by
 induction l with
 | nil => rfl
 | cons c r ih =>
  rw [Sp.scn, stp_pl (h c (by simp))]
  exact ih fun c hc => h c (by simp [hc])
theorem hexc_pl : ∀ n : Fin 16, 33 ≤ (Sp.hexc n.val).toNat ∧ (Sp.hexc n.val).toNat ≠ 34 ∧ (Sp.hexc n.val).toNat ≠ 92 := by decide
theorem scn_escB (c : UInt8) : Sp.scn (true, false) (Sp.escB c) = some (true, false) := by
 unfold Sp.escB
 split
 ·rename_i h
  rcases h with h | h
  ·obtain rfl : c = 34 := UInt8.toNat_inj.1 h
   rfl
  ·obtain rfl : c = 92 := UInt8.toNat_inj.1 h
   rfl
 ·rename_i h
  split
  ·rename_i h2
   have e : Sp.scn (true, false) ([92, 117, 48, 48] ++ [Sp.hexc (c.toNat / 16), Sp.hexc (c.toNat % 16)]) = Sp.scn (true, false) [Sp.hexc (c.toNat / 16), Sp.hexc (c.toNat % 16)] := scn_app _ _ _ _ rfl
   rw [show [92, 117, 48, 48, Sp.hexc (c.toNat / 16), Sp.hexc (c.toNat % 16)] = [92, 117, 48, 48] ++ [Sp.hexc (c.toNat / 16), Sp.hexc (c.toNat % 16)] from rfl, e]
   apply scn_pl
   intro x hx
   simp only [List.mem_cons, List.not_mem_nil, or_false] at hx
   rcases hx with rfl | rfl
   ·exact hexc_pl ⟨c.toNat / 16, by omega⟩
   ·exact hexc_pl ⟨c.toNat % 16, by omega⟩
  ·rename_i h2
   rw [Sp.scn]
   have e1 : (c == 34) = false := by rw [ofNat_beq]; simp; omega
   have e2 : (c == 92) = false := by rw [ofNat_beq]; simp; omega
   unfold Sp.stp
   simp only [e1, e2, Bool.false_and]
   rw [if_neg (by simp; omega)]
   rfl
theorem scn_escS (s : Sp.By) : Sp.scn (true, false) (Sp.escS s) = some (true, false) := by
 induction s with
 | nil => rfl
 | cons c r ih => rw [Sp.escS, scn_app _ _ _ _ (scn_escB c), ih]
theorem scn_quoT (s : Sp.By) : Sp.scn (false, false) (Sp.quoT s) = some (false, false) := by
 unfold Sp.quoT
 rw [Sp.scn, show Sp.stp (false, false) 34 = some (true, false) from rfl]
 simp only
 rw [scn_app _ _ _ _ (scn_escS s)]
 rfl
theorem digit_pl {c : UInt8} (h : Sp.isD c = true) : Sp.pl c := by
 unfold Sp.isD at h
 simp at h
 exact ⟨by omega, by omega, by omega⟩
theorem itoa_pl (e : Int) : ∀ c ∈ Lib.itoa e, Sp.pl c := by
 unfold Lib.itoa
 split
 ·intro c hc
  rcases List.mem_cons.1 hc with rfl | hc
  ·exact ⟨by decide, by decide, by decide⟩
  ·exact digit_pl (decD_all _ c hc)
 ·intro c hc; exact digit_pl (decD_all _ c hc)
theorem numT_pl {n : Sp.Nm} (h : Sp.Gn n) : ∀ c ∈ Sp.numT n, Sp.pl c := by
 rcases h with rfl | ⟨hne, hd, _⟩
 ·intro c hc
  have : c = 48 := by simpa [Sp.numT] using hc
  subst this
  exact ⟨by decide, by decide, by decide⟩
 ·unfold Sp.numT
  rw [if_neg hne]
  intro c hc
  rcases List.mem_append.1 hc with hc | hc
  ·split at hc
   ·rw [List.mem_singleton] at hc; subst hc; exact ⟨by decide, by decide, by decide⟩
   ·cases hc
  ·rcases List.mem_append.1 hc with hc | hc
   ·exact digit_pl (hd c hc)
   ·split at hc
    ·cases hc
    ·rcases List.mem_cons.1 hc with rfl | hc
     ·exact ⟨by decide, by decide, by decide⟩
     ·exact itoa_pl _ c hc
theorem scn_join (xs : List Sp.By) (h : ∀ y ∈ xs, Sp.scn (false, false) y = some (false, false)) : Sp.scn (false, false) (Sp.joinC xs) = some (false, false) := by
 have hr : ∀ ys : List Sp.By, (∀ y ∈ ys, Sp.scn (false, false) y = some (false, false)) → Sp.scn (false, false) (Sp.joinR ys) = some (false, false) := by
  intro ys
  induction ys with
  | nil => intro _; rfl
  | cons y r ih =>
   intro hy
   rw [Sp.joinR, Sp.scn, stp_pl ⟨by decide, by decide, by decide⟩]
   simp only
   rw [scn_app _ _ _ _ (hy y (by simp))]
   exact ih fun y hh => hy y (by simp [hh])
 cases xs with
 | nil => rfl
 | cons y r =>
  rw [Sp.joinC, scn_app _ _ _ _ (h y (by simp))]
  exact hr r fun y hh => h y (by simp [hh])
theorem scn_wrap (a b : UInt8) (ha : Sp.pl a) (hb : Sp.pl b) (l : Sp.By) (h : Sp.scn (false, false) l = some (false, false)) : Sp.scn (false, false) (a :: (l ++ [b])) = some (false, false) := by
 rw [Sp.scn, stp_pl ha]
 simp only
 rw [scn_app _ _ _ _ h]
 exact scn_pl [b] (by intro c hc; rw [List.mem_singleton] at hc; subst hc; exact hb) false
theorem scn_can {d x : Int} (f : Nat) : ∀ (lv : Int) (v : Sp.V), Sp.gd d x f lv v → Sp.scn (false, false) (Sp.can f v) = some (false, false) := by
 induction f with
 | zero => intro lv v h; cases h
 | succ f ih =>
  intro lv v h
  obtain ⟨_, ⟨k, hk, rfl⟩ | ⟨s, _, rfl⟩ | ⟨n, hn, _, _, rfl⟩ | ⟨es, hes, rfl⟩ | ⟨es, hp, hes, rfl⟩⟩ := h
  ·rw [Sp.can_word]
   match k, hk with
   | 0, _ => rfl
   | 1, _ => rfl
   | 2, _ => rfl
  ·rw [Sp.can_str]; exact scn_quoT s
  ·rw [Sp.can_num]; exact scn_pl _ (numT_pl hn) false
  ·rw [Sp.can_arr]
   refine scn_wrap 91 93 ⟨by decide, by decide, by decide⟩ ⟨by decide, by decide, by decide⟩ _ (scn_join _ fun y hy => ?_)
   obtain ⟨e, he, rfl⟩ := List.mem_map.1 hy
   exact ih _ _ (hes e he)
  ·rw [obj_text hp fun p hpm => let ⟨⟨s, hs, _⟩, _⟩ := hes p hpm; ⟨s, hs⟩]
   refine scn_wrap 123 125 ⟨by decide, by decide, by decide⟩ ⟨by decide, by decide, by decide⟩ _ (scn_join _ fun y hy => ?_)
   obtain ⟨e, he, rfl⟩ := List.mem_map.1 hy
   unfold Sp.entT
   rw [scn_app _ _ _ _ (scn_quoT _), Sp.scn, stp_pl ⟨by decide, by decide, by decide⟩]
   exact ih _ _ (hes e he).2
def Sp.trB (l : Sp.By) : Nat := (l.reverse.takeWhile (· == 92)).length
theorem trB_snoc (l : Sp.By) (c : UInt8) : Sp.trB (l ++ [c]) = if c == 92 then Sp.trB l + 1 else 0 := by
 unfold Sp.trB
 rw [List.reverse_append, List.reverse_cons, List.reverse_nil, List.nil_append, List.cons_append, List.nil_append, List.takeWhile_cons]
 split
 ·rfl
 ·rfl
theorem scn_next (l : Sp.By) (st : Bool × Bool) (h : Sp.scn (false, false) l = some (false, false)) (i : Nat) (hi : i < l.length) (hs : Sp.scn (false, false) (l.take i) = some st) :
  ∃ st', Sp.stp st l[i] = some st' ∧ Sp.scn (false, false) (l.take (i + 1)) = some st' := by
 have e1 : Sp.scn (false, false) (l.take i ++ l.drop i) = Sp.scn st (l.drop i) := scn_app _ _ _ _ hs
 rw [List.take_append_drop, h, List.drop_eq_getElem_cons hi, Sp.scn] at e1
 cases hst : Sp.stp st l[i] with
 | none => rw [hst] at e1; cases e1
 | some st' =>
  refine ⟨st', rfl, ?_⟩
  rw [List.take_succ_eq_append_getElem hi, scn_app _ _ _ _ hs, Sp.scn, hst]
  rfl
theorem scn_odd (l : Sp.By) (h : Sp.scn (false, false) l = some (false, false)) : ∀ (i : Nat) (st : Bool × Bool), i ≤ l.length → Sp.scn (false, false) (l.take i) = some st → st.2 = decide (Sp.trB (l.take i) % 2 = 1) := by
 intro i
 induction i with
 | zero => intro st _ hs; rw [List.take_zero] at hs ⊢; injection hs with hs; subst hs; rfl
 | succ i ih =>
  intro st hi hs
  have hlt : i < l.length := by omega
  cases hp : Sp.scn (false, false) (l.take i) with
  | none =>
   have : Sp.scn (false, false) l = none := by
    have hn : ∀ (a b : Sp.By) (s0 : Bool × Bool), Sp.scn s0 a = none → Sp.scn s0 (a ++ b) = none := by
     intro a b
     induction a with
     | nil => intro s0 h; cases h
     | cons c r ihr =>
      intro s0 h
      rw [Sp.scn] at h
      rw [List.cons_append, Sp.scn]
      cases hc : Sp.stp s0 c with
      | none => rfl
      | some s1 => rw [hc] at h; exact ihr s1 h
    have := hn _ (l.drop i) _ hp
    rwa [List.take_append_drop] at this
   rw [this] at h; cases h
  | some st0 =>
   obtain ⟨st', h1, h2⟩ := scn_next l st0 h i hlt hp
   rw [h2] at hs
   injection hs with hs
   subst hs
   have h0 := ih st0 (by omega) hp
   rw [List.take_succ_eq_append_getElem hlt, trB_snoc]
   have h3 : st'.2 = (l[i] == 92 && !st0.2) := by
    unfold Sp.stp at h1
    simp only at h1
    generalize (if (l[i] == 34 && !st0.2) = true then !st0.1 else st0.1) = ins at h1
    split at h1
    ·cases h1
    ·injection h1 with h1; rw [← h1]
   rw [h3, h0]
   split
   ·rename_i hc
    rw [hc, Bool.true_and, Bool.eq_iff_iff]
    simp
    omega
   ·rename_i hc
    have : (l[i] == 92) = false := by simpa using hc
    rw [this]; rfl
end Go.Proofs.YtdpomdelmdofmaaGreatDoor

namespace Go.Proofs.YtdpomdelmdofmaaGreatDoor
open Go.RowKit
def RS (w : World) (R : Nat) (t : ByteArray) : Prop := w.cell? ⟨R, 0, none⟩ = some (.string t)
set_option maxHeartbeats 400000 in
theorem rIs_any {w : World} {R : Nat} {t : ByteArray} {p : Nat} {l : Sp.By} (h : RS w R t) (ha : At t p l) (u : UInt8) (c : Int) (hc : c = u.toNat) :
  Calls Tryz.prog 126 #[.pointer (some ⟨R, 0, none⟩), .int .i64 p, .int .u8 c] w fun e w' => e = .returned (.bool (Sp.tk l u)) ∧ w' = w := by
 have c0 : w.cell? ⟨R, 0, none⟩ = some (.string t) := h
 clear h
 cases l with
 | nil =>
  have hp := ha.nil
  have e1 : ¬ p < t.size := by omega
  clear ha hp hc
  go_enter Tryz.func126, Tryz.ntmps126
  go_wp2_with (fail)
  go_ret
  exact ⟨rfl, rfl⟩
 | cons d l =>
  have hlt := ha.lt
  have e1 : decide ((p : Int) < (t.size : Int)) = true := by simp; omega
  have e2 : ((t[p].toNat : Int) == c) = Sp.tk (d :: l) u := by
   rw [ha.byte, hc, tk_hd, ofNat_beq, Bool.eq_iff_iff]
   simp
   exact Int.ofNat_inj
  have HE := hide e2
  clear ha hc e2
  go_enter Tryz.func126, Tryz.ntmps126
  go_wp2_with (fail)
  rw [← unhide HE]
  go_ret
  exact ⟨rfl, rfl⟩
theorem isB_byte (b : UInt8) : Sp.isB b = ((((b.toNat : Int) == 32) || ((b.toNat : Int) == 9)) || ((b.toNat : Int) == 10) || ((b.toNat : Int) == 13)) := by
 unfold Sp.isB
 rw [ofNat_beq, ofNat_beq, ofNat_beq, ofNat_beq, Bool.eq_iff_iff]
 simp
 omega
set_option maxHeartbeats 4000000 in
theorem rOver_any {w : World} {R : Nat} {t : ByteArray} {p : Nat} {l : Sp.By} (h : RS w R t) (ha : At t p l) :
  Calls Tryz.prog 92 #[.pointer (some ⟨R, 0, none⟩), .int .i64 p] w fun e w' => (∃ q : Nat, e = .returned (.int .i64 q) ∧ At t q (Sp.skB l)) ∧ w' = w := by
 have c0 : w.cell? ⟨R, 0, none⟩ = some (.string t) := h
 have HA := hide ha
 clear h ha
 go_enter Tryz.func92, Tryz.ntmps92
 go_wp2_with (fail)
 go_loopw [1] (fun i wr => ∃ (q : Nat) (l' : Sp.By), i = .int .i64 q ∧ At t q l' ∧ Sp.skB l = Sp.skB l' ∧ wr = w) (fun i _ => t.size - (intOf i).toNat)
 case atStart => exact ⟨p, l, rfl, unhide HA, rfl, rfl⟩
 case round =>
  obtain ⟨q, l', rfl, hat, hsk, rfl⟩ := hrel
  have HS := hide hsk
  have HQ := hide hat
  cases l' with
  | nil =>
   have hp := hat.nil
   have e1 : ¬ q < t.size := by omega
   clear hat hsk hp
   go_wp2_with (fail)
   go_ret
   exact ⟨⟨q, rfl, by rw [unhide HS]; exact unhide HQ⟩, rfl⟩
  | cons d l' =>
   have hlt := hat.lt
   have e1 : decide ((q : Int) < (t.size : Int)) = true := by simp; omega
   have hd := isB_byte d
   have hby : t[q]'hlt = d := hat.byte
   have hsz := hat.small
   cases hb : Sp.isB d with
   | false =>
    rw [hb] at hd
    simp only [Bool.false_eq, Bool.or_eq_false_iff] at hd
    rw [← hby] at hd
    obtain ⟨⟨⟨b1, b2⟩, b3⟩, b4⟩ := hd
    have HB := hide hb
    clear hat hsk hby hb
    go_wp2_with (fail)
    go_ret
    exact ⟨⟨q, rfl, by rw [unhide HS, Sp.skB, if_neg (by rw [unhide HB]; decide)]; exact unhide HQ⟩, rfl⟩
   | true =>
    rw [hb] at hd
    have HB := hide hb
    have hfin : (∃ (q' : Nat) (l2 : Sp.By), Value.int .i64 ((q : Int) + 1) = .int .i64 q' ∧ At t q' l2 ∧ Sp.skB l = Sp.skB l2 ∧ True) ∧ t.size - (intOf (.int .i64 ((q : Int) + 1))).toNat < t.size - (intOf (.int .i64 (q : Int))).toNat :=
     ⟨⟨q + 1, l', by go_num, hat.next, by rw [hsk, Sp.skB, if_pos hb], trivial⟩, by simp [intOf]; omega⟩
    have HFIN := hide hfin
    have h4 : d.toNat = 32 ∨ d.toNat = 9 ∨ d.toNat = 10 ∨ d.toNat = 13 := by
     simp at hd
     omega
    rw [← hby] at h4
    clear hat hsk hby hb hd hfin
    rcases h4 with h4 | h4 | h4 | h4
    ·have b1 : ((t[q].toNat : Int) == 32) = true := by rw [h4]; rfl
     clear h4
     go_wp2_with (fail)
     exact unhide HFIN
    ·have b1 : ((t[q].toNat : Int) == 32) = false := by rw [h4]; rfl
     have b2 : ((t[q].toNat : Int) == 9) = true := by rw [h4]; rfl
     clear h4
     go_wp2_with (fail)
     exact unhide HFIN
    ·have b1 : ((t[q].toNat : Int) == 32) = false := by rw [h4]; rfl
     have b2 : ((t[q].toNat : Int) == 9) = false := by rw [h4]; rfl
     have b3 : ((t[q].toNat : Int) == 10) = true := by rw [h4]; rfl
     clear h4
     go_wp2_with (fail)
     exact unhide HFIN
    ·have b1 : ((t[q].toNat : Int) == 32) = false := by rw [h4]; rfl
     have b2 : ((t[q].toNat : Int) == 9) = false := by rw [h4]; rfl
     have b3 : ((t[q].toNat : Int) == 10) = false := by rw [h4]; rfl
     have b4 : ((t[q].toNat : Int) == 13) = true := by rw [h4]; rfl
     clear h4
     go_wp2_with (fail)
     exact unhide HFIN
def Sp.dgH (l : Sp.By) : Bool := match l with
 | [] => false
 | c :: _ => Sp.isD c
theorem isD_iff (c : UInt8) : Sp.isD c = true ↔ 48 ≤ c.toNat ∧ c.toNat ≤ 57 := by
 unfold Sp.isD; simp
set_option maxHeartbeats 400000 in
theorem rDigit_any {w : World} {R : Nat} {t : ByteArray} {p : Nat} {l : Sp.By} (h : RS w R t) (ha : At t p l) :
  Calls Tryz.prog 125 #[.pointer (some ⟨R, 0, none⟩), .int .i64 p] w fun e w' => e = .returned (.bool (Sp.dgH l)) ∧ w' = w := by
 have c0 : w.cell? ⟨R, 0, none⟩ = some (.string t) := h
 clear h
 cases l with
 | nil =>
  have hp := ha.nil
  have e1 : ¬ p < t.size := by omega
  clear ha hp
  go_enter Tryz.func125, Tryz.ntmps125
  go_wp2_with (fail)
  go_ret
  exact ⟨rfl, rfl⟩
 | cons d l =>
  have hlt := ha.lt
  have hby : t[p]'hlt = d := ha.byte
  have hd := isD_iff d
  rw [← hby] at hd
  have HD : Hid (Sp.dgH (d :: l) = Sp.isD (t[p]'hlt)) := by rw [hby]; rfl
  clear ha hby
  cases hb : Sp.isD (t[p]'hlt) with
  | true =>
   obtain ⟨h1, h2⟩ := hd.1 hb
   have f1 : (48 : Int) ≤ (t[p].toNat : Int) := by omega
   have f2 : (t[p].toNat : Int) ≤ 57 := by omega
   have HB := hide hb
   clear hd hb
   go_enter Tryz.func125, Tryz.ntmps125
   go_wp2_with (fail)
   go_ret
   exact ⟨by rw [unhide HD, unhide HB]; rfl, rfl⟩
  | false =>
   have h3 : ¬ (48 ≤ t[p].toNat ∧ t[p].toNat ≤ 57) := fun k => by rw [hd.2 k] at hb; cases hb
   have HB := hide hb
   by_cases h1 : 48 ≤ t[p].toNat
   ·have h2 : decide ((t[p].toNat : Int) ≤ 57) = false := by
     have : ¬ t[p].toNat ≤ 57 := fun k => h3 ⟨h1, k⟩
     simp; omega
    clear hd hb h3
    go_enter Tryz.func125, Tryz.ntmps125
    go_wp2_with (fail)
    go_ret
    exact ⟨by rw [unhide HD, unhide HB]; rfl, rfl⟩
   ·clear hd hb h3
    go_enter Tryz.func125, Tryz.ntmps125
    go_wp2_with (fail)
    go_ret
    exact ⟨by rw [unhide HD, unhide HB]; rfl, rfl⟩
set_option maxHeartbeats 2000000 in
theorem rDigits_any {w : World} {R : Nat} {t : ByteArray} {p : Nat} {l : Sp.By} (h : RS w R t) (ha : At t p l) :
  Calls Tryz.prog 170 #[.pointer (some ⟨R, 0, none⟩), .int .i64 p] w fun e w' => e = .returned (.int .i64 ((p + (Sp.dg l).length : Nat) : Int)) ∧ w' = w := by
 have HS := hide h
 have HA := hide ha
 clear h ha
 go_enter Tryz.func170, Tryz.ntmps170
 go_wp2_with (fail)
 refine (rDigit_any (unhide HS) (unhide HA)).mono ?_
 rintro e w' ⟨rfl, rfl⟩
 go_wp2_with (fail)
 go_loopw [1, 5] (fun i m wr => ∃ (q : Nat) (l' : Sp.By), i = .int .i64 q ∧ m = .bool (Sp.dgH l') ∧ At t q l' ∧ p + (Sp.dg l).length = q + (Sp.dg l').length ∧ wr = w') (fun i _ _ => t.size - (intOf i).toNat)
 case atStart => exact ⟨p, l, rfl, rfl, unhide HA, rfl, rfl⟩
 case round =>
  obtain ⟨q, l', rfl, rfl, hat, hsk, rfl⟩ := hrel
  have HSK := hide hsk
  have HQ := hide hat
  cases l' with
  | nil =>
   have e1 : Sp.dgH [] = false := rfl
   clear hat hsk
   go_wp2_with (fail)
   go_ret
   exact ⟨by rw [unhide HSK]; rfl, rfl⟩
  | cons d l' =>
   have hlt := hat.lt
   have hsz := hat.small
   cases hb : Sp.dgH (d :: l') with
   | false =>
    have HB := hide hb
    clear hat hsk hb
    go_wp2_with (fail)
    go_ret
    refine ⟨?_, rfl⟩
    rw [unhide HSK, Sp.dg, if_neg (by rw [show Sp.isD d = Sp.dgH (d :: l') from rfl, unhide HB]; decide)]
    rfl
   | true =>
    have HB := hide hb
    clear hat hsk hb
    go_wp2_with (fail)
    refine (rDigit_any (unhide HS) (At.next (unhide HQ))).mono ?_
    rintro e w2 ⟨rfl, rfl⟩
    go_wp2_with (fail)
    exact ⟨⟨q + 1, l', by go_num, rfl, (unhide HQ).next, by
     rw [unhide HSK, Sp.dg, if_pos (by rw [show Sp.isD d = Sp.dgH (d :: l') from rfl]; exact unhide HB), List.length_cons]; omega, trivial⟩, by simp [intOf]; omega⟩
end Go.Proofs.YtdpomdelmdofmaaGreatDoor

namespace Go.Proofs.YtdpomdelmdofmaaGreatDoor
open Go.RowKit
def Sp.cnt : Nat → Nat → Sp.By → Option Nat
 | 0, v, _ => some v
 | _ + 1, _, [] => none
 | k + 1, v, c :: r => if 128 ≤ c.toNat ∧ c.toNat < 192 then Sp.cnt k (64 * v + c.toNat - 128) r else none
def Sp.lead (c : Nat) : Nat × Nat :=
 if 240 ≤ c ∧ c < 248 then (4, c - 240) else if 224 ≤ c ∧ c < 240 then (3, c - 224) else if 192 ≤ c ∧ c < 224 then (2, c - 192) else if 128 ≤ c then (0, 0) else (1, c)
def Sp.least (n : Nat) : Nat := if n = 2 then 128 else if n = 3 then 2048 else if n = 4 then 65536 else 0
def Sp.sca (l : Sp.By) : Nat × Nat := match l with
 | [] => (0, 0)
 | c :: r => if (Sp.lead c.toNat).1 = 0 ∨ r.length + 1 < (Sp.lead c.toNat).1 then (0, 0) else match Sp.cnt ((Sp.lead c.toNat).1 - 1) (Sp.lead c.toNat).2 r with
  | none => (0, 0)
  | some v => if v < Sp.least (Sp.lead c.toNat).1 ∨ 1114111 < v ∨ (55296 ≤ v ∧ v < 57344) then (0, 0) else (v, (Sp.lead c.toNat).1)
def Sp.bad (l : Sp.By) : Prop := l = [] ∨ ((Sp.dec l).1 = 65533 ∧ (Sp.dec l).2 < 2)
def DecEq (s d : Nat × Nat) : Prop := ((d.1 = 65533 ∧ d.2 < 2) ∧ s = (0, 0)) ∨ (¬ (d.1 = 65533 ∧ d.2 < 2) ∧ s = d)
theorem lead_one {c : Nat} (h : c < 128) : Sp.lead c = (1, c) := by unfold Sp.lead; rw [if_neg (by omega), if_neg (by omega), if_neg (by omega), if_neg (by omega)]
theorem lead_two {c : Nat} (h : 192 ≤ c ∧ c < 224) : Sp.lead c = (2, c - 192) := by unfold Sp.lead; rw [if_neg (by omega), if_neg (by omega), if_pos h]
theorem lead_three {c : Nat} (h : 224 ≤ c ∧ c < 240) : Sp.lead c = (3, c - 224) := by unfold Sp.lead; rw [if_neg (by omega), if_pos h]
theorem lead_four {c : Nat} (h : 240 ≤ c ∧ c < 248) : Sp.lead c = (4, c - 240) := by unfold Sp.lead; rw [if_pos h]
theorem lead_no {c : Nat} (h : (128 ≤ c ∧ c < 192) ∨ 248 ≤ c) : Sp.lead c = (0, 0) := by unfold Sp.lead; rw [if_neg (by omega), if_neg (by omega), if_neg (by omega), if_pos (by omega)]
theorem sca_one {a : UInt8} {r : Sp.By} (h : a.toNat < 128) : Sp.sca (a :: r) = (a.toNat, 1) := by
 simp [Sp.sca, lead_one h, Sp.cnt, Sp.least]
 omega
theorem sca_no {a : UInt8} {r : Sp.By} (h : (128 ≤ a.toNat ∧ a.toNat < 192) ∨ 248 ≤ a.toNat) : Sp.sca (a :: r) = (0, 0) := by
 simp [Sp.sca, lead_no h]
theorem sca_short {a : UInt8} {r : Sp.By} (h : r.length + 1 < (Sp.lead a.toNat).1) : Sp.sca (a :: r) = (0, 0) := by
 unfold Sp.sca
 simp only
 rw [if_pos (Or.inr h)]
theorem dec_two {n a b c d : Nat} (h : 192 ≤ a ∧ a < 224) (hb : b < 256) (hn : 1 < n) : DecEq (if 128 ≤ b ∧ b < 192 then (if 64 * (a - 192) + b - 128 < 128 then (0, 0) else (64 * (a - 192) + b - 128, 2)) else (0, 0)) (Lib.decodeN n a b c d) := by
 unfold Lib.decodeN DecEq
 rw [if_neg (by omega)]
 repeat' split
 all_goals first | (exfalso; omega) | (simp only [Prod.mk.injEq, and_true]; (try dsimp only); omega) | (simp; done) | (simp; omega)
set_option maxHeartbeats 2000000 in
theorem dec_three {n a b c d : Nat} (h : 224 ≤ a ∧ a < 240) (hb : b < 256) (hc : c < 256) (hn : 2 < n) :
  DecEq (if (128 ≤ b ∧ b < 192) ∧ (128 ≤ c ∧ c < 192) then (if 64 * (64 * (a - 224) + b - 128) + c - 128 < 2048 ∨ (55296 ≤ 64 * (64 * (a - 224) + b - 128) + c - 128 ∧ 64 * (64 * (a - 224) + b - 128) + c - 128 < 57344) then (0, 0) else (64 * (64 * (a - 224) + b - 128) + c - 128, 3)) else (0, 0)) (Lib.decodeN n a b c d) := by
 unfold Lib.decodeN DecEq
 rw [if_neg (by omega), if_neg (by omega)]
 repeat' split
 all_goals first | (exfalso; omega) | (simp only [Prod.mk.injEq, and_true]; (try dsimp only); omega) | (simp; done) | (simp; omega)
set_option maxHeartbeats 4000000 in
theorem dec_four {n a b c d : Nat} (h : 240 ≤ a ∧ a < 248) (hb : b < 256) (hc : c < 256) (hd : d < 256) (hn : 3 < n) :
  DecEq (if (128 ≤ b ∧ b < 192) ∧ (128 ≤ c ∧ c < 192) ∧ (128 ≤ d ∧ d < 192) then (if 64 * (64 * (64 * (a - 240) + b - 128) + c - 128) + d - 128 < 65536 ∨ 1114111 < 64 * (64 * (64 * (a - 240) + b - 128) + c - 128) + d - 128 then (0, 0) else (64 * (64 * (64 * (a - 240) + b - 128) + c - 128) + d - 128, 4)) else (0, 0)) (Lib.decodeN n a b c d) := by
 unfold Lib.decodeN DecEq
 rw [if_neg (by omega), if_neg (by omega), if_neg (by omega)]
 repeat' split
 all_goals first | (exfalso; omega) | (simp only [Prod.mk.injEq, and_true]; (try dsimp only); omega) | (simp; done) | (simp; omega)
theorem sca_two {a b : UInt8} {r : Sp.By} (h : 192 ≤ a.toNat ∧ a.toNat < 224) : Sp.sca (a :: b :: r) = (if 128 ≤ b.toNat ∧ b.toNat < 192 then (if 64 * (a.toNat - 192) + b.toNat - 128 < 128 then (0, 0) else (64 * (a.toNat - 192) + b.toNat - 128, 2)) else (0, 0)) := by
 by_cases hb : 128 ≤ b.toNat ∧ b.toNat < 192
 ·by_cases hv : 64 * (a.toNat - 192) + b.toNat - 128 < 128
  ·simp [Sp.sca, lead_two h, Sp.cnt, Sp.least, hb, hv]
  ·have h2 : ¬ 1114111 < 64 * (a.toNat - 192) + b.toNat - 128 := by omega
   have h3 : ¬ 55296 ≤ 64 * (a.toNat - 192) + b.toNat - 128 := by omega
   simp [Sp.sca, lead_two h, Sp.cnt, Sp.least, hb, hv, h2, h3]
 ·simp [Sp.sca, lead_two h, Sp.cnt, hb]
theorem sca_three {a b c : UInt8} {r : Sp.By} (h : 224 ≤ a.toNat ∧ a.toNat < 240) : Sp.sca (a :: b :: c :: r) =
  (if (128 ≤ b.toNat ∧ b.toNat < 192) ∧ (128 ≤ c.toNat ∧ c.toNat < 192) then (if 64 * (64 * (a.toNat - 224) + b.toNat - 128) + c.toNat - 128 < 2048 ∨ (55296 ≤ 64 * (64 * (a.toNat - 224) + b.toNat - 128) + c.toNat - 128 ∧ 64 * (64 * (a.toNat - 224) + b.toNat - 128) + c.toNat - 128 < 57344) then (0, 0) else (64 * (64 * (a.toNat - 224) + b.toNat - 128) + c.toNat - 128, 3)) else (0, 0)) := by
 by_cases hb : 128 ≤ b.toNat ∧ b.toNat < 192
 ·by_cases hc : 128 ≤ c.toNat ∧ c.toNat < 192
  ·have h2 : ¬ 1114111 < 64 * (64 * (a.toNat - 224) + b.toNat - 128) + c.toNat - 128 := by omega
   simp [Sp.sca, lead_three h, Sp.cnt, Sp.least, hb, hc, h2]
   omega
  ·simp [Sp.sca, lead_three h, Sp.cnt, hb, hc]
 ·simp [Sp.sca, lead_three h, Sp.cnt, hb]
theorem sca_four {a b c d : UInt8} {r : Sp.By} (h : 240 ≤ a.toNat ∧ a.toNat < 248) : Sp.sca (a :: b :: c :: d :: r) =
  (if (128 ≤ b.toNat ∧ b.toNat < 192) ∧ (128 ≤ c.toNat ∧ c.toNat < 192) ∧ (128 ≤ d.toNat ∧ d.toNat < 192) then (if 64 * (64 * (64 * (a.toNat - 240) + b.toNat - 128) + c.toNat - 128) + d.toNat - 128 < 65536 ∨ 1114111 < 64 * (64 * (64 * (a.toNat - 240) + b.toNat - 128) + c.toNat - 128) + d.toNat - 128 then (0, 0) else (64 * (64 * (64 * (a.toNat - 240) + b.toNat - 128) + c.toNat - 128) + d.toNat - 128, 4)) else (0, 0)) := by
 by_cases hb : 128 ≤ b.toNat ∧ b.toNat < 192
 ·by_cases hc : 128 ≤ c.toNat ∧ c.toNat < 192
  ·by_cases hd : 128 ≤ d.toNat ∧ d.toNat < 192
   ·by_cases hv : 64 * (64 * (64 * (a.toNat - 240) + b.toNat - 128) + c.toNat - 128) + d.toNat - 128 < 65536
    ·simp [Sp.sca, lead_four h, Sp.cnt, Sp.least, hb, hc, hd, hv]
    ·have h3 : ¬ 64 * (64 * (64 * (a.toNat - 240) + b.toNat - 128) + c.toNat - 128) + d.toNat - 128 < 57344 := by omega
     simp [Sp.sca, lead_four h, Sp.cnt, Sp.least, hb, hc, hd, hv, h3]
     omega
   ·simp [Sp.sca, lead_four h, Sp.cnt, hb, hc, hd]
  ·simp [Sp.sca, lead_four h, Sp.cnt, hb, hc]
 ·simp [Sp.sca, lead_four h, Sp.cnt, hb]
theorem dec_err {n a b c d : Nat} (h : (128 ≤ a ∧ a < 192) ∨ 248 ≤ a ∨ (192 ≤ a ∧ n < 2) ∨ (224 ≤ a ∧ n < 3) ∨ (240 ≤ a ∧ n < 4)) (ha : a < 256) : Lib.decodeN n a b c d = (65533, 1) := by
 unfold Lib.decodeN
 rw [if_neg (by omega), if_neg (by omega), if_neg (by omega), if_neg (by omega)]
theorem dec_low {n a b c d : Nat} (h : a < 128) : Lib.decodeN n a b c d = (a, 1) := by
 unfold Lib.decodeN
 rw [if_pos h]
theorem decEq_err : DecEq (0, 0) (65533, 1) := Or.inl ⟨⟨rfl, by decide⟩, rfl⟩
theorem sca_eq (a : UInt8) (r : Sp.By) : DecEq (Sp.sca (a :: r)) (Sp.dec (a :: r)) := by
 have ha := a.toNat_lt
 rw [dec_list _ (by simp)]
 simp only [List.getD_cons_zero, List.getD_cons_succ, List.length_cons]
 by_cases h1 : a.toNat < 128
 ·rw [sca_one h1, dec_low h1]
  exact Or.inr ⟨by simp only; omega, rfl⟩
 ·by_cases h2 : (128 ≤ a.toNat ∧ a.toNat < 192) ∨ 248 ≤ a.toNat
  ·rw [sca_no h2, dec_err (by omega) (by omega)]
   exact decEq_err
  ·by_cases h3 : r.length + 1 < (Sp.lead a.toNat).1
   ·rw [sca_short h3]
    by_cases c2 : a.toNat < 224
    ·rw [lead_two (by omega)] at h3
     rw [dec_err (by omega) (by omega)]; exact decEq_err
    ·by_cases c3 : a.toNat < 240
     ·rw [lead_three (by omega)] at h3
      rw [dec_err (by omega) (by omega)]; exact decEq_err
     ·rw [lead_four (by omega)] at h3
      rw [dec_err (by omega) (by omega)]; exact decEq_err
   ·by_cases c2 : a.toNat < 224
    ·rw [lead_two (by omega)] at h3
     match r, h3 with
     | b :: r, _ =>
      rw [sca_two (by omega)]
      exact dec_two (by omega) (UInt8.toNat_lt _) (by simp)
     | [], h3 => simp at h3
    ·by_cases c3 : a.toNat < 240
     ·rw [lead_three (by omega)] at h3
      match r, h3 with
      | b :: c :: r, _ =>
       rw [sca_three (by omega)]
       exact dec_three (by omega) (UInt8.toNat_lt _) (UInt8.toNat_lt _) (by simp)
      | [_], h3 => simp at h3
      | [], h3 => simp at h3
     ·rw [lead_four (by omega)] at h3
      match r, h3 with
      | b :: c :: d :: r, _ =>
       rw [sca_four (by omega)]
       exact dec_four (by omega) (UInt8.toNat_lt _) (UInt8.toNat_lt _) (UInt8.toNat_lt _) (by simp)
      | [_, _], h3 => simp at h3
      | [_], h3 => simp at h3
      | [], h3 => simp at h3
end Go.Proofs.YtdpomdelmdofmaaGreatDoor
