/-
  Plain facts on the functions of Sp: a canonical text has no blank outside of its strings, no byte below 32, and each string ends.
-/
import Derived.Test.YtdpomdelmdofmaaGreatDoorPart16
namespace Go.Proofs.YtdpomdelmdofmaaGreatDoor
def Sp.stp (st : Bool × Bool) (c : UInt8) : Option (Bool × Bool) :=
 let ins := if c == 34 && !st.2 then !st.1 else st.1
 if c.toNat < 32 ∨ (c.toNat = 32 ∧ ins = false) then none else some (ins, c == 92 && !st.2)
def Sp.scn : Bool × Bool → Sp.By → Option (Bool × Bool)
 | st, [] => some st
 | st, c :: r => match Sp.stp st c with
  | none => none
  | some st' => Sp.scn st' r
theorem scn_app (a b : Sp.By) : ∀ (st st' : Bool × Bool), Sp.scn st a = some st' → Sp.scn st (a ++ b) = Sp.scn st' b := by
 induction a with
 | nil => intro st st' h; injection h with h; subst h; rfl
 | cons c r ih =>
  intro st st' h
  unfold Sp.scn at h
  rw [List.cons_append]
  rw [Sp.scn]
  cases hs : Sp.stp st c with
  | none => rw [hs] at h; cases h
  | some st1 => rw [hs] at h; exact ih _ _ h
theorem ofNat_beq (c k : UInt8) : (c == k) = decide (c.toNat = k.toNat) := by
 rw [Bool.eq_iff_iff, beq_iff_eq, decide_eq_true_eq]
 exact ⟨fun h => by rw [h], fun h => UInt8.toNat_inj.1 h⟩
def Sp.pl (c : UInt8) : Prop := 33 ≤ c.toNat ∧ c.toNat ≠ 34 ∧ c.toNat ≠ 92
theorem stp_pl {c : UInt8} (h : Sp.pl c) (o : Bool) (i : Bool) : Sp.stp (i, o) c = some (i, false) := by
 obtain ⟨h1, h2, h3⟩ := h
 unfold Sp.stp
 have e1 : (c == 34) = false := by rw [ofNat_beq]; simpa using h2
 have e2 : (c == 92) = false := by rw [ofNat_beq]; simpa using h3
 simp only [e1, e2, Bool.false_and]
 rw [if_neg (by omega)]
 rfl
theorem scn_pl (l : Sp.By) (h : ∀ c ∈ l, Sp.pl c) (i : Bool) : Sp.scn (i, false) l = some (i, false) := by
 induction l with
 | nil => rfl
 | cons c r ih =>
  rw [Sp.scn, stp_pl (h c (by simp))]
  exact ih fun c hc => h c (by simp [hc])
theorem hexc_pl : ∀ n : Fin 16, 33 ≤ (Sp.hexc n.val).toNat ∧ (Sp.hexc n.val).toNat ≠ 34 ∧ (Sp.hexc n.val).toNat ≠ 92 := by decide
theorem scn_escB (c : UInt8) : Sp.scn (true, false) (Sp.escB c) = some (true, false) := by
 unfold Sp.escB
 split
 ·rename_i h
  rcases h with h | h
  ·obtain rfl : c = 34 := UInt8.toNat_inj.1 h
   rfl
  ·obtain rfl : c = 92 := UInt8.toNat_inj.1 h
   rfl
 ·rename_i h
  split
  ·rename_i h2
   have e : Sp.scn (true, false) ([92, 117, 48, 48] ++ [Sp.hexc (c.toNat / 16), Sp.hexc (c.toNat % 16)]) = Sp.scn (true, false) [Sp.hexc (c.toNat / 16), Sp.hexc (c.toNat % 16)] := scn_app _ _ _ _ rfl
   rw [show [92, 117, 48, 48, Sp.hexc (c.toNat / 16), Sp.hexc (c.toNat % 16)] = [92, 117, 48, 48] ++ [Sp.hexc (c.toNat / 16), Sp.hexc (c.toNat % 16)] from rfl, e]
   apply scn_pl
   intro x hx
   simp only [List.mem_cons, List.not_mem_nil, or_false] at hx
   rcases hx with rfl | rfl
   ·exact hexc_pl ⟨c.toNat / 16, by omega⟩
   ·exact hexc_pl ⟨c.toNat % 16, by omega⟩
  ·rename_i h2
   rw [Sp.scn]
   have e1 : (c == 34) = false := by rw [ofNat_beq]; simp; omega
   have e2 : (c == 92) = false := by rw [ofNat_beq]; simp; omega
   unfold Sp.stp
   simp only [e1, e2, Bool.false_and]
   rw [if_neg (by simp; omega)]
   rfl
theorem scn_escS (s : Sp.By) : Sp.scn (true, false) (Sp.escS s) = some (true, false) := by
 induction s with
 | nil => rfl
 | cons c r ih => rw [Sp.escS, scn_app _ _ _ _ (scn_escB c), ih]
theorem scn_quoT (s : Sp.By) : Sp.scn (false, false) (Sp.quoT s) = some (false, false) := by
 unfold Sp.quoT
 rw [Sp.scn, show Sp.stp (false, false) 34 = some (true, false) from rfl]
 simp only
 rw [scn_app _ _ _ _ (scn_escS s)]
 rfl
theorem digit_pl {c : UInt8} (h : Sp.isD c = true) : Sp.pl c := by
 unfold Sp.isD at h
 simp at h
 exact ⟨by omega, by omega, by omega⟩
theorem itoa_pl (e : Int) : ∀ c ∈ Lib.itoa e, Sp.pl c := by
 unfold Lib.itoa
 split
 ·intro c hc
  rcases List.mem_cons.1 hc with rfl | hc
  ·exact ⟨by decide, by decide, by decide⟩
  ·exact digit_pl (decD_all _ c hc)
 ·intro c hc; exact digit_pl (decD_all _ c hc)
theorem numT_pl {n : Sp.Nm} (h : Sp.Gn n) : ∀ c ∈ Sp.numT n, Sp.pl c := by
 rcases h with rfl | ⟨hne, hd, _⟩
 ·intro c hc
  have : c = 48 := by simpa [Sp.numT] using hc
  subst this
  exact ⟨by decide, by decide, by decide⟩
 ·unfold Sp.numT
  rw [if_neg hne]
  intro c hc
  rcases List.mem_append.1 hc with hc | hc
  ·split at hc
   ·rw [List.mem_singleton] at hc; subst hc; exact ⟨by decide, by decide, by decide⟩
   ·cases hc
  ·rcases List.mem_append.1 hc with hc | hc
   ·exact digit_pl (hd c hc)
   ·split at hc
    ·cases hc
    ·rcases List.mem_cons.1 hc with rfl | hc
     ·exact ⟨by decide, by decide, by decide⟩
     ·exact itoa_pl _ c hc
theorem scn_join (xs : List Sp.By) (h : ∀ y ∈ xs, Sp.scn (false, false) y = some (false, false)) : Sp.scn (false, false) (Sp.joinC xs) = some (false, false) := by
 have hr : ∀ ys : List Sp.By, (∀ y ∈ ys, Sp.scn (false, false) y = some (false, false)) → Sp.scn (false, false) (Sp.joinR ys) = some (false, false) := by
  intro ys
  induction ys with
  | nil => intro _; rfl
  | cons y r ih =>
   intro hy
   rw [Sp.joinR, Sp.scn, stp_pl ⟨by decide, by decide, by decide⟩]
   simp only
   rw [scn_app _ _ _ _ (hy y (by simp))]
   exact ih fun y hh => hy y (by simp [hh])
 cases xs with
 | nil => rfl
 | cons y r =>
  rw [Sp.joinC, scn_app _ _ _ _ (h y (by simp))]
  exact hr r fun y hh => h y (by simp [hh])
theorem scn_wrap (a b : UInt8) (ha : Sp.pl a) (hb : Sp.pl b) (l : Sp.By) (h : Sp.scn (false, false) l = some (false, false)) : Sp.scn (false, false) (a :: (l ++ [b])) = some (false, false) := by
 rw [Sp.scn, stp_pl ha]
 simp only
 rw [scn_app _ _ _ _ h]
 exact scn_pl [b] (by intro c hc; rw [List.mem_singleton] at hc; subst hc; exact hb) false
theorem scn_can {d x : Int} (f : Nat) : ∀ (lv : Int) (v : Sp.V), Sp.gd d x f lv v → Sp.scn (false, false) (Sp.can f v) = some (false, false) := by
 induction f with
 | zero => intro lv v h; cases h
 | succ f ih =>
  intro lv v h
  obtain ⟨_, ⟨k, hk, rfl⟩ | ⟨s, _, rfl⟩ | ⟨n, hn, _, _, rfl⟩ | ⟨es, hes, rfl⟩ | ⟨es, hp, hes, rfl⟩⟩ := h
  ·rw [Sp.can_word]
   match k, hk with
   | 0, _ => rfl
   | 1, _ => rfl
   | 2, _ => rfl
  ·rw [Sp.can_str]; exact scn_quoT s
  ·rw [Sp.can_num]; exact scn_pl _ (numT_pl hn) false
  ·rw [Sp.can_arr]
   refine scn_wrap 91 93 ⟨by decide, by decide, by decide⟩ ⟨by decide, by decide, by decide⟩ _ (scn_join _ fun y hy => ?_)
   obtain ⟨e, he, rfl⟩ := List.mem_map.1 hy
   exact ih _ _ (hes e he)
  ·rw [obj_text hp fun p hpm => let ⟨⟨s, hs, _⟩, _⟩ := hes p hpm; ⟨s, hs⟩]
   refine scn_wrap 123 125 ⟨by decide, by decide, by decide⟩ ⟨by decide, by decide, by decide⟩ _ (scn_join _ fun y hy => ?_)
   obtain ⟨e, he, rfl⟩ := List.mem_map.1 hy
   unfold Sp.entT
   rw [scn_app _ _ _ _ (scn_quoT _), Sp.scn, stp_pl ⟨by decide, by decide, by decide⟩]
   exact ih _ _ (hes e he).2
def Sp.trB (l : Sp.By) : Nat := (l.reverse.takeWhile (· == 92)).length
theorem trB_snoc (l : Sp.By) (c : UInt8) : Sp.trB (l ++ [c]) = if c == 92 then Sp.trB l + 1 else 0 := by
 unfold Sp.trB
 rw [List.reverse_append, List.reverse_cons, List.reverse_nil, List.nil_append, List.cons_append, List.nil_append, List.takeWhile_cons]
 split
 ·rfl
 ·rfl
theorem scn_next (l : Sp.By) (st : Bool × Bool) (h : Sp.scn (false, false) l = some (false, false)) (i : Nat) (hi : i < l.length) (hs : Sp.scn (false, false) (l.take i) = some st) :
  ∃ st', Sp.stp st l[i] = some st' ∧ Sp.scn (false, false) (l.take (i + 1)) = some st' := by
 have e1 : Sp.scn (false, false) (l.take i ++ l.drop i) = Sp.scn st (l.drop i) := scn_app _ _ _ _ hs
 rw [List.take_append_drop, h, List.drop_eq_getElem_cons hi, Sp.scn] at e1
 cases hst : Sp.stp st l[i] with
 | none => rw [hst] at e1; cases e1
 | some st' =>
  refine ⟨st', rfl, ?_⟩
  rw [List.take_succ_eq_append_getElem hi, scn_app _ _ _ _ hs, Sp.scn, hst]
  rfl
theorem scn_odd (l : Sp.By) (h : Sp.scn (false, false) l = some (false, false)) : ∀ (i : Nat) (st : Bool × Bool), i ≤ l.length → Sp.scn (false, false) (l.take i) = some st → st.2 = decide (Sp.trB (l.take i) % 2 = 1) := by
 intro i
 induction i with
 | zero => intro st _ hs; rw [List.take_zero] at hs ⊢; injection hs with hs; subst hs; rfl
 | succ i ih =>
  intro st hi hs
  have hlt : i < l.length := by omega
  cases hp : Sp.scn (false, false) (l.take i) with
  | none =>
   have : Sp.scn (false, false) l = none := by
    have hn : ∀ (a b : Sp.By) (s0 : Bool × Bool), Sp.scn s0 a = none → Sp.scn s0 (a ++ b) = none := by
     intro a b
     induction a with
     | nil => intro s0 h; cases h
     | cons c r ihr =>
      intro s0 h
      rw [Sp.scn] at h
      rw [List.cons_append, Sp.scn]
      cases hc : Sp.stp s0 c with
      | none => rfl
      | some s1 => rw [hc] at h; exact ihr s1 h
    have := hn _ (l.drop i) _ hp
    rwa [List.take_append_drop] at this
   rw [this] at h; cases h
  | some st0 =>
   obtain ⟨st', h1, h2⟩ := scn_next l st0 h i hlt hp
   rw [h2] at hs
   injection hs with hs
   subst hs
   have h0 := ih st0 (by omega) hp
   rw [List.take_succ_eq_append_getElem hlt, trB_snoc]
   have h3 : st'.2 = (l[i] == 92 && !st0.2) := by
    unfold Sp.stp at h1
    simp only at h1
    generalize (if (l[i] == 34 && !st0.2) = true then !st0.1 else st0.1) = ins at h1
    split at h1
    ·cases h1
    ·injection h1 with h1; rw [← h1]
   rw [h3, h0]
   split
   ·rename_i hc
    rw [hc, Bool.true_and, Bool.eq_iff_iff]
    simp
    omega
   ·rename_i hc
    have : (l[i] == 92) = false := by simpa using hc
    rw [this]; rfl
end Go.Proofs.YtdpomdelmdofmaaGreatDoor

namespace Go.Proofs.YtdpomdelmdofmaaGreatDoor
open Go.RowKit
def RS (w : World) (R : Nat) (t : ByteArray) : Prop := w.cell? ⟨R, 0, none⟩ = some (.string t)
set_option maxHeartbeats 400000 in
theorem rIs_any {w : World} {R : Nat} {t : ByteArray} {p : Nat} {l : Sp.By} (h : RS w R t) (ha : At t p l) (u : UInt8) (c : Int) (hc : c = u.toNat) :
  Calls Tryz.prog 126 #[.pointer (some ⟨R, 0, none⟩), .int .i64 p, .int .u8 c] w fun e w' => e = .returned (.bool (Sp.tk l u)) ∧ w' = w := by
 have c0 : w.cell? ⟨R, 0, none⟩ = some (.string t) := h
 clear h
 cases l with
 | nil =>
  have hp := ha.nil
  have e1 : ¬ p < t.size := by omega
  clear ha hp hc
  go_enter Tryz.func126, Tryz.ntmps126
  go_wp2_with (fail)
  go_ret
  exact ⟨rfl, rfl⟩
 | cons d l =>
  have hlt := ha.lt
  have e1 : decide ((p : Int) < (t.size : Int)) = true := by simp; omega
  have e2 : ((t[p].toNat : Int) == c) = Sp.tk (d :: l) u := by
   rw [ha.byte, hc, tk_hd, ofNat_beq, Bool.eq_iff_iff]
   simp
   exact Int.ofNat_inj
  have HE := hide e2
  clear ha hc e2
  go_enter Tryz.func126, Tryz.ntmps126
  go_wp2_with (fail)
  rw [← unhide HE]
  go_ret
  exact ⟨rfl, rfl⟩
theorem isB_byte (b : UInt8) : Sp.isB b = ((((b.toNat : Int) == 32) || ((b.toNat : Int) == 9)) || ((b.toNat : Int) == 10) || ((b.toNat : Int) == 13)) := by
 unfold Sp.isB
 rw [ofNat_beq, ofNat_beq, ofNat_beq, ofNat_beq, Bool.eq_iff_iff]
 simp
 omega
set_option maxHeartbeats 4000000 in
theorem rOver_any {w : World} {R : Nat} {t : ByteArray} {p : Nat} {l : Sp.By} (h : RS w R t) (ha : At t p l) :
  Calls Tryz.prog 92 #[.pointer (some ⟨R, 0, none⟩), .int .i64 p] w fun e w' => (∃ q : Nat, e = .returned (.int .i64 q) ∧ At t q (Sp.skB l)) ∧ w' = w := by
 have c0 : w.cell? ⟨R, 0, none⟩ = some (.string t) := h
 have HA := hide ha
 clear h ha
 go_enter Tryz.func92, Tryz.ntmps92
 go_wp2_with (fail)
 go_loopw [1] (fun i wr => ∃ (q : Nat) (l' : Sp.By), i = .int .i64 q ∧ At t q l' ∧ Sp.skB l = Sp.skB l' ∧ wr = w) (fun i _ => t.size - (intOf i).toNat)
 case atStart => exact ⟨p, l, rfl, unhide HA, rfl, rfl⟩
 case round =>
  obtain ⟨q, l', rfl, hat, hsk, rfl⟩ := hrel
  have HS := hide hsk
  have HQ := hide hat
  cases l' with
  | nil =>
   have hp := hat.nil
   have e1 : ¬ q < t.size := by omega
   clear hat hsk hp
   go_wp2_with (fail)
   go_ret
   exact ⟨⟨q, rfl, by rw [unhide HS]; exact unhide HQ⟩, rfl⟩
  | cons d l' =>
   have hlt := hat.lt
   have e1 : decide ((q : Int) < (t.size : Int)) = true := by simp; omega
   have hd := isB_byte d
   have hby : t[q]'hlt = d := hat.byte
   have hsz := hat.small
   cases hb : Sp.isB d with
   | false =>
    rw [hb] at hd
    simp only [Bool.false_eq, Bool.or_eq_false_iff] at hd
    rw [← hby] at hd
    obtain ⟨⟨⟨b1, b2⟩, b3⟩, b4⟩ := hd
    have HB := hide hb
    clear hat hsk hby hb
    go_wp2_with (fail)
    go_ret
    exact ⟨⟨q, rfl, by rw [unhide HS, Sp.skB, if_neg (by rw [unhide HB]; decide)]; exact unhide HQ⟩, rfl⟩
   | true =>
    rw [hb] at hd
    have HB := hide hb
    have hfin : (∃ (q' : Nat) (l2 : Sp.By), Value.int .i64 ((q : Int) + 1) = .int .i64 q' ∧ At t q' l2 ∧ Sp.skB l = Sp.skB l2 ∧ True) ∧ t.size - (intOf (.int .i64 ((q : Int) + 1))).toNat < t.size - (intOf (.int .i64 (q : Int))).toNat :=
     ⟨⟨q + 1, l', by go_num, hat.next, by rw [hsk, Sp.skB, if_pos hb], trivial⟩, by simp [intOf]; omega⟩
    have HFIN := hide hfin
    have h4 : d.toNat = 32 ∨ d.toNat = 9 ∨ d.toNat = 10 ∨ d.toNat = 13 := by
     simp at hd
     omega
    rw [← hby] at h4
    clear hat hsk hby hb hd hfin
    rcases h4 with h4 | h4 | h4 | h4
    ·have b1 : ((t[q].toNat : Int) == 32) = true := by rw [h4]; rfl
     clear h4
     go_wp2_with (fail)
     exact unhide HFIN
    ·have b1 : ((t[q].toNat : Int) == 32) = false := by rw [h4]; rfl
     have b2 : ((t[q].toNat : Int) == 9) = true := by rw [h4]; rfl
     clear h4
     go_wp2_with (fail)
     exact unhide HFIN
    ·have b1 : ((t[q].toNat : Int) == 32) = false := by rw [h4]; rfl
     have b2 : ((t[q].toNat : Int) == 9) = false := by rw [h4]; rfl
     have b3 : ((t[q].toNat : Int) == 10) = true := by rw [h4]; rfl
     clear h4
     go_wp2_with (fail)
     exact unhide HFIN
    ·have b1 : ((t[q].toNat : Int) == 32) = false := by rw [h4]; rfl
     have b2 : ((t[q].toNat : Int) == 9) = false := by rw [h4]; rfl
     have b3 : ((t[q].toNat : Int) == 10) = false := by rw [h4]; rfl
     have b4 : ((t[q].toNat : Int) == 13) = true := by rw [h4]; rfl
     clear h4
     go_wp2_with (fail)
     exact unhide HFIN
def Sp.dgH (l : Sp.By) : Bool := match l with
 | [] => false
 | c :: _ => Sp.isD c
theorem isD_iff (c : UInt8) : Sp.isD c = true ↔ 48 ≤ c.toNat ∧ c.toNat ≤ 57 := by
 unfold Sp.isD; simp
set_option maxHeartbeats 400000 in
theorem rDigit_any {w : World} {R : Nat} {t : ByteArray} {p : Nat} {l : Sp.By} (h : RS w R t) (ha : At t p l) :
  Calls Tryz.prog 125 #[.pointer (some ⟨R, 0, none⟩), .int .i64 p] w fun e w' => e = .returned (.bool (Sp.dgH l)) ∧ w' = w := by
 have c0 : w.cell? ⟨R, 0, none⟩ = some (.string t) := h
 clear h
 cases l with
 | nil =>
  have hp := ha.nil
  have e1 : ¬ p < t.size := by omega
  clear ha hp
  go_enter Tryz.func125, Tryz.ntmps125
  go_wp2_with (fail)
  go_ret
  exact ⟨rfl, rfl⟩
 | cons d l =>
  have hlt := ha.lt
  have hby : t[p]'hlt = d := ha.byte
  have hd := isD_iff d
  rw [← hby] at hd
  have HD : Hid (Sp.dgH (d :: l) = Sp.isD (t[p]'hlt)) := by rw [hby]; rfl
  clear ha hby
  cases hb : Sp.isD (t[p]'hlt) with
  | true =>
   obtain ⟨h1, h2⟩ := hd.1 hb
   have f1 : (48 : Int) ≤ (t[p].toNat : Int) := by omega
   have f2 : (t[p].toNat : Int) ≤ 57 := by omega
   have HB := hide hb
   clear hd hb
   go_enter Tryz.func125, Tryz.ntmps125
   go_wp2_with (fail)
   go_ret
   exact ⟨by rw [unhide HD, unhide HB]; rfl, rfl⟩
  | false =>
   have h3 : ¬ (48 ≤ t[p].toNat ∧ t[p].toNat ≤ 57) := fun k => by rw [hd.2 k] at hb; cases hb
   have HB := hide hb
   by_cases h1 : 48 ≤ t[p].toNat
   ·have h2 : decide ((t[p].toNat : Int) ≤ 57) = false := by
     have : ¬ t[p].toNat ≤ 57 := fun k => h3 ⟨h1, k⟩
     simp; omega
    clear hd hb h3
    go_enter Tryz.func125, Tryz.ntmps125
    go_wp2_with (fail)
    go_ret
    exact ⟨by rw [unhide HD, unhide HB]; rfl, rfl⟩
   ·clear hd hb h3
    go_enter Tryz.func125, Tryz.ntmps125
    go_wp2_with (fail)
    go_ret
    exact ⟨by rw [unhide HD, unhide HB]; rfl, rfl⟩
set_option maxHeartbeats 2000000 in
theorem rDigits_any {w : World} {R : Nat} {t : ByteArray} {p : Nat} {l : Sp.By} (h : RS w R t) (ha : At t p l) :
  Calls Tryz.prog 170 #[.pointer (some ⟨R, 0, none⟩), .int .i64 p] w fun e w' => e = .returned (.int .i64 ((p + (Sp.dg l).length : Nat) : Int)) ∧ w' = w := by
 have HS := hide h
 have HA := hide ha
 clear h ha
 go_enter Tryz.func170, Tryz.ntmps170
 go_wp2_with (fail)
 refine (rDigit_any (unhide HS) (unhide HA)).mono ?_
 rintro e w' ⟨rfl, rfl⟩
 go_wp2_with (fail)
 go_loopw [1, 5] (fun i m wr => ∃ (q : Nat) (l' : Sp.By), i = .int .i64 q ∧ m = .bool (Sp.dgH l') ∧ At t q l' ∧ p + (Sp.dg l).length = q + (Sp.dg l').length ∧ wr = w') (fun i _ _ => t.size - (intOf i).toNat)
 case atStart => exact ⟨p, l, rfl, rfl, unhide HA, rfl, rfl⟩
 case round =>
  obtain ⟨q, l', rfl, rfl, hat, hsk, rfl⟩ := hrel
  have HSK := hide hsk
  have HQ := hide hat
  cases l' with
  | nil =>
   have e1 : Sp.dgH [] = false := rfl
   clear hat hsk
   go_wp2_with (fail)
   go_ret
   exact ⟨by rw [unhide HSK]; rfl, rfl⟩
  | cons d l' =>
   have hlt := hat.lt
   have hsz := hat.small
   cases hb : Sp.dgH (d :: l') with
   | false =>
    have HB := hide hb
    clear hat hsk hb
    go_wp2_with (fail)
    go_ret
    refine ⟨?_, rfl⟩
    rw [unhide HSK, Sp.dg, if_neg (by rw [show Sp.isD d = Sp.dgH (d :: l') from rfl, unhide HB]; decide)]
    rfl
   | true =>
    have HB := hide hb
    clear hat hsk hb
    go_wp2_with (fail)
    refine (rDigit_any (unhide HS) (At.next (unhide HQ))).mono ?_
    rintro e w2 ⟨rfl, rfl⟩
    go_wp2_with (fail)
    exact ⟨⟨q + 1, l', by go_num, rfl, (unhide HQ).next, by
     rw [unhide HSK, Sp.dg, if_pos (by rw [show Sp.isD d = Sp.dgH (d :: l') from rfl]; exact unhide HB), List.length_cons]; omega, trivial⟩, by simp [intOf]; omega⟩
end Go.Proofs.YtdpomdelmdofmaaGreatDoor

namespace Go.Proofs.YtdpomdelmdofmaaGreatDoor
open Go.RowKit
def Sp.cnt : Nat → Nat → Sp.By → Option Nat
 | 0, v, _ => some v
 | _ + 1, _, [] => none
 | k + 1, v, c :: r => if 128 ≤ c.toNat ∧ c.toNat < 192 then Sp.cnt k (64 * v + c.toNat - 128) r else none
def Sp.lead (c : Nat) : Nat × Nat :=
 if 240 ≤ c ∧ c < 248 then (4, c - 240) else if 224 ≤ c ∧ c < 240 then (3, c - 224) else if 192 ≤ c ∧ c < 224 then (2, c - 192) else if 128 ≤ c then (0, 0) else (1, c)
def Sp.least (n : Nat) : Nat := if n = 2 then 128 else if n = 3 then 2048 else if n = 4 then 65536 else 0
def Sp.sca (l : Sp.By) : Nat × Nat := match l with
 | [] => (0, 0)
 | c :: r => if (Sp.lead c.toNat).1 = 0 ∨ r.length + 1 < (Sp.lead c.toNat).1 then (0, 0) else match Sp.cnt ((Sp.lead c.toNat).1 - 1) (Sp.lead c.toNat).2 r with
  | none => (0, 0)
  | some v => if v < Sp.least (Sp.lead c.toNat).1 ∨ 1114111 < v ∨ (55296 ≤ v ∧ v < 57344) then (0, 0) else (v, (Sp.lead c.toNat).1)
def Sp.bad (l : Sp.By) : Prop := l = [] ∨ ((Sp.dec l).1 = 65533 ∧ (Sp.dec l).2 < 2)
def DecEq (s d : Nat × Nat) : Prop := ((d.1 = 65533 ∧ d.2 < 2) ∧ s = (0, 0)) ∨ (¬ (d.1 = 65533 ∧ d.2 < 2) ∧ s = d)
theorem lead_one {c : Nat} (h : c < 128) : Sp.lead c = (1, c) := by unfold Sp.lead; rw [if_neg (by omega), if_neg (by omega), if_neg (by omega), if_neg (by omega)]
theorem lead_two {c : Nat} (h : 192 ≤ c ∧ c < 224) : Sp.lead c = (2, c - 192) := by unfold Sp.lead; rw [if_neg (by omega), if_neg (by omega), if_pos h]
theorem lead_three {c : Nat} (h : 224 ≤ c ∧ c < 240) : Sp.lead c = (3, c - 224) := by unfold Sp.lead; rw [if_neg (by omega), if_pos h]
theorem lead_four {c : Nat} (h : 240 ≤ c ∧ c < 248) : Sp.lead c = (4, c - 240) := by unfold Sp.lead; rw [if_pos h]
theorem lead_no {c : Nat} (h : (128 ≤ c ∧ c < 192) ∨ 248 ≤ c) : Sp.lead c = (0, 0) := by unfold Sp.lead; rw [if_neg (by omega), if_neg (by omega), if_neg (by omega), if_pos (by omega)]
theorem sca_one {a : UInt8} {r : Sp.By} (h : a.toNat < 128) : Sp.sca (a :: r) = (a.toNat, 1) := by
 simp [Sp.sca, lead_one h, Sp.cnt, Sp.least]
 omega
theorem sca_no {a : UInt8} {r : Sp.By} (h : (128 ≤ a.toNat ∧ a.toNat < 192) ∨ 248 ≤ a.toNat) : Sp.sca (a :: r) = (0, 0) := by
 simp [Sp.sca, lead_no h]
theorem sca_short {a : UInt8} {r : Sp.By} (h : r.length + 1 < (Sp.lead a.toNat).1) : Sp.sca (a :: r) = (0, 0) := by
 unfold Sp.sca
 simp only
 rw [if_pos (Or.inr h)]
theorem dec_two {n a b c d : Nat} (h : 192 ≤ a ∧ a < 224) (hb : b < 256) (hn : 1 < n) : DecEq (if 128 ≤ b ∧ b < 192 then (if 64 * (a - 192) + b - 128 < 128 then (0, 0) else (64 * (a - 192) + b - 128, 2)) else (0, 0)) (Lib.decodeN n a b c d) := by
 unfold Lib.decodeN DecEq
 rw [if_neg (by omega)]
 repeat' split
 all_goals first | (exfalso; omega) | (simp only [Prod.mk.injEq, and_true]; (try dsimp only); omega) | (simp; done) | (simp; omega)
set_option maxHeartbeats 2000000 in
theorem dec_three {n a b c d : Nat} (h : 224 ≤ a ∧ a < 240) (hb : b < 256) (hc : c < 256) (hn : 2 < n) :
  DecEq (if (128 ≤ b ∧ b < 192) ∧ (128 ≤ c ∧ c < 192) then (if 64 * (64 * (a - 224) + b - 128) + c - 128 < 2048 ∨ (55296 ≤ 64 * (64 * (a - 224) + b - 128) + c - 128 ∧ 64 * (64 * (a - 224) + b - 128) + c - 128 < 57344) then (0, 0) else (64 * (64 * (a - 224) + b - 128) + c - 128, 3)) else (0, 0)) (Lib.decodeN n a b c d) := by
 unfold Lib.decodeN DecEq
 rw [if_neg (by omega), if_neg (by omega)]
 repeat' split
 all_goals first | (exfalso; omega) | (simp only [Prod.mk.injEq, and_true]; (try dsimp only); omega) | (simp; done) | (simp; omega)
set_option maxHeartbeats 4000000 in
theorem dec_four {n a b c d : Nat} (h : 240 ≤ a ∧ a < 248) (hb : b < 256) (hc : c < 256) (hd : d < 256) (hn : 3 < n) :
  DecEq (if (128 ≤ b ∧ b < 192) ∧ (128 ≤ c ∧ c < 192) ∧ (128 ≤ d ∧ d < 192) then (if 64 * (64 * (64 * (a - 240) + b - 128) + c - 128) + d - 128 < 65536 ∨ 1114111 < 64 * (64 * (64 * (a - 240) + b - 128) + c - 128) + d - 128 then (0, 0) else (64 * (64 * (64 * (a - 240) + b - 128) + c - 128) + d - 128, 4)) else (0, 0)) (Lib.decodeN n a b c d) := by
 unfold Lib.decodeN DecEq
 rw [if_neg (by omega), if_neg (by omega), if_neg (by omega)]
 repeat' split
 all_goals first | (exfalso; omega) | (simp only [Prod.mk.injEq, and_true]; (try dsimp only); omega) | (simp; done) | (simp; omega)
theorem sca_two {a b : UInt8} {r : Sp.By} (h : 192 ≤ a.toNat ∧ a.toNat < 224) : Sp.sca (a :: b :: r) = (if 128 ≤ b.toNat ∧ b.toNat < 192 then (if 64 * (a.toNat - 192) + b.toNat - 128 < 128 then (0, 0) else (64 * (a.toNat - 192) + b.toNat - 128, 2)) else (0, 0)) := by
 by_cases hb : 128 ≤ b.toNat ∧ b.toNat < 192
 ·by_cases hv : 64 * (a.toNat - 192) + b.toNat - 128 < 128
  ·simp [Sp.sca, lead_two h, Sp.cnt, Sp.least, hb, hv]
  ·have h2 : ¬ 1114111 < 64 * (a.toNat - 192) + b.toNat - 128 := by omega
   have h3 : ¬ 55296 ≤ 64 * (a.toNat - 192) + b.toNat - 128 := by omega
   simp [Sp.sca, lead_two h, Sp.cnt, Sp.least, hb, hv, h2, h3]
 ·simp [Sp.sca, lead_two h, Sp.cnt, hb]
theorem sca_three {a b c : UInt8} {r : Sp.By} (h : 224 ≤ a.toNat ∧ a.toNat < 240) : Sp.sca (a :: b :: c :: r) =
  (if (128 ≤ b.toNat ∧ b.toNat < 192) ∧ (128 ≤ c.toNat ∧ c.toNat < 192) then (if 64 * (64 * (a.toNat - 224) + b.toNat - 128) + c.toNat - 128 < 2048 ∨ (55296 ≤ 64 * (64 * (a.toNat - 224) + b.toNat - 128) + c.toNat - 128 ∧ 64 * (64 * (a.toNat - 224) + b.toNat - 128) + c.toNat - 128 < 57344) then (0, 0) else (64 * (64 * (a.toNat - 224) + b.toNat - 128) + c.toNat - 128, 3)) else (0, 0)) := by
 by_cases hb : 128 ≤ b.toNat ∧ b.toNat < 192
 ·by_cases hc : 128 ≤ c.toNat ∧ c.toNat < 192
  ·have h2 : ¬ 1114111 < 64 * (64 * (a.toNat - 224) + b.toNat - 128) + c.toNat - 128 := by omega
   simp [Sp.sca, lead_three h, Sp.cnt, Sp.least, hb, hc, h2]
   omega
  ·simp [Sp.sca, lead_three h, Sp.cnt, hb, hc]
 ·simp [Sp.sca, lead_three h, Sp.cnt, hb]
theorem sca_four {a b c d : UInt8} {r : Sp.By} (h : 240 ≤ a.toNat ∧ a.toNat < 248) : Sp.sca (a :: b :: c :: d :: r) =
  (if (128 ≤ b.toNat ∧ b.toNat < 192) ∧ (128 ≤ c.toNat ∧ c.toNat < 192) ∧ (128 ≤ d.toNat ∧ d.toNat < 192) then (if 64 * (64 * (64 * (a.toNat - 240) + b.toNat - 128) + c.toNat - 128) + d.toNat - 128 < 65536 ∨ 1114111 < 64 * (64 * (64 * (a.toNat - 240) + b.toNat - 128) + c.toNat - 128) + d.toNat - 128 then (0, 0) else (64 * (64 * (64 * (a.toNat - 240) + b.toNat - 128) + c.toNat - 128) + d.toNat - 128, 4)) else (0, 0)) := by
 by_cases hb : 128 ≤ b.toNat ∧ b.toNat < 192
 ·by_cases hc : 128 ≤ c.toNat ∧ c.toNat < 192
  ·by_cases hd : 128 ≤ d.toNat ∧ d.toNat < 192
   ·by_cases hv : 64 * (64 * (64 * (a.toNat - 240) + b.toNat - 128) + c.toNat - 128) + d.toNat - 128 < 65536
    ·simp [Sp.sca, lead_four h, Sp.cnt, Sp.least, hb, hc, hd, hv]
    ·have h3 : ¬ 64 * (64 * (64 * (a.toNat - 240) + b.toNat - 128) + c.toNat - 128) + d.toNat - 128 < 57344 := by omega
     simp [Sp.sca, lead_four h, Sp.cnt, Sp.least, hb, hc, hd, hv, h3]
     omega
   ·simp [Sp.sca, lead_four h, Sp.cnt, hb, hc, hd]
  ·simp [Sp.sca, lead_four h, Sp.cnt, hb, hc]
 ·simp [Sp.sca, lead_four h, Sp.cnt, hb]
theorem dec_err {n a b c d : Nat} (h : (128 ≤ a ∧ a < 192) ∨ 248 ≤ a ∨ (192 ≤ a ∧ n < 2) ∨ (224 ≤ a ∧ n < 3) ∨ (240 ≤ a ∧ n < 4)) (ha : a < 256) : Lib.decodeN n a b c d = (65533, 1) := by
 unfold Lib.decodeN
 rw [if_neg (by omega), if_neg (by omega), if_neg (by omega), if_neg (by omega)]
theorem dec_low {n a b c d : Nat} (h : a < 128) : Lib.decodeN n a b c d = (a, 1) := by
 unfold Lib.decodeN
 rw [if_pos h]
theorem decEq_err : DecEq (0, 0) (65533, 1) := Or.inl ⟨⟨rfl, by decide⟩, rfl⟩
theorem sca_eq (a : UInt8) (r : Sp.By) : DecEq (Sp.sca (a :: r)) (Sp.dec (a :: r)) := by
 have ha := a.toNat_lt
 rw [dec_list _ (by simp)]
 simp only [List.getD_cons_zero, List.getD_cons_succ, List.length_cons]
 by_cases h1 : a.toNat < 128
 ·rw [sca_one h1, dec_low h1]
  exact Or.inr ⟨by simp only; omega, rfl⟩
 ·by_cases h2 : (128 ≤ a.toNat ∧ a.toNat < 192) ∨ 248 ≤ a.toNat
  ·rw [sca_no h2, dec_err (by omega) (by omega)]
   exact decEq_err
  ·by_cases h3 : r.length + 1 < (Sp.lead a.toNat).1
   ·rw [sca_short h3]
    by_cases c2 : a.toNat < 224
    ·rw [lead_two (by omega)] at h3
     rw [dec_err (by omega) (by omega)]; exact decEq_err
    ·by_cases c3 : a.toNat < 240
     ·rw [lead_three (by omega)] at h3
      rw [dec_err (by omega) (by omega)]; exact decEq_err
     ·rw [lead_four (by omega)] at h3
      rw [dec_err (by omega) (by omega)]; exact decEq_err
   ·by_cases c2 : a.toNat < 224
    ·rw [lead_two (by omega)] at h3
     match r, h3 with
     | b :: r, _ =>
      rw [sca_two (by omega)]
      exact dec_two (by omega) (UInt8.toNat_lt _) (by simp)
     | [], h3 => simp at h3
    ·by_cases c3 : a.toNat < 240
     ·rw [lead_three (by omega)] at h3
      match r, h3 with
      | b :: c :: r, _ =>
       rw [sca_three (by omega)]
       exact dec_three (by omega) (UInt8.toNat_lt _) (UInt8.toNat_lt _) (by simp)
      | [_], h3 => simp at h3
      | [], h3 => simp at h3
     ·rw [lead_four (by omega)] at h3
      match r, h3 with
      | b :: c :: d :: r, _ =>
       rw [sca_four (by omega)]
       exact dec_four (by omega) (UInt8.toNat_lt _) (UInt8.toNat_lt _) (UInt8.toNat_lt _) (by simp)
      | [_, _], h3 => simp at h3
      | [_], h3 => simp at h3
      | [], h3 => simp at h3
end Go.Proofs.YtdpomdelmdofmaaGreatDoor

namespace Go.Proofs.YtdpomdelmdofmaaGreatDoor
open Go.RowKit
theorem sca_long {a : UInt8} {r : Sp.By} {n v0 : Nat} (hl : Sp.lead a.toNat = (n, v0)) (h : ¬ (n = 0 ∨ r.length + 1 < n)) : Sp.sca (a :: r) = match Sp.cnt (n - 1) v0 r with
  | none => (0, 0)
  | some v => if v < Sp.least n ∨ 1114111 < v ∨ (55296 ≤ v ∧ v < 57344) then (0, 0) else (v, n) := by
 unfold Sp.sca
 simp only [hl]
 rw [if_neg h]
 all_goals (cases Sp.cnt (n - 1) v0 r <;> rfl)
theorem cnt_bad {k v : Nat} {c : UInt8} {r : Sp.By} (h : ¬ (128 ≤ c.toNat ∧ c.toNat < 192)) : Sp.cnt (k + 1) v (c :: r) = none := by
 rw [Sp.cnt, if_neg h]
theorem cnt_ok {k v : Nat} {c : UInt8} {r : Sp.By} (h : 128 ≤ c.toNat ∧ c.toNat < 192) : Sp.cnt (k + 1) v (c :: r) = Sp.cnt k (64 * v + c.toNat - 128) r := by
 rw [Sp.cnt, if_pos h]
theorem c_lt {x n : Nat} (h : x < n) : decide ((x : Int) < (n : Int)) = true := decide_eq_true (Int.ofNat_lt.2 h)
theorem c_nlt {x n : Nat} (h : ¬ x < n) : decide ((x : Int) < (n : Int)) = false := decide_eq_false (fun k => h (Int.ofNat_lt.1 k))
theorem c_y2t {x : Nat} (h : 1114111 < x) : decide ((1114111 : Int) < (x : Int)) = true := decide_eq_true (by omega)
theorem c_y2f {x : Nat} (h : ¬ 1114111 < x) : decide ((1114111 : Int) < (x : Int)) = false := decide_eq_false (by omega)
theorem c_y3t {x : Nat} (h : 55296 ≤ x) : decide ((55296 : Int) ≤ (x : Int)) = true := decide_eq_true (by omega)
theorem c_y3f {x : Nat} (h : ¬ 55296 ≤ x) : decide ((55296 : Int) ≤ (x : Int)) = false := decide_eq_false (by omega)
theorem c_y4t {x : Nat} (h : x < 57344) : decide ((x : Int) < 57344) = true := decide_eq_true (by omega)
theorem c_y4f {x : Nat} (h : ¬ x < 57344) : decide ((x : Int) < 57344) = false := decide_eq_false (by omega)
def bdn (n k : Nat) : Nat := (if n = 1 then 128 else if n = 2 then 32 else if n = 3 then 16 else 8) * 64 ^ (k - 1)
theorem bdn_next {n k x d : Nat} (hk : 1 ≤ k) (h : x < bdn n k) (hd : d < 192) : 64 * x + d - 128 < bdn n (k + 1) := by
 have e : bdn n (k + 1) = 64 * bdn n k := by
  unfold bdn
  rw [show k + 1 - 1 = (k - 1) + 1 by omega, Nat.pow_succ, ← Nat.mul_assoc, Nat.mul_comm]
 rw [e]
 omega
theorem bdn_le1 : bdn 1 1 ≤ 2097152 := by decide
theorem bdn_leq : ∀ n : Fin 5, ∀ k : Fin 5, k.val ≤ n.val → 1 ≤ n.val → bdn n.val k.val ≤ 2097152 := by decide
theorem bdn_le {n k : Nat} (h : k ≤ n) (hn : n ≤ 4 := by decide) (h1 : 1 ≤ n := by decide) : bdn n k ≤ 2097152 := bdn_leq ⟨n, by omega⟩ ⟨k, by omega⟩ h h1
def ScaEnd (l : Sp.By) (w : World) (e : Ending) (w' : World) : Prop := e = .returned (.tuple #[.int .i64 ((Sp.sca l).1 : Nat), .int .i64 ((Sp.sca l).2 : Nat)]) ∧ Below w.heap.size w w'
theorem ScaEnd.mk {l : Sp.By} {w w' : World} {a b : Int} (h : Sp.sca l = (a.toNat, b.toNat)) (ha : 0 ≤ a) (hb : 0 ≤ b) (hw : Below w.heap.size w w') : ScaEnd l w (.returned (.tuple #[.int .i64 a, .int .i64 b])) w' := by
 refine ⟨?_, hw⟩
 rw [h]
 simp only
 rw [Int.toNat_of_nonneg ha, Int.toNat_of_nonneg hb]
theorem bel_same {w w' : World} (e : w'.heap = w.heap := by rfl) (e1 : w'.os = w.os := by rfl) (e2 : w'.tape = w.tape := by rfl) (e3 : w'.output = w.output := by rfl) : Below w.heap.size w w' :=
 ⟨e1, e2, e3, by rw [e]; exact Nat.le_refl _, fun k _ => by rw [e]⟩
set_option maxHeartbeats 4000000 in
theorem rScalar_nil {t : ByteArray} {p : Nat} (ha : AtL t p []) (w : World) : Calls Tryz.prog 124 #[.string t, .int .i64 p] w fun e w' => ScaEnd [] w e w' := by
 have hp := ha.nil
 have e1 : t.size ≤ p := by omega
 clear ha hp
 go_enter Tryz.func124, Tryz.ntmps124
 go_wp2_with (fail)
 go_ret2
 exact ScaEnd.mk (a := 0) (b := 0) rfl (by omega) (by omega) bel_same
set_option maxHeartbeats 4000000 in
theorem rScalar_no {t : ByteArray} {p : Nat} {c : UInt8} {r : Sp.By} (ha : AtL t p (c :: r)) (hc : (128 ≤ c.toNat ∧ c.toNat < 192) ∨ 248 ≤ c.toNat) (w : World) :
  Calls Tryz.prog 124 #[.string t, .int .i64 p] w fun e w' => ScaEnd (c :: r) w e w' := by
 have hlt := ha.lt
 have hby : t[p]'hlt = c := ha.byte
 have HS := hide (sca_no (r := r) hc)
 rw [← hby] at hc
 have e1 : ¬ t.size ≤ p := by omega
 have hwr : wrap64 ((t[p]'hlt).toNat : Int) = ((t[p]'hlt).toNat : Int) := by unfold wrap64; have := (t[p]'hlt).toNat_lt; omega
 have f4 : decide ((128 : Int) ≤ (t[p].toNat : Int)) = true := by simp; omega
 clear ha hby
 rcases hc with ⟨h1, h2⟩ | h1
 ·have f1 : decide ((240 : Int) ≤ (t[p].toNat : Int)) = false := by simp; omega
  have f2 : decide ((224 : Int) ≤ (t[p].toNat : Int)) = false := by simp; omega
  have f3 : decide ((192 : Int) ≤ (t[p].toNat : Int)) = false := by simp; omega
  clear h1 h2
  go_enter Tryz.func124, Tryz.ntmps124
  go_wp2_with (fail)
  go_ret2
  exact ScaEnd.mk (a := 0) (b := 0) (unhide HS) (by omega) (by omega) bel_same
 ·have f1 : decide ((240 : Int) ≤ (t[p].toNat : Int)) = true := by simp; omega
  have f5 : decide ((t[p].toNat : Int) < 248) = false := by simp; omega
  have f2 : decide ((224 : Int) ≤ (t[p].toNat : Int)) = true := by simp; omega
  have f6 : decide ((t[p].toNat : Int) < 240) = false := by simp; omega
  have f3 : decide ((192 : Int) ≤ (t[p].toNat : Int)) = true := by simp; omega
  have f7 : decide ((t[p].toNat : Int) < 224) = false := by simp; omega
  clear h1
  go_enter Tryz.func124, Tryz.ntmps124
  go_wp2_with (fail)
  go_ret2
  exact ScaEnd.mk (a := 0) (b := 0) (unhide HS) (by omega) (by omega) bel_same
set_option maxRecDepth 100000 in
set_option maxHeartbeats 8000000 in
theorem rScalar_one {t : ByteArray} {p : Nat} {c : UInt8} {r : Sp.By} (ha : AtL t p (c :: r)) (hc : c.toNat < 128) (w : World) :
  Calls Tryz.prog 124 #[.string t, .int .i64 p] w fun e w' => ScaEnd (c :: r) w e w' := by
 have hlt := ha.lt
 have hby : t[p]'hlt = c := ha.byte
 have hlen := ha.len
 have hsm := ha.small
 have hlead := lead_one hc
 have e1 : ¬ t.size ≤ p := by omega
 have hwr : wrap64 ((t[p]'hlt).toNat : Int) = ((t[p]'hlt).toNat : Int) := by unfold wrap64; have := (t[p]'hlt).toNat_lt; omega
 have HBY := hide hby
 have hc0 := hc
 rw [← hby] at hc
 have f0 : decide ((240 : Int) ≤ (t[p].toNat : Int)) = false := by simp; omega
 have f1 : decide ((224 : Int) ≤ (t[p].toNat : Int)) = false := by simp; omega
 have f2 : decide ((192 : Int) ≤ (t[p].toNat : Int)) = false := by simp; omega
 have f3 : decide ((128 : Int) ≤ (t[p].toNat : Int)) = false := by simp; omega
 have hb8 : t[p].toNat < 256 := (t[p]'hlt).toNat_lt
 clear hby
 by_cases hs : r.length + 1 < 1
 ·have HS := hide (sca_short (a := c) (r := r) (by rw [hlead]; exact hs))
  have e2 : (t.size : Int) < (p : Int) + 1 := by simp at hlen; omega
  clear ha hlead hs hlen hc0
  go_enter Tryz.func124, Tryz.ntmps124
  go_wp2_with (fail)
  go_ret2
  exact ScaEnd.mk (a := 0) (b := 0) (unhide HS) (by omega) (by omega) bel_same
 ·have HS := hide (sca_long (r := r) hlead (by omega))
  have e2 : ¬ (t.size : Int) < (p : Int) + 1 := by simp at hlen; omega
  have HN := hide ha.next
  have hcc : c.toNat = t[p].toNat := by rw [unhide HBY]
  have HCC := hide hcc
  have HCR := hide hc0
  have HRL := hide hs
  clear ha hlead hs hlen hcc hc0
  go_enter Tryz.func124, Tryz.ntmps124
  go_wp2_with (fail)
  go_loopw [8, 9] (fun v i wr => ∃ (k x : Nat) (r' : Sp.By), 1 ≤ k ∧ k ≤ 1 ∧ i = .int .i64 k ∧ v = .int .i64 x ∧ AtL t (p + k) r' ∧ Sp.cnt (1 - 1) c.toNat r = Sp.cnt (1 - k) x r' ∧ x < bdn 1 k ∧ 1 - k ≤ r'.length ∧ wr = w) (fun _ i _ => 1 - (intOf i).toNat)
  case atStart =>
   have hcr := unhide HCR
   have hcc := unhide HCC
   have hrl := unhide HRL
   exact ⟨1, c.toNat, r, by omega, by omega, rfl, congrArg (Value.int .i64) (by omega), unhide HN, rfl, by rw [show bdn 1 1 = 128 by decide]; omega, by omega, rfl⟩
  case round =>
   obtain ⟨k, x, r', hk1, hk2, rfl, rfl, hat, hcnt, hxb, hrl, rfl⟩ := hrel
   have hx : x < 2097152 := Nat.lt_of_lt_of_le hxb (bdn_le hk2)
   by_cases hkn : k < 1
   ·omega
   ·obtain rfl : k = 1 := by omega
    have hsc : Sp.sca (c :: r) = if x < 0 ∨ 1114111 < x ∨ (55296 ≤ x ∧ x < 57344) then (0, 0) else (x, 1) := by
     rw [unhide HS, hcnt, Nat.sub_self]
     rfl
    have HSC := hide hsc
    have hba : Below wr.heap.size wr (wr.alloc (.cells #[.int .i64 0, .int .i64 0, .int .i64 128, .int .i64 2048, .int .i64 65536] 3)) := (Below.refl _ _).alloc (Nat.le_refl _) _
    have HBA := hide hba
    clear hat hcnt hrl hxb hsc hba e2 hwr f0 f1 f2 f3 hb8 e1 hc hkn
    by_cases y1 : x < 0
    ·exact absurd y1 (Nat.not_lt_zero _)
    ·have y1' : decide ((x : Int) < 0) = false := c_nlt y1
     by_cases y2 : 1114111 < x
     ·have y2' : decide ((1114111 : Int) < (x : Int)) = true := c_y2t y2
      go_wp2_with (fail)
      go_ret2
      exact ScaEnd.mk (a := 0) (b := 0) (by rw [unhide HSC, if_pos (Or.inr (Or.inl y2))]; rfl) (by omega) (by omega) (unhide HBA)
     ·have y2' : decide ((1114111 : Int) < (x : Int)) = false := c_y2f y2
      by_cases y3 : 55296 ≤ x
      ·have y3' : decide ((55296 : Int) ≤ (x : Int)) = true := c_y3t y3
       by_cases y4 : x < 57344
       ·have y4' : decide ((x : Int) < 57344) = true := c_y4t y4
        go_wp2_with (fail)
        go_ret2
        exact ScaEnd.mk (a := 0) (b := 0) (by rw [unhide HSC, if_pos (Or.inr (Or.inr ⟨y3, y4⟩))]; rfl) (by omega) (by omega) (unhide HBA)
       ·have y4' : decide ((x : Int) < 57344) = false := c_y4f y4
        go_wp2_with (fail)
        go_ret2
        exact ScaEnd.mk (a := (x : Nat)) (b := 1) (by rw [unhide HSC, if_neg (by omega)]; rfl) (by omega) (by omega) (unhide HBA)
      ·have y3' : decide ((55296 : Int) ≤ (x : Int)) = false := c_y3f y3
       go_wp2_with (fail)
       go_ret2
       exact ScaEnd.mk (a := (x : Nat)) (b := 1) (by rw [unhide HSC, if_neg (by omega)]; rfl) (by omega) (by omega) (unhide HBA)
set_option maxRecDepth 100000 in
set_option maxHeartbeats 8000000 in
theorem rScalar_two {t : ByteArray} {p : Nat} {c : UInt8} {r : Sp.By} (ha : AtL t p (c :: r)) (hc : 192 ≤ c.toNat ∧ c.toNat < 224) (w : World) :
  Calls Tryz.prog 124 #[.string t, .int .i64 p] w fun e w' => ScaEnd (c :: r) w e w' := by
 have hlt := ha.lt
 have hby : t[p]'hlt = c := ha.byte
 have hlen := ha.len
 have hsm := ha.small
 have hlead := lead_two hc
 have e1 : ¬ t.size ≤ p := by omega
 have hwr : wrap64 ((t[p]'hlt).toNat : Int) = ((t[p]'hlt).toNat : Int) := by unfold wrap64; have := (t[p]'hlt).toNat_lt; omega
 have HBY := hide hby
 have hc0 := hc
 rw [← hby] at hc
 have f0 : decide ((240 : Int) ≤ (t[p].toNat : Int)) = false := by simp; omega
 have f1 : decide ((224 : Int) ≤ (t[p].toNat : Int)) = false := by simp; omega
 have f2 : decide ((192 : Int) ≤ (t[p].toNat : Int)) = true := by simp; omega
 have f3 : decide ((t[p].toNat : Int) < 224) = true := by simp; omega
 have hb8 : t[p].toNat < 256 := (t[p]'hlt).toNat_lt
 clear hby
 by_cases hs : r.length + 1 < 2
 ·have HS := hide (sca_short (a := c) (r := r) (by rw [hlead]; exact hs))
  have e2 : (t.size : Int) < (p : Int) + 2 := by simp at hlen; omega
  clear ha hlead hs hlen hc0
  go_enter Tryz.func124, Tryz.ntmps124
  go_wp2_with (fail)
  go_ret2
  exact ScaEnd.mk (a := 0) (b := 0) (unhide HS) (by omega) (by omega) bel_same
 ·have HS := hide (sca_long (r := r) hlead (by omega))
  have e2 : ¬ (t.size : Int) < (p : Int) + 2 := by simp at hlen; omega
  have HN := hide ha.next
  have hcc : c.toNat = t[p].toNat := by rw [unhide HBY]
  have HCC := hide hcc
  have HCR := hide hc0
  have HRL := hide hs
  clear ha hlead hs hlen hcc hc0
  go_enter Tryz.func124, Tryz.ntmps124
  go_wp2_with (fail)
  go_loopw [8, 9] (fun v i wr => ∃ (k x : Nat) (r' : Sp.By), 1 ≤ k ∧ k ≤ 2 ∧ i = .int .i64 k ∧ v = .int .i64 x ∧ AtL t (p + k) r' ∧ Sp.cnt (2 - 1) (c.toNat - 192) r = Sp.cnt (2 - k) x r' ∧ x < bdn 2 k ∧ 2 - k ≤ r'.length ∧ wr = w) (fun _ i _ => 2 - (intOf i).toNat)
  case atStart =>
   have hcr := unhide HCR
   have hcc := unhide HCC
   have hrl := unhide HRL
   exact ⟨1, c.toNat - 192, r, by omega, by omega, rfl, congrArg (Value.int .i64) (by omega), unhide HN, rfl, by rw [show bdn 2 1 = 32 by decide]; omega, by omega, rfl⟩
  case round =>
   obtain ⟨k, x, r', hk1, hk2, rfl, rfl, hat, hcnt, hxb, hrl, rfl⟩ := hrel
   have hx : x < 2097152 := Nat.lt_of_lt_of_le hxb (bdn_le hk2)
   have HAT := hide hat
   have HCN := hide hcnt
   have HXB := hide hxb
   by_cases hkn : k < 2
   ·match r', hat, hcnt, hrl, HAT, HCN with
    | [], _, _, hrl, _, _ => exact absurd hrl (by simp only [List.length_nil]; omega)
    | d :: r'', hat, hcnt, hrl, HAT, HCN =>
     have hq := hat.lt
     obtain ⟨q, hqd⟩ : ∃ q, q = p + k := ⟨_, rfl⟩
     rw [← hqd] at hq
     have hqi : (p : Int) + (k : Int) = (q : Int) := by omega
     have hbq : t[q]'hq = d := by
      have := hat.byte
      simp only [← hqd] at this
      exact this
     have HBQ := hide hbq
     have HQD := hide hqd
     have hq8 : t[q].toNat < 256 := (t[q]'hq).toNat_lt
     have hwq : wrap64 ((t[q]'hq).toNat : Int) = ((t[q]'hq).toNat : Int) := by unfold wrap64; omega
     have HRL2 := hide hrl
     clear hat hcnt hrl hbq hqd hxb e2 hwr f0 f1 f2 f3 hb8 e1 hc
     by_cases g1 : t[q].toNat < 128
     ·have g1' : decide ((t[q].toNat : Int) < 128) = true := decide_eq_true (by exact_mod_cast g1)
      go_wp2_with (fail)
      go_ret2
      refine ScaEnd.mk (a := 0) (b := 0) ?_ (by omega) (by omega) bel_same
      rw [unhide HS, unhide HCN, show 2 - k = 2 - k - 1 + 1 by omega, cnt_bad (by rw [← unhide HBQ]; omega)]
      rfl
     ·have g1' : decide ((t[q].toNat : Int) < 128) = false := decide_eq_false (by exact_mod_cast g1)
      by_cases g2 : 192 ≤ t[q].toNat
      ·have g2' : decide ((192 : Int) ≤ (t[q].toNat : Int)) = true := decide_eq_true (by exact_mod_cast g2)
       go_wp2_with (fail)
       go_ret2
       refine ScaEnd.mk (a := 0) (b := 0) ?_ (by omega) (by omega) bel_same
       rw [unhide HS, unhide HCN, show 2 - k = 2 - k - 1 + 1 by omega, cnt_bad (by rw [← unhide HBQ]; omega)]
       rfl
      ·have g2' : decide ((192 : Int) ≤ (t[q].toNat : Int)) = false := decide_eq_false (by exact_mod_cast g2)
       go_wp2_with (fail)
       have hrl := unhide HRL2
       refine ⟨⟨k + 1, 64 * x + t[q].toNat - 128, r'', by omega, by omega, by go_num, ?_, (unhide HAT).next, ?_, bdn_next hk1 (unhide HXB) (by omega), by rw [List.length_cons] at hrl; omega, trivial⟩, by simp only [intOf]; omega⟩
       ·rw [show (64 * (x : Int) + (t[q].toNat : Int) - 128) = ((64 * x + t[q].toNat - 128 : Nat) : Int) by omega]
       ·rw [unhide HCN, show 2 - k = 2 - (k + 1) + 1 by omega, cnt_ok (by rw [← unhide HBQ]; omega), unhide HBQ]
   ·obtain rfl : k = 2 := by omega
    have hsc : Sp.sca (c :: r) = if x < 128 ∨ 1114111 < x ∨ (55296 ≤ x ∧ x < 57344) then (0, 0) else (x, 2) := by
     rw [unhide HS, hcnt, Nat.sub_self]
     rfl
    have HSC := hide hsc
    have hba : Below wr.heap.size wr (wr.alloc (.cells #[.int .i64 0, .int .i64 0, .int .i64 128, .int .i64 2048, .int .i64 65536] 3)) := (Below.refl _ _).alloc (Nat.le_refl _) _
    have HBA := hide hba
    clear hat hcnt hrl hxb hsc hba e2 hwr f0 f1 f2 f3 hb8 e1 hc hkn
    by_cases y1 : x < 128
    ·have y1' : decide ((x : Int) < 128) = true := c_lt y1
     go_wp2_with (fail)
     go_ret2
     exact ScaEnd.mk (a := 0) (b := 0) (by rw [unhide HSC, if_pos (Or.inl y1)]; rfl) (by omega) (by omega) (unhide HBA)
    ·have y1' : decide ((x : Int) < 128) = false := c_nlt y1
     by_cases y2 : 1114111 < x
     ·have y2' : decide ((1114111 : Int) < (x : Int)) = true := c_y2t y2
      go_wp2_with (fail)
      go_ret2
      exact ScaEnd.mk (a := 0) (b := 0) (by rw [unhide HSC, if_pos (Or.inr (Or.inl y2))]; rfl) (by omega) (by omega) (unhide HBA)
     ·have y2' : decide ((1114111 : Int) < (x : Int)) = false := c_y2f y2
      by_cases y3 : 55296 ≤ x
      ·have y3' : decide ((55296 : Int) ≤ (x : Int)) = true := c_y3t y3
       by_cases y4 : x < 57344
       ·have y4' : decide ((x : Int) < 57344) = true := c_y4t y4
        go_wp2_with (fail)
        go_ret2
        exact ScaEnd.mk (a := 0) (b := 0) (by rw [unhide HSC, if_pos (Or.inr (Or.inr ⟨y3, y4⟩))]; rfl) (by omega) (by omega) (unhide HBA)
       ·have y4' : decide ((x : Int) < 57344) = false := c_y4f y4
        go_wp2_with (fail)
        go_ret2
        exact ScaEnd.mk (a := (x : Nat)) (b := 2) (by rw [unhide HSC, if_neg (by omega)]; rfl) (by omega) (by omega) (unhide HBA)
      ·have y3' : decide ((55296 : Int) ≤ (x : Int)) = false := c_y3f y3
       go_wp2_with (fail)
       go_ret2
       exact ScaEnd.mk (a := (x : Nat)) (b := 2) (by rw [unhide HSC, if_neg (by omega)]; rfl) (by omega) (by omega) (unhide HBA)
set_option maxRecDepth 100000 in
set_option maxHeartbeats 8000000 in
theorem rScalar_three {t : ByteArray} {p : Nat} {c : UInt8} {r : Sp.By} (ha : AtL t p (c :: r)) (hc : 224 ≤ c.toNat ∧ c.toNat < 240) (w : World) :
  Calls Tryz.prog 124 #[.string t, .int .i64 p] w fun e w' => ScaEnd (c :: r) w e w' := by
 have hlt := ha.lt
 have hby : t[p]'hlt = c := ha.byte
 have hlen := ha.len
 have hsm := ha.small
 have hlead := lead_three hc
 have e1 : ¬ t.size ≤ p := by omega
 have hwr : wrap64 ((t[p]'hlt).toNat : Int) = ((t[p]'hlt).toNat : Int) := by unfold wrap64; have := (t[p]'hlt).toNat_lt; omega
 have HBY := hide hby
 have hc0 := hc
 rw [← hby] at hc
 have f0 : decide ((240 : Int) ≤ (t[p].toNat : Int)) = false := by simp; omega
 have f1 : decide ((224 : Int) ≤ (t[p].toNat : Int)) = true := by simp; omega
 have f2 : decide ((t[p].toNat : Int) < 240) = true := by simp; omega
 have hb8 : t[p].toNat < 256 := (t[p]'hlt).toNat_lt
 clear hby
 by_cases hs : r.length + 1 < 3
 ·have HS := hide (sca_short (a := c) (r := r) (by rw [hlead]; exact hs))
  have e2 : (t.size : Int) < (p : Int) + 3 := by simp at hlen; omega
  clear ha hlead hs hlen hc0
  go_enter Tryz.func124, Tryz.ntmps124
  go_wp2_with (fail)
  go_ret2
  exact ScaEnd.mk (a := 0) (b := 0) (unhide HS) (by omega) (by omega) bel_same
 ·have HS := hide (sca_long (r := r) hlead (by omega))
  have e2 : ¬ (t.size : Int) < (p : Int) + 3 := by simp at hlen; omega
  have HN := hide ha.next
  have hcc : c.toNat = t[p].toNat := by rw [unhide HBY]
  have HCC := hide hcc
  have HCR := hide hc0
  have HRL := hide hs
  clear ha hlead hs hlen hcc hc0
  go_enter Tryz.func124, Tryz.ntmps124
  go_wp2_with (fail)
  go_loopw [8, 9] (fun v i wr => ∃ (k x : Nat) (r' : Sp.By), 1 ≤ k ∧ k ≤ 3 ∧ i = .int .i64 k ∧ v = .int .i64 x ∧ AtL t (p + k) r' ∧ Sp.cnt (3 - 1) (c.toNat - 224) r = Sp.cnt (3 - k) x r' ∧ x < bdn 3 k ∧ 3 - k ≤ r'.length ∧ wr = w) (fun _ i _ => 3 - (intOf i).toNat)
  case atStart =>
   have hcr := unhide HCR
   have hcc := unhide HCC
   have hrl := unhide HRL
   exact ⟨1, c.toNat - 224, r, by omega, by omega, rfl, congrArg (Value.int .i64) (by omega), unhide HN, rfl, by rw [show bdn 3 1 = 16 by decide]; omega, by omega, rfl⟩
  case round =>
   obtain ⟨k, x, r', hk1, hk2, rfl, rfl, hat, hcnt, hxb, hrl, rfl⟩ := hrel
   have hx : x < 2097152 := Nat.lt_of_lt_of_le hxb (bdn_le hk2)
   have HAT := hide hat
   have HCN := hide hcnt
   have HXB := hide hxb
   by_cases hkn : k < 3
   ·match r', hat, hcnt, hrl, HAT, HCN with
    | [], _, _, hrl, _, _ => exact absurd hrl (by simp only [List.length_nil]; omega)
    | d :: r'', hat, hcnt, hrl, HAT, HCN =>
     have hq := hat.lt
     obtain ⟨q, hqd⟩ : ∃ q, q = p + k := ⟨_, rfl⟩
     rw [← hqd] at hq
     have hqi : (p : Int) + (k : Int) = (q : Int) := by omega
     have hbq : t[q]'hq = d := by
      have := hat.byte
      simp only [← hqd] at this
      exact this
     have HBQ := hide hbq
     have HQD := hide hqd
     have hq8 : t[q].toNat < 256 := (t[q]'hq).toNat_lt
     have hwq : wrap64 ((t[q]'hq).toNat : Int) = ((t[q]'hq).toNat : Int) := by unfold wrap64; omega
     have HRL2 := hide hrl
     clear hat hcnt hrl hbq hqd hxb e2 hwr f0 f1 f2 hb8 e1 hc
     by_cases g1 : t[q].toNat < 128
     ·have g1' : decide ((t[q].toNat : Int) < 128) = true := decide_eq_true (by exact_mod_cast g1)
      go_wp2_with (fail)
      go_ret2
      refine ScaEnd.mk (a := 0) (b := 0) ?_ (by omega) (by omega) bel_same
      rw [unhide HS, unhide HCN, show 3 - k = 3 - k - 1 + 1 by omega, cnt_bad (by rw [← unhide HBQ]; omega)]
      rfl
     ·have g1' : decide ((t[q].toNat : Int) < 128) = false := decide_eq_false (by exact_mod_cast g1)
      by_cases g2 : 192 ≤ t[q].toNat
      ·have g2' : decide ((192 : Int) ≤ (t[q].toNat : Int)) = true := decide_eq_true (by exact_mod_cast g2)
       go_wp2_with (fail)
       go_ret2
       refine ScaEnd.mk (a := 0) (b := 0) ?_ (by omega) (by omega) bel_same
       rw [unhide HS, unhide HCN, show 3 - k = 3 - k - 1 + 1 by omega, cnt_bad (by rw [← unhide HBQ]; omega)]
       rfl
      ·have g2' : decide ((192 : Int) ≤ (t[q].toNat : Int)) = false := decide_eq_false (by exact_mod_cast g2)
       go_wp2_with (fail)
       have hrl := unhide HRL2
       refine ⟨⟨k + 1, 64 * x + t[q].toNat - 128, r'', by omega, by omega, by go_num, ?_, (unhide HAT).next, ?_, bdn_next hk1 (unhide HXB) (by omega), by rw [List.length_cons] at hrl; omega, trivial⟩, by simp only [intOf]; omega⟩
       ·rw [show (64 * (x : Int) + (t[q].toNat : Int) - 128) = ((64 * x + t[q].toNat - 128 : Nat) : Int) by omega]
       ·rw [unhide HCN, show 3 - k = 3 - (k + 1) + 1 by omega, cnt_ok (by rw [← unhide HBQ]; omega), unhide HBQ]
   ·obtain rfl : k = 3 := by omega
    have hsc : Sp.sca (c :: r) = if x < 2048 ∨ 1114111 < x ∨ (55296 ≤ x ∧ x < 57344) then (0, 0) else (x, 3) := by
     rw [unhide HS, hcnt, Nat.sub_self]
     rfl
    have HSC := hide hsc
    have hba : Below wr.heap.size wr (wr.alloc (.cells #[.int .i64 0, .int .i64 0, .int .i64 128, .int .i64 2048, .int .i64 65536] 3)) := (Below.refl _ _).alloc (Nat.le_refl _) _
    have HBA := hide hba
    clear hat hcnt hrl hxb hsc hba e2 hwr f0 f1 f2 hb8 e1 hc hkn
    by_cases y1 : x < 2048
    ·have y1' : decide ((x : Int) < 2048) = true := c_lt y1
     go_wp2_with (fail)
     go_ret2
     exact ScaEnd.mk (a := 0) (b := 0) (by rw [unhide HSC, if_pos (Or.inl y1)]; rfl) (by omega) (by omega) (unhide HBA)
    ·have y1' : decide ((x : Int) < 2048) = false := c_nlt y1
     by_cases y2 : 1114111 < x
     ·have y2' : decide ((1114111 : Int) < (x : Int)) = true := c_y2t y2
      go_wp2_with (fail)
      go_ret2
      exact ScaEnd.mk (a := 0) (b := 0) (by rw [unhide HSC, if_pos (Or.inr (Or.inl y2))]; rfl) (by omega) (by omega) (unhide HBA)
     ·have y2' : decide ((1114111 : Int) < (x : Int)) = false := c_y2f y2
      by_cases y3 : 55296 ≤ x
      ·have y3' : decide ((55296 : Int) ≤ (x : Int)) = true := c_y3t y3
       by_cases y4 : x < 57344
       ·have y4' : decide ((x : Int) < 57344) = true := c_y4t y4
        go_wp2_with (fail)
        go_ret2
        exact ScaEnd.mk (a := 0) (b := 0) (by rw [unhide HSC, if_pos (Or.inr (Or.inr ⟨y3, y4⟩))]; rfl) (by omega) (by omega) (unhide HBA)
       ·have y4' : decide ((x : Int) < 57344) = false := c_y4f y4
        go_wp2_with (fail)
        go_ret2
        exact ScaEnd.mk (a := (x : Nat)) (b := 3) (by rw [unhide HSC, if_neg (by omega)]; rfl) (by omega) (by omega) (unhide HBA)
      ·have y3' : decide ((55296 : Int) ≤ (x : Int)) = false := c_y3f y3
       go_wp2_with (fail)
       go_ret2
       exact ScaEnd.mk (a := (x : Nat)) (b := 3) (by rw [unhide HSC, if_neg (by omega)]; rfl) (by omega) (by omega) (unhide HBA)
set_option maxRecDepth 100000 in
set_option maxHeartbeats 8000000 in
theorem rScalar_four {t : ByteArray} {p : Nat} {c : UInt8} {r : Sp.By} (ha : AtL t p (c :: r)) (hc : 240 ≤ c.toNat ∧ c.toNat < 248) (w : World) :
  Calls Tryz.prog 124 #[.string t, .int .i64 p] w fun e w' => ScaEnd (c :: r) w e w' := by
 have hlt := ha.lt
 have hby : t[p]'hlt = c := ha.byte
 have hlen := ha.len
 have hsm := ha.small
 have hlead := lead_four hc
 have e1 : ¬ t.size ≤ p := by omega
 have hwr : wrap64 ((t[p]'hlt).toNat : Int) = ((t[p]'hlt).toNat : Int) := by unfold wrap64; have := (t[p]'hlt).toNat_lt; omega
 have HBY := hide hby
 have hc0 := hc
 rw [← hby] at hc
 have f0 : decide ((240 : Int) ≤ (t[p].toNat : Int)) = true := by simp; omega
 have f1 : decide ((t[p].toNat : Int) < 248) = true := by simp; omega
 have hb8 : t[p].toNat < 256 := (t[p]'hlt).toNat_lt
 clear hby
 by_cases hs : r.length + 1 < 4
 ·have HS := hide (sca_short (a := c) (r := r) (by rw [hlead]; exact hs))
  have e2 : (t.size : Int) < (p : Int) + 4 := by simp at hlen; omega
  clear ha hlead hs hlen hc0
  go_enter Tryz.func124, Tryz.ntmps124
  go_wp2_with (fail)
  go_ret2
  exact ScaEnd.mk (a := 0) (b := 0) (unhide HS) (by omega) (by omega) bel_same
 ·have HS := hide (sca_long (r := r) hlead (by omega))
  have e2 : ¬ (t.size : Int) < (p : Int) + 4 := by simp at hlen; omega
  have HN := hide ha.next
  have hcc : c.toNat = t[p].toNat := by rw [unhide HBY]
  have HCC := hide hcc
  have HCR := hide hc0
  have HRL := hide hs
  clear ha hlead hs hlen hcc hc0
  go_enter Tryz.func124, Tryz.ntmps124
  go_wp2_with (fail)
  go_loopw [8, 9] (fun v i wr => ∃ (k x : Nat) (r' : Sp.By), 1 ≤ k ∧ k ≤ 4 ∧ i = .int .i64 k ∧ v = .int .i64 x ∧ AtL t (p + k) r' ∧ Sp.cnt (4 - 1) (c.toNat - 240) r = Sp.cnt (4 - k) x r' ∧ x < bdn 4 k ∧ 4 - k ≤ r'.length ∧ wr = w) (fun _ i _ => 4 - (intOf i).toNat)
  case atStart =>
   have hcr := unhide HCR
   have hcc := unhide HCC
   have hrl := unhide HRL
   exact ⟨1, c.toNat - 240, r, by omega, by omega, rfl, congrArg (Value.int .i64) (by omega), unhide HN, rfl, by rw [show bdn 4 1 = 8 by decide]; omega, by omega, rfl⟩
  case round =>
   obtain ⟨k, x, r', hk1, hk2, rfl, rfl, hat, hcnt, hxb, hrl, rfl⟩ := hrel
   have hx : x < 2097152 := Nat.lt_of_lt_of_le hxb (bdn_le hk2)
   have HAT := hide hat
   have HCN := hide hcnt
   have HXB := hide hxb
   by_cases hkn : k < 4
   ·match r', hat, hcnt, hrl, HAT, HCN with
    | [], _, _, hrl, _, _ => exact absurd hrl (by simp only [List.length_nil]; omega)
    | d :: r'', hat, hcnt, hrl, HAT, HCN =>
     have hq := hat.lt
     obtain ⟨q, hqd⟩ : ∃ q, q = p + k := ⟨_, rfl⟩
     rw [← hqd] at hq
     have hqi : (p : Int) + (k : Int) = (q : Int) := by omega
     have hbq : t[q]'hq = d := by
      have := hat.byte
      simp only [← hqd] at this
      exact this
     have HBQ := hide hbq
     have HQD := hide hqd
     have hq8 : t[q].toNat < 256 := (t[q]'hq).toNat_lt
     have hwq : wrap64 ((t[q]'hq).toNat : Int) = ((t[q]'hq).toNat : Int) := by unfold wrap64; omega
     have HRL2 := hide hrl
     clear hat hcnt hrl hbq hqd hxb e2 hwr f0 f1 hb8 e1 hc
     by_cases g1 : t[q].toNat < 128
     ·have g1' : decide ((t[q].toNat : Int) < 128) = true := decide_eq_true (by exact_mod_cast g1)
      go_wp2_with (fail)
      go_ret2
      refine ScaEnd.mk (a := 0) (b := 0) ?_ (by omega) (by omega) bel_same
      rw [unhide HS, unhide HCN, show 4 - k = 4 - k - 1 + 1 by omega, cnt_bad (by rw [← unhide HBQ]; omega)]
      rfl
     ·have g1' : decide ((t[q].toNat : Int) < 128) = false := decide_eq_false (by exact_mod_cast g1)
      by_cases g2 : 192 ≤ t[q].toNat
      ·have g2' : decide ((192 : Int) ≤ (t[q].toNat : Int)) = true := decide_eq_true (by exact_mod_cast g2)
       go_wp2_with (fail)
       go_ret2
       refine ScaEnd.mk (a := 0) (b := 0) ?_ (by omega) (by omega) bel_same
       rw [unhide HS, unhide HCN, show 4 - k = 4 - k - 1 + 1 by omega, cnt_bad (by rw [← unhide HBQ]; omega)]
       rfl
      ·have g2' : decide ((192 : Int) ≤ (t[q].toNat : Int)) = false := decide_eq_false (by exact_mod_cast g2)
       go_wp2_with (fail)
       have hrl := unhide HRL2
       refine ⟨⟨k + 1, 64 * x + t[q].toNat - 128, r'', by omega, by omega, by go_num, ?_, (unhide HAT).next, ?_, bdn_next hk1 (unhide HXB) (by omega), by rw [List.length_cons] at hrl; omega, trivial⟩, by simp only [intOf]; omega⟩
       ·rw [show (64 * (x : Int) + (t[q].toNat : Int) - 128) = ((64 * x + t[q].toNat - 128 : Nat) : Int) by omega]
       ·rw [unhide HCN, show 4 - k = 4 - (k + 1) + 1 by omega, cnt_ok (by rw [← unhide HBQ]; omega), unhide HBQ]
   ·obtain rfl : k = 4 := by omega
    have hsc : Sp.sca (c :: r) = if x < 65536 ∨ 1114111 < x ∨ (55296 ≤ x ∧ x < 57344) then (0, 0) else (x, 4) := by
     rw [unhide HS, hcnt, Nat.sub_self]
     rfl
    have HSC := hide hsc
    have hba : Below wr.heap.size wr (wr.alloc (.cells #[.int .i64 0, .int .i64 0, .int .i64 128, .int .i64 2048, .int .i64 65536] 3)) := (Below.refl _ _).alloc (Nat.le_refl _) _
    have HBA := hide hba
    clear hat hcnt hrl hxb hsc hba e2 hwr f0 f1 hb8 e1 hc hkn
    by_cases y1 : x < 65536
    ·have y1' : decide ((x : Int) < 65536) = true := c_lt y1
     go_wp2_with (fail)
     go_ret2
     exact ScaEnd.mk (a := 0) (b := 0) (by rw [unhide HSC, if_pos (Or.inl y1)]; rfl) (by omega) (by omega) (unhide HBA)
    ·have y1' : decide ((x : Int) < 65536) = false := c_nlt y1
     by_cases y2 : 1114111 < x
     ·have y2' : decide ((1114111 : Int) < (x : Int)) = true := c_y2t y2
      go_wp2_with (fail)
      go_ret2
      exact ScaEnd.mk (a := 0) (b := 0) (by rw [unhide HSC, if_pos (Or.inr (Or.inl y2))]; rfl) (by omega) (by omega) (unhide HBA)
     ·have y2' : decide ((1114111 : Int) < (x : Int)) = false := c_y2f y2
      by_cases y3 : 55296 ≤ x
      ·have y3' : decide ((55296 : Int) ≤ (x : Int)) = true := c_y3t y3
       by_cases y4 : x < 57344
       ·omega
       ·have y4' : decide ((x : Int) < 57344) = false := c_y4f y4
        go_wp2_with (fail)
        go_ret2
        exact ScaEnd.mk (a := (x : Nat)) (b := 4) (by rw [unhide HSC, if_neg (by omega)]; rfl) (by omega) (by omega) (unhide HBA)
      ·omega
theorem rScalar_anyL {t : ByteArray} {p : Nat} {l : Sp.By} (ha : AtL t p l) (w : World) : Calls Tryz.prog 124 #[.string t, .int .i64 p] w fun e w' => ScaEnd l w e w' := by
 cases l with
 | nil => exact rScalar_nil ha w
 | cons c r =>
  have h8 := c.toNat_lt
  by_cases h1 : c.toNat < 128
  ·exact rScalar_one ha h1 w
  ·by_cases h2 : c.toNat < 192
   ·exact rScalar_no ha (Or.inl ⟨by omega, h2⟩) w
   ·by_cases h3 : c.toNat < 224
    ·exact rScalar_two ha ⟨by omega, h3⟩ w
    ·by_cases h4 : c.toNat < 240
     ·exact rScalar_three ha ⟨by omega, h4⟩ w
     ·by_cases h5 : c.toNat < 248
      ·exact rScalar_four ha ⟨by omega, h5⟩ w
      ·exact rScalar_no ha (Or.inr (by omega)) w
theorem rScalar_any {t : ByteArray} {p : Nat} {l : Sp.By} (ha : At t p l) (w : World) : Calls Tryz.prog 124 #[.string t, .int .i64 p] w fun e w' => ScaEnd l w e w' := rScalar_anyL ha.toL w
end Go.Proofs.YtdpomdelmdofmaaGreatDoor
