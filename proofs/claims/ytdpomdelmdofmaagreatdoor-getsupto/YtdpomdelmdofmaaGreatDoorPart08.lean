/-
  Plain facts on the functions of Sp: how much a character takes, which runes come out.
-/
import Derived.Test.YtdpomdelmdofmaaGreatDoorPart07
import Derived.Lib.RuneBytes
import Derived.Test.YtdpomdelmdofmaaGreatDoorPart05
namespace Go.Proofs.YtdpomdelmdofmaaGreatDoor
open Go.RowKit
theorem tk_cons {l : Sp.By} {c : UInt8} (h : Sp.tk l c = true) : l.tail.length + 1 = l.length := by
 cases l with
 | nil => simp [Sp.tk] at h
 | cons d r => simp
theorem hexs_len (k n : Nat) (l : Sp.By) (m : Nat) (r : Sp.By) (h : Sp.hexs k n l = some (m, r)) : r.length + k ≤ l.length := by
 induction k generalizing n l with
 | zero => simp [Sp.hexs] at h; rw [h.2]; omega
 | succ k ih =>
  rw [Sp.hexs] at h
  cases l with
  | nil => simp [Sp.pk, Sp.hexd] at h
  | cons c l =>
   cases hd : Sp.hexd (Sp.pk (c :: l)) with
   | none => rw [hd] at h; cases h
   | some d =>
    rw [hd] at h
    have := ih _ _ h
    simp at this ⊢; omega
theorem scal_len (l : Sp.By) (m : Nat) (r : Sp.By) (h : Sp.scal l = some (m, r)) : r.length < l.length ∧ m ≤ 1114111 := by
 unfold Sp.scal at h
 cases hx : Sp.hexs 4 0 l with
 | none => rw [hx] at h; cases h
 | some x =>
  obtain ⟨a, r1⟩ := x
  have h1 := hexs_len _ _ _ _ _ hx
  have h2 := hexs4 hx
  rw [hx] at h
  simp only at h
  by_cases c1 : a < 55296 ∨ 57344 ≤ a
  ·rw [if_pos c1] at h; simp at h; rw [← h.1, ← h.2]; omega
  ·rw [if_neg c1] at h
   by_cases c2 : 56320 ≤ a
   ·rw [if_pos c2] at h; cases h
   ·rw [if_neg c2] at h
    by_cases c3 : Sp.tk r1 92 = true
    ·rw [if_pos c3] at h
     by_cases c4 : Sp.tk r1.tail 117 = true
     ·rw [if_pos c4] at h
      have k1 := tk_cons c3
      have k2 := tk_cons c4
      cases hy : Sp.hexs 4 0 r1.tail.tail with
      | none => rw [hy] at h; cases h
      | some y =>
       obtain ⟨b, r2⟩ := y
       have g1 := hexs_len _ _ _ _ _ hy
       have g2 := hexs4 hy
       rw [hy] at h
       simp only at h
       by_cases c5 : b < 56320 ∨ 57344 ≤ b
       ·rw [if_pos c5] at h; cases h
       ·rw [if_neg c5] at h; simp at h; rw [← h.1, ← h.2]; omega
     ·rw [if_neg c4] at h; cases h
    ·rw [if_neg c3] at h; cases h
theorem escIn_len (l : Sp.By) (T : List (UInt8 × Nat)) (hT : ∀ x ∈ T, x.2 ≤ 1114111) (m : Nat) (r : Sp.By) (h : Sp.escIn l T = some (m, r)) : r.length < l.length ∧ m ≤ 1114111 := by
 induction T with
 | nil => cases h
 | cons x T ih =>
  obtain ⟨c, n⟩ := x
  rw [Sp.escIn] at h
  by_cases k : Sp.tk l c = true
  ·rw [if_pos k] at h; simp at h; have := tk_cons k; have h3 := hT (c, n) (by simp); rw [← h.1, ← h.2]; simp only at h3; omega
  ·rw [if_neg k] at h; exact ih (fun x hx => hT x (by simp [hx])) h
theorem dec_pos (l : Sp.By) (h : l ≠ []) : 1 ≤ (Sp.dec l).2 := by
 unfold Sp.dec
 rw [if_neg (by simpa using h), Lib.decode_at]
 unfold Lib.decodeN
 repeat' split
 all_goals simp
theorem chr_len {l : Sp.By} {m : Nat} {r : Sp.By} (h : Sp.chr l = some (m, r)) : r.length < l.length ∧ m ≤ 1114111 := by
 unfold Sp.chr at h
 by_cases k : Sp.tk l 92 = true
 ·rw [if_pos k] at h
  have k1 := tk_cons k
  unfold Sp.esc at h
  by_cases k2 : Sp.tk l.tail 117 = true
  ·rw [if_pos k2] at h
   have k3 := tk_cons k2
   have := scal_len _ _ _ h
   omega
  ·rw [if_neg k2] at h
   have := escIn_len _ Sp.escT (by decide) _ _ h
   omega
 ·rw [if_neg k] at h
  by_cases c : (Sp.dec l).1 < 32 ∨ ((Sp.dec l).1 = 65533 ∧ (Sp.dec l).2 < 2)
  ·rw [if_pos c] at h; cases h
  ·rw [if_neg c] at h
   simp only [Option.some.injEq, Prod.mk.injEq] at h
   have h1 := dec_rune l
   have hne : l ≠ [] := by rintro rfl; simp [Sp.dec] at c
   have h2 := dec_pos l hne
   have h3 := dec_le l
   rw [← h.1, ← h.2]
   simp; omega
theorem enc_len (r : Int) : (Lib.encodeRune r).length ≤ 4 := by
 have := Lib.runeCells_le r
 rw [← Lib.byteCells_encodeRune, Lib.byteCells_length] at this
 exact this.2
end Go.Proofs.YtdpomdelmdofmaaGreatDoor

namespace Go.Proofs.YtdpomdelmdofmaaGreatDoor
open Go.RowKit
theorem isDn_eq (c : UInt8) : Sp.isD c = isDn c.toNat := rfl
theorem dg_yes {l : Sp.By} (h : isDn (Sp.pk l) = true) : l.take 1 ++ Sp.dg l.tail = Sp.dg l ∧ Sp.dgR l.tail = Sp.dgR l ∧ 1 ≤ l.length := by
 cases l with
 | nil => simp [Sp.pk, isDn] at h
 | cons d r =>
  have : Sp.isD d = true := by rw [isDn_eq]; exact h
  simp [Sp.dg, Sp.dgR, this]
theorem dg_no {l : Sp.By} (h : isDn (Sp.pk l) = false) : Sp.dg l = [] ∧ Sp.dgR l = l := by
 cases l with
 | nil => simp [Sp.dg, Sp.dgR]
 | cons d r =>
  have : Sp.isD d = false := by rw [isDn_eq]; exact h
  simp [Sp.dg, Sp.dgR, this]
set_option maxHeartbeats 1000000 in
theorem digits_any {w : World} {R : Nat} {t : ByteArray} {l : Sp.By} {tw : Bool} {dp fr : Int} (h : RD w R t l tw dp fr) :
  Calls Tryz.prog 222 #[.pointer (some ⟨R, 0, none⟩)] w fun e w' => e = .returned (.string ⟨(Sp.dg l).toArray⟩) ∧ RD w' R t (Sp.dgR l) tw dp fr ∧ KeptX R w w' := by
 obtain ⟨p, ha, hp⟩ := h
 have c0 := hp.c0
 have c1 := hp.c1
 have HP := hide hp
 have HA := hide ha
 clear hp ha
 go_enter Tryz.func222, Tryz.ntmps222
 go_wp2_with (fail)
 clear c0 c1
 go_loopw [8] (fun _ wr => ∃ l' k, RD wr R t l' tw dp fr ∧ k ≤ l.length ∧ l' = l.drop k ∧ l.take k ++ Sp.dg l' = Sp.dg l ∧ Sp.dgR l' = Sp.dgR l ∧ KeptX R w wr) (fun _ wr => left wr R)
 case atStart => exact ⟨l, 0, ⟨p, unhide HA, unhide HP⟩, Nat.zero_le _, rfl, rfl, rfl, KeptX.refl R w⟩
 case round =>
  obtain ⟨l', k, hr, hkl, hl', he1, he2, hk⟩ := hrel
  have H1 := hide hl'
  have H2 := hide he1
  have H3 := hide he2
  have HL := hide hr.left
  clear hl' he1 he2
  by_cases hd : isDn (Sp.pk l') = true
  ·have HD := hide hd
   clear hd
   go_wp2_with (fail)
   refine (peekK hr).mono ?_
   rintro e w1 ⟨rfl, hr1, hk1⟩
   go_wp2_with (fail)
   refine (isDigit_any _ _ (pk_lt l')).mono ?_
   rintro e w2 ⟨rfl, rfl⟩
   rw [unhide HD]
   obtain ⟨q, ha, hq⟩ := hr1
   have c1 := hq.c1
   have f1 := hq.fz 1
   have hs := ha.small
   have hq9 := ha.le
   have HQ := hide hq
   have HA1 := hide ha
   clear hq ha hr
   go_wp2_with (fail)
   have hy := dg_yes (unhide HD)
   have hn : RD (w2.setCell ⟨R, 1, none⟩ (.int .i64 ((q : Int) + 1))) R t l'.tail tw dp fr := ⟨q + 1, by simpa using (unhide HA1).add 1 hy.2.2, (unhide HQ).set1 (q + 1)⟩
   go_roundw
   case rel => exact ⟨l'.tail, k + 1, hn, by have := hy.2.2; rw [unhide H1] at this; simp at this; omega, by rw [unhide H1]; simp, by rw [← unhide H2, ← hy.1, unhide H1, ← List.append_assoc, ← List.take_add], by rw [← unhide H3]; exact hy.2.1, (hk.trans hk1).setCell rfl _⟩
   case measure =>
    have h1 := hy.2.2
    rw [unhide HL, hn.left]
    simp; omega
  ·have HD := hide (show isDn (Sp.pk l') = false by simpa using hd)
   clear hd
   go_wp2_with (fail)
   refine (peekK hr).mono ?_
   rintro e w1 ⟨rfl, hr1, hk1⟩
   go_wp2_with (fail)
   refine (isDigit_any _ _ (pk_lt l')).mono ?_
   rintro e w2 ⟨rfl, rfl⟩
   rw [unhide HD]
   obtain ⟨q, ha, hq⟩ := hr1
   have c0 := hq.c0
   have c1 := hq.c1
   have b1 : (p : Int) ≤ (q : Int) := by have := ha.len; have := (unhide HA).len; have := (unhide HA).le; have := ha.le; have e := congrArg List.length (unhide H1); simp at e; omega
   have b2 : (q : Int) ≤ (t.size : Int) := by have := ha.le; omega
   have HQ := hide hq
   have HA1 := hide ha
   clear hq ha hr
   go_wp2_with (fail)
   go_quiet (fail)
   go_wp2_with (fail)
   have hz := dg_no (unhide HD)
   have hx : t.extract p q = ⟨(Sp.dg l).toArray⟩ := by
    have e1 := Lib.extract_data t p q
    rw [(unhide HA).eq] at e1
    have e2 := congrArg List.length (unhide H1)
    have e3 := (unhide HA1).len
    have e4 := (unhide HA).len
    have e5 := (unhide HA).le
    have e6 := (unhide HA1).le
    simp at e2
    have e7 : q - p = k := by omega
    have e8 := unhide H2
    rw [hz.1, List.append_nil] at e8
    rw [e7, e8] at e1
    have : (t.extract p q).data = (Sp.dg l).toArray := by rw [← e1]
    exact congrArg ByteArray.mk this
   rw [hx]
   go_ret
   refine ⟨rfl, ?_, (hk.trans hk1).drewN _⟩
   rw [← unhide H3, hz.2]
   exact ⟨q, unhide HA1, (unhide HQ).drewN _⟩
end Go.Proofs.YtdpomdelmdofmaaGreatDoor

namespace Go.Proofs.YtdpomdelmdofmaaGreatDoor
open Go.RowKit
theorem empty_yes {l : Sp.By} (h : l = []) : l.isEmpty = true := by subst h; rfl
theorem empty_no {l : Sp.By} (h : ¬ l = []) : l.isEmpty = false := by simpa using h
def fracEnd (o : Option (Sp.By × Sp.By)) (e : Ending) (w' : World) (R : Nat) (t : ByteArray) (tw : Bool) (dp fr : Int) : Prop :=
 (∃ s l', o = some (s, l') ∧ e = .returned (.tuple #[.string ⟨s.toArray⟩, .bool true]) ∧ RD w' R t l' tw dp fr) ∨
  (o = none ∧ ∃ s l', e = .returned (.tuple #[.string s, .bool false]) ∧ RD w' R t l' tw dp fr)
set_option maxHeartbeats 1000000 in
theorem fraction_any {w : World} {R : Nat} {t : ByteArray} {l : Sp.By} {tw : Bool} {dp fr : Int} (h : RD w R t l tw dp fr) :
  Calls Tryz.prog 223 #[.pointer (some ⟨R, 0, none⟩)] w fun e w' => KeptX R w w' ∧ fracEnd (Sp.frac l) e w' R t tw dp fr := by
 by_cases k1 : Sp.tk l 46 = true
 ·have K1 := hide k1
  by_cases hd : Sp.dg l.tail = []
  ·have hE : Hid (Sp.frac l = none) := by unfold Hid Sp.frac; rw [if_pos k1, if_pos hd]
   have he := empty_yes hd
   clear k1 hd
   go_enter Tryz.func223, Tryz.ntmps223
   go_wp2_with (fail)
   refine (take_yes 46 _ rfl h (unhide K1)).mono ?_
   rintro e w1 ⟨rfl, hr1, hk1⟩
   go_wp2_with (fail)
   refine (digits_any hr1).mono ?_
   rintro e w2 ⟨rfl, hr2, hk2⟩
   go_wp2_with (fail)
   go_ret2
   exact ⟨hk1.trans hk2, Or.inr ⟨unhide hE, _, _, rfl, hr2⟩⟩
  ·have hE : Hid (Sp.frac l = some (Sp.dg l.tail, Sp.dgR l.tail)) := by unfold Hid Sp.frac; rw [if_pos k1, if_neg hd]
   have he := empty_no hd
   clear k1 hd
   go_enter Tryz.func223, Tryz.ntmps223
   go_wp2_with (fail)
   refine (take_yes 46 _ rfl h (unhide K1)).mono ?_
   rintro e w1 ⟨rfl, hr1, hk1⟩
   go_wp2_with (fail)
   refine (digits_any hr1).mono ?_
   rintro e w2 ⟨rfl, hr2, hk2⟩
   go_wp2_with (fail)
   go_ret2
   exact ⟨hk1.trans hk2, Or.inl ⟨_, _, unhide hE, rfl, hr2⟩⟩
 ·have hE : Hid (Sp.frac l = some ([], l)) := by unfold Hid Sp.frac; rw [if_neg k1]
  have K1 := hide (tk_false k1)
  clear k1
  go_enter Tryz.func223, Tryz.ntmps223
  go_wp2_with (fail)
  refine (takeN 46 _ rfl h (unhide K1)).mono ?_
  rintro e w1 ⟨rfl, hr1, hk1⟩
  go_wp2_with (fail)
  go_ret2
  exact ⟨hk1, Or.inl ⟨[], l, unhide hE, rfl, hr1⟩⟩
theorem dg_all (l : Sp.By) : ∀ c ∈ Sp.dg l, 48 ≤ c.toNat ∧ c.toNat ≤ 57 := by
 induction l with
 | nil => intro c hc; simp [Sp.dg] at hc
 | cons d r ih =>
  intro c hc
  unfold Sp.dg at hc
  by_cases hd : Sp.isD d = true
  ·rw [if_pos hd] at hc
   rcases List.mem_cons.1 hc with rfl | hc
   ·simpa [Sp.isD] using hd
   ·exact ih c hc
  ·rw [if_neg hd] at hc; cases hc
theorem dg_len (l : Sp.By) : (Sp.dg l).length + (Sp.dgR l).length = l.length := by
 induction l with
 | nil => rfl
 | cons d r ih =>
  unfold Sp.dg Sp.dgR
  by_cases hd : Sp.isD d = true
  ·rw [if_pos hd, if_pos hd]; simp; omega
  ·rw [if_neg hd, if_neg hd]; simp
theorem exNum_bd (ds : Sp.By) (hd : ∀ c ∈ ds, 48 ≤ c.toNat ∧ c.toNat ≤ 57) : ∀ n : Int, 0 ≤ n → n ≤ 1000000 → 0 ≤ Sp.exNum ds n ∧ Sp.exNum ds n ≤ 1000000 := by
 induction ds with
 | nil => intro n h0 h1; exact ⟨h0, h1⟩
 | cons c r ih =>
  intro n h0 h1
  have hc := hd c (by simp)
  exact ih (fun x hx => hd x (by simp [hx])) _ (by omega) (by omega)
end Go.Proofs.YtdpomdelmdofmaaGreatDoor
