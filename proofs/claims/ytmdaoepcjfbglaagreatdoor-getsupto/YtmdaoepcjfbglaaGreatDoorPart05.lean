/-
  The first rune of a text.
  Plain facts on the functions of Sp: how much a character takes, which runes come out.
  Walk of the reader's digits.
-/
import Derived.Test.YtmdaoepcjfbglaaGreatDoorPart04
import Derived.Test.YtmdaoepcjfbglaaGreatDoorPart01
import Derived.Lib.IndexBytes
import Derived.Deep.RegionWith
import Derived.Lib.RuneBytes
namespace Go.Proofs.YtmdaoepcjfbglaaGreatDoor
open Go.RowKit

theorem bs_size (l : Sp.By) : (⟨l.toArray⟩ : ByteArray).size = l.length := by simp [ByteArray.size]
theorem dec_eq (t : ByteArray) (p : Nat) : Lib.decodeGo (t.extract p t.size) = Sp.dec (t.data.toList.drop p) := by
  unfold Lib.decodeGo Sp.dec
  have e : t.extract p t.size = ⟨(t.data.toList.drop p).toArray⟩ := by
    have := Lib.extract_to_end t p
    have h2 : (t.extract p t.size).data = (t.data.toList.drop p).toArray := by rw [← this]
    exact congrArg ByteArray.mk h2
  rw [e, bs_size]

theorem dec_le (l : Sp.By) : (Sp.dec l).2 ≤ l.length := by
  unfold Sp.dec
  split
  · simp
  · rename_i h
    rw [Lib.decode_at]
    rw [bs_size]
    unfold Lib.decodeN
    repeat' split
    all_goals (simp only; omega)
theorem dec_rune (l : Sp.By) : (Sp.dec l).1 ≤ 1114111 := by
  unfold Sp.dec
  split
  · simp
  · rw [Lib.decode_at]
    have h0 := (ByteArray.get! (⟨l.toArray⟩ : ByteArray) 0).toNat_lt
    simp only [Nat.zero_add]
    generalize (ByteArray.get! (⟨l.toArray⟩ : ByteArray) 0).toNat = b0 at *
    unfold Lib.decodeN
    repeat' split
    all_goals (simp only; omega)

end Go.Proofs.YtmdaoepcjfbglaaGreatDoor

namespace Go.Proofs.YtmdaoepcjfbglaaGreatDoor
open Go.RowKit

theorem tk_cons {l : Sp.By} {c : UInt8} (h : Sp.tk l c = true) : l.tail.length + 1 = l.length := by
  cases l with
  | nil => simp [Sp.tk] at h
  | cons d r => simp
theorem hexs_len (k n : Nat) (l : Sp.By) (m : Nat) (r : Sp.By) (h : Sp.hexs k n l = some (m, r)) : r.length + k ≤ l.length := by
  induction k generalizing n l with
  | zero => simp [Sp.hexs] at h; rw [h.2]; omega
  | succ k ih =>
    rw [Sp.hexs] at h
    cases l with
    | nil => simp [Sp.pk, Sp.hexd] at h
    | cons c l =>
      cases hd : Sp.hexd (Sp.pk (c :: l)) with
      | none => rw [hd] at h; cases h
      | some d =>
        rw [hd] at h
        have := ih _ _ h
        simp at this ⊢; omega
theorem scal_len (l : Sp.By) (m : Nat) (r : Sp.By) (h : Sp.scal l = some (m, r)) : r.length < l.length ∧ m ≤ 1114111 := by
  unfold Sp.scal at h
  cases hx : Sp.hexs 4 0 l with
  | none => rw [hx] at h; cases h
  | some x =>
    obtain ⟨a, r1⟩ := x
    have h1 := hexs_len _ _ _ _ _ hx
    have h2 := hexs4 hx
    rw [hx] at h
    simp only at h
    by_cases c1 : a < 55296 ∨ 57344 ≤ a
    · rw [if_pos c1] at h; simp at h; rw [← h.1, ← h.2]; omega
    · rw [if_neg c1] at h
      by_cases c2 : 56320 ≤ a
      · rw [if_pos c2] at h; cases h
      · rw [if_neg c2] at h
        by_cases c3 : Sp.tk r1 92 = true
        · rw [if_pos c3] at h
          by_cases c4 : Sp.tk r1.tail 117 = true
          · rw [if_pos c4] at h
            have k1 := tk_cons c3
            have k2 := tk_cons c4
            cases hy : Sp.hexs 4 0 r1.tail.tail with
            | none => rw [hy] at h; cases h
            | some y =>
              obtain ⟨b, r2⟩ := y
              have g1 := hexs_len _ _ _ _ _ hy
              have g2 := hexs4 hy
              rw [hy] at h
              simp only at h
              by_cases c5 : b < 56320 ∨ 57344 ≤ b
              · rw [if_pos c5] at h; cases h
              · rw [if_neg c5] at h; simp at h; rw [← h.1, ← h.2]; omega
          · rw [if_neg c4] at h; cases h
        · rw [if_neg c3] at h; cases h
theorem escIn_len (l : Sp.By) (T : List (UInt8 × Nat)) (hT : ∀ x ∈ T, x.2 ≤ 1114111) (m : Nat) (r : Sp.By) (h : Sp.escIn l T = some (m, r)) : r.length < l.length ∧ m ≤ 1114111 := by
  induction T with
  | nil => cases h
  | cons x T ih =>
    obtain ⟨c, n⟩ := x
    rw [Sp.escIn] at h
    by_cases k : Sp.tk l c = true
    · rw [if_pos k] at h; simp at h; have := tk_cons k; have h3 := hT (c, n) (by simp); rw [← h.1, ← h.2]; simp only at h3; omega
    · rw [if_neg k] at h; exact ih (fun x hx => hT x (by simp [hx])) h
theorem dec_pos (l : Sp.By) (h : l ≠ []) : 1 ≤ (Sp.dec l).2 := by
  unfold Sp.dec
  rw [if_neg (by simpa using h), Lib.decode_at]
  unfold Lib.decodeN
  repeat' split
  all_goals simp
theorem chr_len {l : Sp.By} {m : Nat} {r : Sp.By} (h : Sp.chr l = some (m, r)) : r.length < l.length ∧ m ≤ 1114111 := by
  unfold Sp.chr at h
  by_cases k : Sp.tk l 92 = true
  · rw [if_pos k] at h
    have k1 := tk_cons k
    unfold Sp.esc at h
    by_cases k2 : Sp.tk l.tail 117 = true
    · rw [if_pos k2] at h
      have k3 := tk_cons k2
      have := scal_len _ _ _ h
      omega
    · rw [if_neg k2] at h
      have := escIn_len _ Sp.escT (by decide) _ _ h
      omega
  · rw [if_neg k] at h
    by_cases c : (Sp.dec l).1 < 32 ∨ ((Sp.dec l).1 = 65533 ∧ (Sp.dec l).2 < 2)
    · rw [if_pos c] at h; cases h
    · rw [if_neg c] at h
      simp only [Option.some.injEq, Prod.mk.injEq] at h
      have h1 := dec_rune l
      have hne : l ≠ [] := by rintro rfl; simp [Sp.dec] at c
      have h2 := dec_pos l hne
      have h3 := dec_le l
      rw [← h.1, ← h.2]
      simp; omega
theorem enc_len (r : Int) : (Lib.encodeRune r).length ≤ 4 := by
  have := Lib.runeCells_le r
  rw [← Lib.byteCells_encodeRune, Lib.byteCells_length] at this
  exact this.2

end Go.Proofs.YtmdaoepcjfbglaaGreatDoor

namespace Go.Proofs.YtmdaoepcjfbglaaGreatDoor
open Go.RowKit

theorem isDn_eq (c : UInt8) : Sp.isD c = isDn c.toNat := rfl
theorem dg_yes {l : Sp.By} (h : isDn (Sp.pk l) = true) : l.take 1 ++ Sp.dg l.tail = Sp.dg l ∧ Sp.dgR l.tail = Sp.dgR l ∧ 1 ≤ l.length := by
  cases l with
  | nil => simp [Sp.pk, isDn] at h
  | cons d r =>
    have : Sp.isD d = true := by rw [isDn_eq]; exact h
    simp [Sp.dg, Sp.dgR, this]
theorem dg_no {l : Sp.By} (h : isDn (Sp.pk l) = false) : Sp.dg l = [] ∧ Sp.dgR l = l := by
  cases l with
  | nil => simp [Sp.dg, Sp.dgR]
  | cons d r =>
    have : Sp.isD d = false := by rw [isDn_eq]; exact h
    simp [Sp.dg, Sp.dgR, this]

set_option maxHeartbeats 1000000 in
theorem digits_any {w : World} {R : Nat} {t : ByteArray} {l : Sp.By} {tw : Bool} {dp fr : Int} (h : RD w R t l tw dp fr) :
    Calls Tryz.prog 195 #[.pointer (some ⟨R, 0, none⟩)] w fun e w' => e = .returned (.string ⟨(Sp.dg l).toArray⟩) ∧ RD w' R t (Sp.dgR l) tw dp fr ∧ KeptX R w w' := by
  obtain ⟨p, ha, hp⟩ := h
  have c0 := hp.c0
  have c1 := hp.c1
  have HP := hide hp
  have HA := hide ha
  clear hp ha
  go_enter Tryz.func195, Tryz.ntmps195
  go_wp2_with (fail)
  clear c0 c1
  go_loopw [8] (fun _ wr => ∃ l' k, RD wr R t l' tw dp fr ∧ k ≤ l.length ∧ l' = l.drop k ∧ l.take k ++ Sp.dg l' = Sp.dg l ∧ Sp.dgR l' = Sp.dgR l ∧ KeptX R w wr) (fun _ wr => left wr R)
  case atStart => exact ⟨l, 0, ⟨p, unhide HA, unhide HP⟩, Nat.zero_le _, rfl, rfl, rfl, KeptX.refl R w⟩
  case round =>
    obtain ⟨l', k, hr, hkl, hl', he1, he2, hk⟩ := hrel
    have H1 := hide hl'
    have H2 := hide he1
    have H3 := hide he2
    have HL := hide hr.left
    clear hl' he1 he2
    by_cases hd : isDn (Sp.pk l') = true
    · have HD := hide hd
      clear hd
      go_wp2_with (fail)
      refine (peekK hr).mono ?_
      rintro e w1 ⟨rfl, hr1, hk1⟩
      go_wp2_with (fail)
      refine (isDigit_any _ _ (pk_lt l')).mono ?_
      rintro e w2 ⟨rfl, rfl⟩
      rw [unhide HD]
      obtain ⟨q, ha, hq⟩ := hr1
      have c1 := hq.c1
      have f1 := hq.fz 1
      have hs := ha.small
      have hq9 := ha.le
      have HQ := hide hq
      have HA1 := hide ha
      clear hq ha hr
      go_wp2_with (fail)
      have hy := dg_yes (unhide HD)
      have hn : RD (w2.setCell ⟨R, 1, none⟩ (.int .i64 ((q : Int) + 1))) R t l'.tail tw dp fr := ⟨q + 1, by simpa using (unhide HA1).add 1 hy.2.2, (unhide HQ).set1 (q + 1)⟩
      go_roundw
      case rel => exact ⟨l'.tail, k + 1, hn, by have := hy.2.2; rw [unhide H1] at this; simp at this; omega, by rw [unhide H1]; simp, by rw [← unhide H2, ← hy.1, unhide H1, ← List.append_assoc, ← List.take_add], by rw [← unhide H3]; exact hy.2.1, (hk.trans hk1).setCell rfl _⟩
      case measure =>
        have h1 := hy.2.2
        rw [unhide HL, hn.left]
        simp; omega
    · have HD := hide (show isDn (Sp.pk l') = false by simpa using hd)
      clear hd
      go_wp2_with (fail)
      refine (peekK hr).mono ?_
      rintro e w1 ⟨rfl, hr1, hk1⟩
      go_wp2_with (fail)
      refine (isDigit_any _ _ (pk_lt l')).mono ?_
      rintro e w2 ⟨rfl, rfl⟩
      rw [unhide HD]
      obtain ⟨q, ha, hq⟩ := hr1
      have c0 := hq.c0
      have c1 := hq.c1
      have b1 : (p : Int) ≤ (q : Int) := by have := ha.len; have := (unhide HA).len; have := (unhide HA).le; have := ha.le; have e := congrArg List.length (unhide H1); simp at e; omega
      have b2 : (q : Int) ≤ (t.size : Int) := by have := ha.le; omega
      have HQ := hide hq
      have HA1 := hide ha
      clear hq ha hr
      go_wp2_with (fail)
      go_quiet (fail)
      go_wp2_with (fail)
      have hz := dg_no (unhide HD)
      have hx : t.extract p q = ⟨(Sp.dg l).toArray⟩ := by
        have e1 := Lib.extract_data t p q
        rw [(unhide HA).eq] at e1
        have e2 := congrArg List.length (unhide H1)
        have e3 := (unhide HA1).len
        have e4 := (unhide HA).len
        have e5 := (unhide HA).le
        have e6 := (unhide HA1).le
        simp at e2
        have e7 : q - p = k := by omega
        have e8 := unhide H2
        rw [hz.1, List.append_nil] at e8
        rw [e7, e8] at e1
        have : (t.extract p q).data = (Sp.dg l).toArray := by rw [← e1]
        exact congrArg ByteArray.mk this
      rw [hx]
      go_ret
      refine ⟨rfl, ?_, (hk.trans hk1).drewN _⟩
      rw [← unhide H3, hz.2]
      exact ⟨q, unhide HA1, (unhide HQ).drewN _⟩

end Go.Proofs.YtmdaoepcjfbglaaGreatDoor
