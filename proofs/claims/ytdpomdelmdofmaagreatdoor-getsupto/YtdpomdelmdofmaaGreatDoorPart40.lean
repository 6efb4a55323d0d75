/-
  Walks of the reference's quoted and (*Val).told.
-/
import Derived.Test.YtdpomdelmdofmaaGreatDoorPart39
namespace Go.Proofs.YtdpomdelmdofmaaGreatDoor
open Go.RowKit
theorem one_ext (t : ByteArray) (k : Nat) (h : k < t.size) : t.extract k (k + 1) = ⟨[t[k]].toArray⟩ := by
 have e := ext_list t k 1
 rw [drop_cons t k h] at e
 rw [show [t[k]] = (t[k] :: t.data.toList.drop (k + 1)).take 1 from rfl, ← e, Array.toArray_toList]
theorem esc_take (t : ByteArray) (k : Nat) (h : k < t.size) : Sp.escS (t.data.toList.take (k + 1)) = Sp.escS (t.data.toList.take k) ++ Sp.escB t[k] := Sp.escS_take t.data.toList k (by simpa using h)
theorem nib (j : Nat) (hj : j < 16) : ∃ s : ByteArray, s.data.toList = [Sp.hexc j] ∧ s.size = 1 ∧ ∀ w : World, (Instr.slice 9 (.string ⟨#[48, 49, 50, 51, 52, 53, 54, 55, 56, 57, 97, 98, 99, 100, 101, 102]⟩) (some (.int .i64 j)) (some (.int .i64 ((j : Int) + 1))) none).run Tryz.prog w = .ok (.string s) w := by
 match j, hj with
 | 0, _ => exact ⟨⟨#[48]⟩, rfl, rfl, fun w => by kernel_rfl⟩
 | 1, _ => exact ⟨⟨#[49]⟩, rfl, rfl, fun w => by kernel_rfl⟩
 | 2, _ => exact ⟨⟨#[50]⟩, rfl, rfl, fun w => by kernel_rfl⟩
 | 3, _ => exact ⟨⟨#[51]⟩, rfl, rfl, fun w => by kernel_rfl⟩
 | 4, _ => exact ⟨⟨#[52]⟩, rfl, rfl, fun w => by kernel_rfl⟩
 | 5, _ => exact ⟨⟨#[53]⟩, rfl, rfl, fun w => by kernel_rfl⟩
 | 6, _ => exact ⟨⟨#[54]⟩, rfl, rfl, fun w => by kernel_rfl⟩
 | 7, _ => exact ⟨⟨#[55]⟩, rfl, rfl, fun w => by kernel_rfl⟩
 | 8, _ => exact ⟨⟨#[56]⟩, rfl, rfl, fun w => by kernel_rfl⟩
 | 9, _ => exact ⟨⟨#[57]⟩, rfl, rfl, fun w => by kernel_rfl⟩
 | 10, _ => exact ⟨⟨#[97]⟩, rfl, rfl, fun w => by kernel_rfl⟩
 | 11, _ => exact ⟨⟨#[98]⟩, rfl, rfl, fun w => by kernel_rfl⟩
 | 12, _ => exact ⟨⟨#[99]⟩, rfl, rfl, fun w => by kernel_rfl⟩
 | 13, _ => exact ⟨⟨#[100]⟩, rfl, rfl, fun w => by kernel_rfl⟩
 | 14, _ => exact ⟨⟨#[101]⟩, rfl, rfl, fun w => by kernel_rfl⟩
 | 15, _ => exact ⟨⟨#[102]⟩, rfl, rfl, fun w => by kernel_rfl⟩
 | j + 16, h => omega
theorem escB_plain {c : UInt8} (h1 : c ≠ 34) (h2 : c ≠ 92) (h3 : ¬ c.toNat < 32) : Sp.escB c = [c] := by
 unfold Sp.escB
 rw [if_neg (fun h => h.elim (fun h => h1 (UInt8.toNat_inj.1 h)) (fun h => h2 (UInt8.toNat_inj.1 h))), if_neg h3]
theorem escB_ctl {c : UInt8} (h3 : c.toNat < 32) : Sp.escB c = [92, 117, 48, 48, Sp.hexc (c.toNat / 16), Sp.hexc (c.toNat % 16)] := by
 unfold Sp.escB
 rw [if_neg (by omega), if_pos h3]
set_option maxRecDepth 100000 in
set_option maxHeartbeats 8000000 in
theorem rQuoted_t (t : ByteArray) (n : Nat) (hn : n = t.size) (hn2 : n ≤ 80000) (w : World) :
  Calls Tryz.prog 66 #[.string t] w fun e w' => (∃ A : ByteArray, e = .returned (.string A) ∧ A.data.toList = Sp.quoT t.data.toList) ∧ Below w.heap.size w w' := by
 have HN := hide hn
 have hle : n ≤ t.size := by omega
 have hge : t.size ≤ n := by omega
 clear hn
 go_enter Tryz.func66, Tryz.ntmps66
 go_wp2_with (fail)
 go_loopw [3, 4] (fun o i wr => ∃ (k : Nat) (A : ByteArray), k ≤ n ∧ i = .int .i64 k ∧ o = .string A ∧ A.data.toList = 34 :: Sp.escS (t.data.toList.take k) ∧ A.size ≤ 1 + 6 * k ∧ ∃ m, wr = w.drewN m) (fun _ i _ => n - (intOf i).toNat)
 case atStart => exact ⟨0, ⟨#[34]⟩, by omega, rfl, rfl, rfl, by decide, 0, rfl⟩
 case round =>
  obtain ⟨k, A, hk, rfl, rfl, hA, hAs, m, rfl⟩ := hrel
  have HA := hide hA
  clear hA
  by_cases hlt : k < n
  ·have hks : k < t.size := by omega
   have hx := one_ext t k hks
   have hst := hide (esc_take t k hks)
   obtain ⟨c, hc⟩ : ∃ c, t[k] = c := ⟨_, rfl⟩
   rw [hc] at hx hst
   by_cases h1 : c = 34
   ·subst h1
    have HC := hide hc
    go_wp2_with (fail)
    exact ⟨⟨k + 1, _, by omega, by go_num, rfl, by rw [app_list, app_list, unhide HA, unhide hst]; simp [Sp.escB], by simp only [ByteArray.size_append]; have : (⟨#[92]⟩ : ByteArray).size = 1 := rfl; have : (⟨#[34]⟩ : ByteArray).size = 1 := rfl; omega, m, rfl⟩, by simp only [intOf]; omega⟩
   ·have e1 : (c == 34) = false := beq_eq_false_iff_ne.2 h1
    have H1 := hide h1
    clear h1
    by_cases h2 : c = 92
    ·subst h2
     go_wp2_with (fail)
     exact ⟨⟨k + 1, _, by omega, by go_num, rfl, by rw [app_list, app_list, unhide HA, unhide hst]; simp [Sp.escB], by simp only [ByteArray.size_append]; have : (⟨#[92]⟩ : ByteArray).size = 1 := rfl; omega, m, rfl⟩, by simp only [intOf]; omega⟩
    ·have e2 : (c == 92) = false := beq_eq_false_iff_ne.2 h2
     have H2 := hide h2
     clear h2
     by_cases h3 : c.toNat < 32
     ·have e3 : decide ((c.toNat : Int) < 32) = true := decide_eq_true (by omega)
      obtain ⟨hi, hhi⟩ : ∃ hi, hi = c.toNat / 16 := ⟨_, rfl⟩
      obtain ⟨lo, hlo⟩ : ∃ lo, lo = c.toNat % 16 := ⟨_, rfl⟩
      have q1 : ((c.toNat : Int) / 16) = (hi : Int) := by omega
      have q2 : ((c.toNat : Int) % 16) = (lo : Int) := by omega
      obtain ⟨x1, a1, b1, d1⟩ := nib hi (by omega)
      obtain ⟨x2, a2, b2, d2⟩ := nib lo (by omega)
      have HHI := hide hhi
      have HLO := hide hlo
      have hib : hi < 16 := by omega
      have lob : lo < 16 := by omega
      clear hhi hlo
      have A1 := hide a1
      have A2 := hide a2
      have H3 := hide h3
      clear a1 a2
      go_wp2_with (fail)
      go_quiet (fail)
      go_wp2_with (fail)
      exact ⟨⟨k + 1, _, by omega, by go_num, rfl, by
       rw [app_list, app_list, app_list, unhide HA, unhide hst, escB_ctl (unhide H3), unhide A1, unhide A2, unhide HHI, unhide HLO]; simp, by
       simp only [ByteArray.size_append, b1, b2]; have : (⟨#[92, 117, 48, 48]⟩ : ByteArray).size = 4 := rfl; omega, _, rfl⟩, by simp only [intOf]; omega⟩
     ·have e3 : decide ((c.toNat : Int) < 32) = false := decide_eq_false (by omega)
      have H3 := hide h3
      clear h3
      go_wp2_with (fail)
      exact ⟨⟨k + 1, _, by omega, by go_num, rfl, by rw [app_list, unhide HA, unhide hst, escB_plain (unhide H1) (unhide H2) (unhide H3)]; simp, by simp only [ByteArray.size_append]; have : (⟨#[c]⟩ : ByteArray).size = 1 := rfl; omega, m, rfl⟩, by simp only [intOf]; omega⟩
  ·go_wp2_with (fail)
   go_ret
   have hkn : t.data.toList.take k = t.data.toList := List.take_of_length_le (by simp; omega)
   refine ⟨⟨_, rfl, ?_⟩, ⟨rfl, rfl, rfl, Nat.le_refl _, fun _ _ => rfl⟩⟩
   rw [app_list, unhide HA, hkn]
   rfl
theorem quoT_len (s : Sp.By) : (Sp.quoT s).length ≤ 6 * s.length + 2 := escS_le s
theorem rQuoted_any (s : Sp.By) (hs : s.length ≤ 80000) (w : World) :
  Calls Tryz.prog 66 #[.string ⟨s.toArray⟩] w fun e w' => e = .returned (.string ⟨(Sp.quoT s).toArray⟩) ∧ Below w.heap.size w w' := by
 refine (rQuoted_t ⟨s.toArray⟩ s.length (bs_size s).symm hs w).mono ?_
 rintro e w' ⟨⟨A, rfl, hA⟩, hb⟩
 refine ⟨?_, hb⟩
 have : A = ⟨(Sp.quoT s).toArray⟩ := by rw [show Sp.quoT s = A.data.toList from hA.symm, Array.toArray_toList]
 rw [this]
theorem ret_str {A : ByteArray} {l : Sp.By} (h : A.data.toList = l) : Ending.returned (.string A) = .returned (.string ⟨l.toArray⟩) := by
 rw [← h, Array.toArray_toList]
set_option maxRecDepth 100000 in
set_option maxHeartbeats 8000000 in
theorem rVTold_any {w : World} {b : Nat} {ng : Bool} {ds : Sp.By} {x : Int} (h : OB w b Sp.kdN ng ds x [] nilS nilS) (hx : -400 ≤ x ∧ x ≤ 400) (hd : ds.length ≤ 80000) (hT : Laid w) :
  Calls Tryz.prog 65 #[.pointer (some ⟨b, 0, none⟩)] w fun e w' => e = .returned (.string ⟨(Sp.numT (ng, ds, x)).toArray⟩) ∧ Below w.heap.size w w' := by
 have c1 := h.c1
 have c2 := h.c2
 have c3 := h.c3
 have HT := hide hT.tab
 clear h hT
 cases ds with
 | nil =>
  go_enter Tryz.func65, Tryz.ntmps65
  go_wp2_with (fail)
  go_ret
  exact ⟨rfl, Below.refl _ _⟩
 | cons a r =>
  have hE := hide (show Sp.numT (ng, a :: r, x) = (if ng then [45] else []) ++ ((a :: r) ++ (if x = 0 then [] else 101 :: Lib.itoa x)) by unfold Sp.numT; rw [if_neg (by simp)])
  simp only [List.length_cons] at hd
  have hsz : (⟨(a :: r).toArray⟩ : ByteArray).size = r.length + 1 := by rw [bs_size]; rfl
  cases ng with
  | false =>
   by_cases h0 : x = 0
   ·subst h0
    go_enter Tryz.func65, Tryz.ntmps65
    go_wp2_with (fail)
    go_ret
    refine ⟨?_, Below.refl _ _⟩
    rw [unhide hE]
    simp
   ·have e0 : (x != 0) = true := by simpa using h0
    have e1 : (x == 0) = false := by simpa using h0
    have H0 := hide h0
    clear h0
    go_enter Tryz.func65, Tryz.ntmps65
    go_wp2_with (fail)
    refine (Tryz.strconv_Itoa x (by omega) (by omega) w (unhide HT)).mono ?_
    rintro e w5 ⟨rfl, kk, os, rfl⟩
    have hb5 := grow_below w kk os
    have hil := Lib.itoa_length_le x (by omega) (by omega)
    have hiz : (⟨(Lib.itoa x).toArray⟩ : ByteArray).size = (Lib.itoa x).length := bs_size _
    have HB5 := hide hb5
    generalize Sort.grow (w.drewN kk) os = w5 at *
    clear hb5
    go_wp2_with (fail)
    go_ret
    refine ⟨?_, unhide HB5⟩
    rw [unhide hE, if_neg (unhide H0)]
    exact ret_str (by simp)
  | true =>
   by_cases h0 : x = 0
   ·subst h0
    go_enter Tryz.func65, Tryz.ntmps65
    go_wp2_with (fail)
    go_ret
    refine ⟨?_, Below.refl _ _⟩
    rw [unhide hE]
    exact ret_str (by simp)
   ·have e0 : (x != 0) = true := by simpa using h0
    have e1 : (x == 0) = false := by simpa using h0
    have H0 := hide h0
    clear h0
    go_enter Tryz.func65, Tryz.ntmps65
    go_wp2_with (fail)
    refine (Tryz.strconv_Itoa x (by omega) (by omega) w (unhide HT)).mono ?_
    rintro e w5 ⟨rfl, kk, os, rfl⟩
    have hb5 := grow_below w kk os
    have hil := Lib.itoa_length_le x (by omega) (by omega)
    have hiz : (⟨(Lib.itoa x).toArray⟩ : ByteArray).size = (Lib.itoa x).length := bs_size _
    have HB5 := hide hb5
    generalize Sort.grow (w.drewN kk) os = w5 at *
    clear hb5
    go_wp2_with (fail)
    go_ret
    refine ⟨?_, unhide HB5⟩
    rw [unhide hE, if_neg (unhide H0)]
    exact ret_str (by simp)
end Go.Proofs.YtdpomdelmdofmaaGreatDoor

namespace Go.Proofs.YtdpomdelmdofmaaGreatDoor
open Go.RowKit Go.Maps
theorem puts_perm (L : List (Lit × Sp.V)) : ∀ E : List (Lit × Sp.V), (E ++ L).Pairwise (fun p q => p.1 ≠ q.1) → ∃ E', Sp.puts (.map E) L = .map E' ∧ E'.Perm (E ++ L) := by
 induction L with
 | nil => intro E _; exact ⟨E, rfl, by simp⟩
 | cons p r ih =>
  intro E h
  have hp1 : (E ++ p :: r).Perm (p :: (E ++ r)) := List.perm_middle
  have hpw : (p :: (E ++ r)).Pairwise (fun p q => p.1 ≠ q.1) := hp1.pairwise h (fun hab => Ne.symm hab)
  have hne : ∀ q ∈ E, q.1.sameKey p.1 = false := fun q hq => sameKey_ne (Ne.symm ((List.pairwise_cons.1 hpw).1 q (by simp [hq])))
  have hf : (E.filter fun q => !q.1.sameKey p.1) = E := List.filter_eq_self.2 fun q hq => by rw [hne q hq]; rfl
  have hput : DataW.put (.map E) p.1 p.2 = .map (DataW.insert (p.1, p.2) E) := by
   show DataW.map (DataW.insert (p.1, p.2) (E.filter fun q => !q.1.sameKey p.1)) = _
   rw [hf]
  have hins : (DataW.insert (p.1, p.2) E).Perm (p :: E) := Go.WideShapes.insert_perm _ _
  have h2 : (DataW.insert (p.1, p.2) E ++ r).Perm (E ++ p :: r) := ((hins.append_right r).trans (List.Perm.refl _)).trans hp1.symm
  obtain ⟨E', e1, e2⟩ := ih (DataW.insert (p.1, p.2) E) (h2.symm.pairwise h (fun hab => Ne.symm hab))
  exact ⟨E', by show Sp.puts (DataW.put (.map E) p.1 p.2) r = _; rw [hput]; exact e1, e2.trans h2⟩
theorem obj_form (f : Nat) (es : Sp.Ms) (hnd : (es.map (·.1)).Nodup) : ∃ es', Sp.nrm (f + 1) (Sp.oObj es) = Sp.vObj es' ∧ (Sp.keys es').Perm (es.map (·.1)) ∧ ∀ p ∈ es, Sp.look es' p.1 = Sp.nrm f p.2 := by
 have hpw : ((Sp.lits es).map fun p => (p.1, Sp.nrm f p.2)).Pairwise (fun p q => p.1 ≠ q.1) := by
  unfold Sp.lits
  rw [List.pairwise_map, List.pairwise_map]
  have h2 : es.Pairwise (fun a b => a.1 ≠ b.1) := List.pairwise_map.1 hnd
  exact h2.imp fun h e => h (Lit.string.inj e)
 obtain ⟨L, hL⟩ : ∃ L : List (Lit × Sp.V), L = (Sp.lits es).map fun p => (p.1, Sp.nrm f p.2) := ⟨_, rfl⟩
 rw [← hL] at hpw
 obtain ⟨E', e1, e2⟩ := puts_perm L [] hpw
 rw [List.nil_append] at e2
 rw [hL] at e1 e2 hpw
 refine ⟨E', e1, ?_, fun p hp => ?_⟩
 ·have h3 := e2.map (fun p : Lit × Sp.V => match p.1 with | .string b => b | _ => [])
  unfold Sp.keys
  refine h3.trans (List.Perm.of_eq ?_)
  unfold Sp.lits
  rw [List.map_map, List.map_map]
  rfl
 ·unfold Sp.look
  refine WideAt.atKey_mem .nil trivial (e2.symm.pairwise hpw (fun hab => Ne.symm hab)) (e2.mem_iff.2 ?_)
  exact List.mem_map.2 ⟨(.string p.1, p.2), List.mem_map.2 ⟨p, hp, rfl⟩, rfl⟩
theorem skeys_rise {es : List (Lit × Sp.V)} {ks : List Sp.By} (h : (Sp.keys es).Perm ks) (hnd : ks.Nodup) : (Sp.skeys es).Perm ks ∧ (Sp.skeys es).Pairwise (fun a b => a < b) := by
 have hp : (Sp.skeys es).Perm ks := (List.mergeSort_perm _ _).trans h
 refine ⟨hp, ?_⟩
 have h1 : (Sp.skeys es).Pairwise (fun a b => (decide (a ≤ b)) = true) := List.pairwise_mergeSort (le := fun a b : Sp.By => decide (a ≤ b)) (fun a b c h1 h2 => by simp only [decide_eq_true_eq] at *; exact List.le_trans h1 h2) (fun a b => by simp only [Bool.or_eq_true, decide_eq_true_eq]; exact List.le_total a b) _
 have h2 : (Sp.skeys es).Nodup := hp.nodup_iff.2 hnd
 refine (h1.and h2).imp ?_
 rintro a b ⟨h3, h4⟩
 simp only [decide_eq_true_eq] at h3
 rcases Decidable.em (a < b) with h5 | h5
 ·exact h5
 ·exact absurd (List.le_antisymm h3 h5) h4
def Sp.qual (i : Nat) (last k : Sp.By) : Prop := i = 0 ∨ last < k
theorem qual_ex {sk ks : List Sp.By} (hp : sk.Perm ks) (hs : sk.Pairwise (fun a b => a < b)) {i : Nat} (hi : i < sk.length) {last : Sp.By} (hl : ∀ _ : 0 < i, last = sk[i - 1]) : ∃ (x : Nat) (hx : x < ks.length), ks[x] = sk[i] ∧ Sp.qual i last ks[x] := by
 obtain ⟨x, hx, e⟩ := List.getElem_of_mem (hp.mem_iff.1 (List.getElem_mem hi))
 refine ⟨x, hx, e, ?_⟩
 by_cases h0 : i = 0
 ·exact Or.inl h0
 ·right
  rw [hl (by omega), e]
  exact List.pairwise_iff_getElem.1 hs _ _ _ _ (by omega)
theorem next_key {sk ks : List Sp.By} (hp : sk.Perm ks) (hs : sk.Pairwise (fun a b => a < b)) {i : Nat} (hi : i < sk.length) {last : Sp.By} (hl : ∀ _ : 0 < i, last = sk[i - 1]) {a : Nat} (ha : a < ks.length) (hq : Sp.qual i last ks[a])
  (hmin : ∀ (x : Nat) (hx : x < ks.length), Sp.qual i last ks[x] → ¬ ks[x] < ks[a]) : ks[a] = sk[i] := by
 obtain ⟨x, hx, e, hqx⟩ := qual_ex hp hs hi hl
 have h1 := hmin x hx hqx
 rw [e] at h1
 obtain ⟨m, hm, em⟩ := List.getElem_of_mem (hp.mem_iff.2 (List.getElem_mem ha))
 rw [← em] at h1 hq ⊢
 have hlt : ∀ (x y : Nat) (hx : x < sk.length) (hy : y < sk.length), x < y → sk[x] < sk[y] := fun x y hx hy h => List.pairwise_iff_getElem.1 hs _ _ hx hy h
 rcases Nat.lt_trichotomy m i with h | h | h
 ·exfalso
  rcases hq with h0 | h0
  ·omega
  ·rw [hl (by omega)] at h0
   rcases Nat.lt_or_ge m (i - 1) with h2 | h2
   ·exact List.lt_irrefl _ (List.lt_trans h0 (hlt m (i - 1) hm (by omega) h2))
   ·have : m = i - 1 := by omega
    subst this
    exact List.lt_irrefl _ h0
 ·subst h; rfl
 ·exact absurd (hlt i m hi hm h) h1
theorem joinC_mem_len (l : List Sp.By) (x : Sp.By) (h : x ∈ l) : x.length ≤ (Sp.joinC l).length := by
 obtain ⟨i, hi, rfl⟩ := List.getElem_of_mem h
 have h1 := Sp.joinC_take l i hi
 have h2 := Sp.joinC_len_take l (i + 1)
 have h3 := congrArg List.length h1
 simp only [List.length_append] at h3
 omega
end Go.Proofs.YtdpomdelmdofmaaGreatDoor

namespace Go.Proofs.YtdpomdelmdofmaaGreatDoor
open Go.RowKit
def Best (i : Nat) (last : Sp.By) (ks : List Sp.By) (j : Nat) (a : Int) : Prop :=
 (a = -1 ∧ ∀ (x : Nat) (hx : x < ks.length), x < j → ¬ Sp.qual i last ks[x]) ∨
 (∃ (m : Nat) (hm : m < ks.length), a = (m : Int) ∧ Sp.qual i last ks[m] ∧ ∀ (x : Nat) (hx : x < ks.length), x < j → Sp.qual i last ks[x] → ¬ ks[x] < ks[m])
theorem Best.skip {i : Nat} {last : Sp.By} {ks : List Sp.By} {j : Nat} {a : Int} (h : Best i last ks j a) (hj : j < ks.length) (hq : ¬ Sp.qual i last ks[j]) : Best i last ks (j + 1) a := by
 rcases h with ⟨h1, h2⟩ | ⟨m, hm, h1, h2, h3⟩
 ·refine Or.inl ⟨h1, fun x hx hlt => ?_⟩
  by_cases e : x = j
  ·subst e; exact hq
  ·exact h2 x hx (by omega)
 ·refine Or.inr ⟨m, hm, h1, h2, fun x hx hlt hqx => ?_⟩
  by_cases e : x = j
  ·subst e; exact absurd hqx hq
  ·exact h3 x hx (by omega) hqx
theorem Best.first {i : Nat} {last : Sp.By} {ks : List Sp.By} {j : Nat} (hno : ∀ (x : Nat) (hx : x < ks.length), x < j → ¬ Sp.qual i last ks[x]) (hj : j < ks.length) (hq : Sp.qual i last ks[j]) : Best i last ks (j + 1) (j : Nat) := by
 refine Or.inr ⟨j, hj, rfl, hq, fun x hx hlt hqx => ?_⟩
 by_cases e : x = j
 ·subst e; exact List.lt_irrefl _
 ·exact absurd hqx (hno x hx (by omega))
theorem Best.less {i : Nat} {last : Sp.By} {ks : List Sp.By} {j m : Nat} (hm : m < ks.length) (hmin : ∀ (x : Nat) (hx : x < ks.length), x < j → Sp.qual i last ks[x] → ¬ ks[x] < ks[m]) (hj : j < ks.length) (hq : Sp.qual i last ks[j]) (hl : ks[j] < ks[m]) : Best i last ks (j + 1) (j : Nat) := by
 refine Or.inr ⟨j, hj, rfl, hq, fun x hx hlt hqx => ?_⟩
 by_cases e : x = j
 ·subst e; exact List.lt_irrefl _
 ·exact fun h => hmin x hx (by omega) hqx (List.lt_trans h hl)
theorem Best.keep {i : Nat} {last : Sp.By} {ks : List Sp.By} {j m : Nat} (hm : m < ks.length) (hqm : Sp.qual i last ks[m]) (hmin : ∀ (x : Nat) (hx : x < ks.length), x < j → Sp.qual i last ks[x] → ¬ ks[x] < ks[m]) (hj : j < ks.length) (hl : ¬ ks[j] < ks[m]) : Best i last ks (j + 1) (m : Nat) := by
 refine Or.inr ⟨m, hm, rfl, hqm, fun x hx hlt hqx => ?_⟩
 by_cases e : x = j
 ·subst e; exact hl
 ·exact hmin x hx (by omega) hqx
theorem bl_eq : ∀ (x y : List UInt8), Op.bytesLess x y = decide (x < y)
 | [], [] => by simp [Op.bytesLess]
 | _ :: _, [] => by simp [Op.bytesLess]
 | [], _ :: _ => by simp [Op.bytesLess]
 | a :: x, b :: y => by
  rw [Op.bytesLess, bl_eq x y, Bool.eq_iff_iff]
  simp [List.cons_lt_cons_iff]
theorem bl_t {x y : Sp.By} (h : x < y) : Op.bytesLess x y = true := by rw [bl_eq]; exact decide_eq_true h
theorem bl_f {x y : Sp.By} (h : ¬ x < y) : Op.bytesLess x y = false := by rw [bl_eq]; exact decide_eq_false h
def OcOk (f : Nat) : Prop := ∀ (F : Nat → Prop) (w : World) (v : Value) (o : Sp.O), ORep f F w v o → Sp.goO f o → Laid w → (Sp.can f (Sp.nrm f o)).length ≤ 80000 →
 Calls Tryz.prog 46 #[v] w fun e w' => e = .returned (.string ⟨(Sp.can f (Sp.nrm f o)).toArray⟩) ∧ Below w.heap.size w w'
theorem ORep.below {f : Nat} {F : Nat → Prop} {w w' : World} {v : Value} {o : Sp.O} (h : ORep f F w v o) (hb : Below w.heap.size w w') : ORep f F w' v o := h.move fun k h1 h2 => ⟨hb.block k h2, h1⟩
set_option maxRecDepth 100000 in
set_option maxHeartbeats 16000000 in
theorem members_ok {f : Nat} (hC : OcOk f) {w : World} {F : Nat → Prop} {b B1 B2 : Nat} {kl sl : Value} {ps : List Value} {es : Sp.Ms} {es' : List (Lit × Sp.V)} (h : OB w b Sp.kdO false [] 0 [] kl sl) (hk : w.ownsRow B1 9 1 kl es.length (es.map fun p => strV p.1)) (hv : w.ownsRow B2 66 1 sl ps.length ps)
  (hal : Al (ORep f F w) ps (es.map (·.2))) (hgo : ∀ p ∈ es, Sp.goO f p.2) (hperm : (Sp.skeys es').Perm (es.map (·.1))) (hsort : (Sp.skeys es').Pairwise (fun a b => a < b)) (hlook : ∀ p ∈ es, Sp.look es' p.1 = Sp.nrm f p.2) (hT : Laid w)
  (hlen : (Sp.joinC ((Sp.skeys es').map (Sp.item f es'))).length + 2 ≤ 80000) (hpos : 0 < es.length) :
  Calls Tryz.prog 67 #[.pointer (some ⟨b, 0, none⟩)] w fun e w' => e = .returned (.string ⟨(123 :: (Sp.joinC ((Sp.skeys es').map (Sp.item f es')) ++ [125])).toArray⟩) ∧ Below w.heap.size w w' := by
 have hpl : ps.length = es.length := by have := hal.length; simpa using this
 obtain ⟨N, hN⟩ : ∃ N, N = es.length := ⟨_, rfl⟩
 obtain ⟨g1, p1, e1, a1, b1, l1, hc1⟩ := owns_cell hk hpos
 obtain ⟨g2, p2, e2, a2, b2, l2, hc2⟩ := owns_cell hv (by omega)
 subst e1 e2
 have c5 := h.c5
 have c6 := h.c6
 rw [hpl, ← hN] at c6
 rw [← hN] at c5 a1
 have a2' : N ≤ p2 := by omega
 have hn1 : (N : Int) ≤ 9223372036854775807 := by unfold maxLen at b1; omega
 have hbl := h.lt
 obtain ⟨ks, hks⟩ : ∃ ks, ks = es.map (·.1) := ⟨_, rfl⟩
 have hkc : ∀ j (hj : j < ks.length), w.cell? ⟨g1, j, none⟩ = some (strV ks[j]) := by
  intro j hj
  subst hks
  rw [hc1 j (by simpa using hj)]
  simp
 rw [← hks] at hperm
 have hkl : ks.length = N := by rw [hks, hN]; simp
 obtain ⟨sk, hsk⟩ : ∃ sk, sk = Sp.skeys es' := ⟨_, rfl⟩
 rw [← hsk] at hperm hsort hlen ⊢
 have hskl : sk.length = N := by rw [hperm.length_eq, hkl]
 have HKC := hide hkc
 have HC2 := hide hc2
 have HKL := hide hkl
 have HSKL := hide hskl
 have HPERM := hide hperm
 have HSORT := hide hsort
 have HN := hide hN
 have HPL := hide hpl
 have HAL := hide hal
 have HGO := hide hgo
 have HLOOK := hide hlook
 have HKS := hide hks
 have HLEN := hide hlen
 have HT := hide hT
 have HC := hide hC
 have HSK := hide hsk
 clear h hk hv hal hgo hperm hsort hlook hT hlen hpos hpl hN hc1 hc2 hks hkc hkl hsk hskl hC
 go_enter Tryz.func67, Tryz.ntmps67
 go_wp2_with (fail)
 go_loopw [3, 4, 5] (fun s la n wr => ∃ (i : Nat) (A : ByteArray) (last : Sp.By), i ≤ N ∧ s = .string A ∧ la = strV last ∧ n = .int .i64 i ∧ A.data.toList = 123 :: Sp.joinC ((sk.map (Sp.item f es')).take i) ∧ (∀ (h0 : 0 < i) (hi : i - 1 < sk.length), last = sk[i - 1]) ∧ Below w.heap.size w wr) (fun _ _ n _ => N - (intOf n).toNat)
 case atStart => exact ⟨0, ⟨#[123]⟩, [], by omega, rfl, rfl, rfl, rfl, fun h0 => absurd h0 (by omega), Below.refl _ _⟩
 case round =>
  obtain ⟨i, A, last, hi, rfl, rfl, rfl, hA, hlast, hb⟩ := hrel
  have HA := hide hA
  have HLAST := hide hlast
  have HB := hide hb
  have r5 := (hb.cell (p := ⟨b, 5, none⟩) hbl).trans c5
  have r6 := (hb.cell (p := ⟨b, 6, none⟩) hbl).trans c6
  have HKC2 := hide (fun (j : Nat) (hj : j < ks.length) => (hb.cell (p := ⟨g1, j, none⟩) l1).trans (unhide HKC j hj))
  have HC22 := hide (fun (j : Nat) (hj : j < ps.length) => (hb.cell (p := ⟨g2, j, none⟩) l2).trans (unhide HC2 j hj))
  clear hA hlast hb
  by_cases hlt : i < N
  ·go_wp2_with (fail)
   go_loopw [6, 7] (fun at' j' wq => ∃ (j q : Nat) (a : Int), j ≤ N ∧ j' = .int .i64 j ∧ at' = .int .i64 a ∧ Best i last ks j a ∧ wq = wr.drewN q) (fun _ j _ => N - (intOf j).toNat)
   case atStart => exact ⟨0, 0, -1, by omega, rfl, rfl, Or.inl ⟨rfl, fun x _ hx => absurd hx (by omega)⟩, rfl⟩
   case round =>
    obtain ⟨j, q, a, hj, rfl, rfl, hbest, rfl⟩ := hrel
    have HBEST := hide hbest
    clear hbest
    by_cases hjn : j < N
    ·have hjk : j < ks.length := by have := unhide HKL; omega
     have q1 := unhide HKC2 j hjk
     unfold strV at q1
     obtain ⟨kj, hkj⟩ : ∃ kj, ks[j] = kj := ⟨_, rfl⟩
     rw [hkj] at q1
     have HKJ := hide hkj
     clear hkj
     unfold strV
     by_cases hi0 : i = 0
     ·have e0 : ((i : Int) == 0) = true := by rw [hi0]; rfl
      have HQ := hide (show Sp.qual i last ks[j] from Or.inl hi0)
      clear hi0
      rcases unhide HBEST with ⟨rfl, hno⟩ | ⟨m, hm, rfl, hqm, hmin⟩
      ·have HB1 := hide (Best.first hno hjk (unhide HQ))
       clear hno HBEST
       go_wp2_with (fail)
       go_quiet (fail)
       go_wp2_with (fail)
       exact ⟨⟨j + 1, _, (j : Nat), by omega, by go_num, rfl, unhide HB1, rfl⟩, by simp only [intOf]; omega⟩
      ·have q2 := unhide HKC2 m hm
       unfold strV at q2
       obtain ⟨km, hkm⟩ : ∃ km, ks[m] = km := ⟨_, rfl⟩
       rw [hkm] at q2
       have hmN : m < N := by have := unhide HKL; omega
       have em : decide ((m : Int) < 0) = false := decide_eq_false (by omega)
       by_cases hlss : kj < km
       ·have b3 := bl_t hlss
        have HB1 := hide (Best.less hm hmin hjk (unhide HQ) (by rw [hkm, unhide HKJ]; exact hlss))
        clear hkm hqm hmin hlss HBEST
        go_wp2_with (fail)
        go_quiet (fail)
        go_wp2_with (fail)
        exact ⟨⟨j + 1, _, (j : Nat), by omega, by go_num, rfl, unhide HB1, rfl⟩, by simp only [intOf]; omega⟩
       ·have b3 := bl_f hlss
        have HB1 := hide (Best.keep hm hqm hmin hjk (by rw [hkm, unhide HKJ]; exact hlss))
        clear hkm hqm hmin hlss HBEST
        go_wp2_with (fail)
        go_quiet (fail)
        go_wp2_with (fail)
        exact ⟨⟨j + 1, _, (m : Nat), by omega, by go_num, rfl, unhide HB1, rfl⟩, by simp only [intOf]; omega⟩
     ·have e0 : ((i : Int) == 0) = false := by rw [beq_eq_false_iff_ne]; omega
      by_cases hgt : last < kj
      ·have HQ := hide (show Sp.qual i last ks[j] from Or.inr (by rw [unhide HKJ]; exact hgt))
       have b1 : Op.bytesLess kj last = false := bl_f (fun h => List.lt_irrefl _ (List.lt_trans h hgt))
       have b2 : (kj == last) = false := by rw [beq_eq_false_iff_ne]; intro h; rw [h] at hgt; exact List.lt_irrefl _ hgt
       clear hgt hi0
       rcases unhide HBEST with ⟨rfl, hno⟩ | ⟨m, hm, rfl, hqm, hmin⟩
       ·have HB1 := hide (Best.first hno hjk (unhide HQ))
        clear hno HBEST
        go_wp2_with (fail)
        go_quiet (fail)
        go_wp2_with (fail)
        exact ⟨⟨j + 1, _, (j : Nat), by omega, by go_num, rfl, unhide HB1, rfl⟩, by simp only [intOf]; omega⟩
       ·have q2 := unhide HKC2 m hm
        unfold strV at q2
        obtain ⟨km, hkm⟩ : ∃ km, ks[m] = km := ⟨_, rfl⟩
        rw [hkm] at q2
        have hmN : m < N := by have := unhide HKL; omega
        have em : decide ((m : Int) < 0) = false := decide_eq_false (by omega)
        by_cases hlss : kj < km
        ·have b3 := bl_t hlss
         have HB1 := hide (Best.less hm hmin hjk (unhide HQ) (by rw [hkm, unhide HKJ]; exact hlss))
         clear hkm hqm hmin hlss HBEST
         go_wp2_with (fail)
         go_quiet (fail)
         go_wp2_with (fail)
         exact ⟨⟨j + 1, _, (j : Nat), by omega, by go_num, rfl, unhide HB1, rfl⟩, by simp only [intOf]; omega⟩
        ·have b3 := bl_f hlss
         have HB1 := hide (Best.keep hm hqm hmin hjk (by rw [hkm, unhide HKJ]; exact hlss))
         clear hkm hqm hmin hlss HBEST
         go_wp2_with (fail)
         go_quiet (fail)
         go_wp2_with (fail)
         exact ⟨⟨j + 1, _, (m : Nat), by omega, by go_num, rfl, unhide HB1, rfl⟩, by simp only [intOf]; omega⟩
      ·have HQ := hide (show ¬ Sp.qual i last ks[j] from fun h => h.elim hi0 (by rw [unhide HKJ]; exact hgt))
       by_cases hlt2 : kj < last
       ·have b1 := bl_t hlt2
        clear hgt hi0 hlt2
        have HB1 := hide ((unhide HBEST).skip hjk (unhide HQ))
        clear HBEST
        go_wp2_with (fail)
        go_quiet (fail)
        go_wp2_with (fail)
        exact ⟨⟨j + 1, _, a, by omega, by go_num, rfl, unhide HB1, rfl⟩, by simp only [intOf]; omega⟩
       ·have b2 : (kj == last) = true := by rw [beq_iff_eq]; exact List.le_antisymm hgt hlt2
        clear hgt hi0 hlt2
        have HB1 := hide ((unhide HBEST).skip hjk (unhide HQ))
        clear HBEST
        go_wp2_with (fail)
        go_quiet (fail)
        go_wp2_with (fail)
        exact ⟨⟨j + 1, _, a, by omega, by go_num, rfl, unhide HB1, rfl⟩, by simp only [intOf]; omega⟩
    ·obtain ⟨hjN⟩ : Nonempty (j = N) := ⟨by omega⟩
     have hiS : i < sk.length := by have := unhide HSKL; omega
     have hlst : ∀ _ : 0 < i, last = sk[i - 1] := fun h => unhide HLAST h (by omega)
     obtain ⟨m, hm, rfl, hqm, hmin⟩ : ∃ (m : Nat) (hm : m < ks.length), a = (m : Int) ∧ Sp.qual i last ks[m] ∧ ∀ (x : Nat) (hx : x < ks.length), x < j → Sp.qual i last ks[x] → ¬ ks[x] < ks[m] := by
      rcases unhide HBEST with ⟨_, hno⟩ | h
      ·exfalso
       obtain ⟨x, hx, _, hqx⟩ := qual_ex (unhide HPERM) (unhide HSORT) hiS hlst
       exact hno x hx (by have := unhide HKL; omega) hqx
      ·exact h
     have hkey := next_key (unhide HPERM) (unhide HSORT) hiS hlst hm hqm (fun x hx => hmin x hx (by have := unhide HKL; omega))
     obtain ⟨ki, hki⟩ : ∃ ki, sk[i] = ki := ⟨_, rfl⟩
     rw [hki] at hkey
     have q1 := unhide HKC2 m hm
     rw [hkey] at q1
     unfold strV at q1 ⊢
     have hmN : m < N := by have := unhide HKL; omega
     have hmP : m < ps.length := by have := unhide HPL; have := unhide HN; omega
     have hmE : m < es.length := by have := unhide HN; omega
     have q2 := unhide HC22 m hmP
     obtain ⟨pm, hpm⟩ : ∃ pm, ps[m] = pm := ⟨_, rfl⟩
     have hrep := (unhide HAL).get m hmP (by simpa using hmE)
     rw [hpm] at q2 hrep
     rw [List.getElem_map] at hrep
     have hek : es[m].1 = ki := by
      have h9 : ks[m] = es[m].1 := by
       have := unhide HKS
       subst this
       simp
      rw [← h9, hkey]
     have hlk := unhide HLOOK es[m] (List.getElem_mem hmE)
     rw [hek] at hlk
     have hgm := unhide HGO es[m] (List.getElem_mem hmE)
     obtain ⟨om, hom⟩ : ∃ om, es[m].2 = om := ⟨_, rfl⟩
     rw [hom] at hrep hlk hgm
     have hil : i < (sk.map (Sp.item f es')).length := by simpa using hiS
     have hit : (sk.map (Sp.item f es'))[i] = Sp.quoT ki ++ 58 :: Sp.can f (Sp.nrm f om) := by rw [List.getElem_map, hki]; unfold Sp.item; rw [hlk]
     have hst := Sp.joinC_take (sk.map (Sp.item f es')) i hil
     rw [hit] at hst
     have hl1 := Sp.joinC_len_take (sk.map (Sp.item f es')) (i + 1)
     have hl2 := congrArg List.length hst
     simp only [List.length_append, List.length_cons] at hl2
     have hl3 := unhide HLEN
     have hAl := congrArg List.length (unhide HA)
     rw [← Lib.size_eq] at hAl
     simp only [List.length_cons] at hAl
     have hcl : (Sp.can f (Sp.nrm f om)).length ≤ 80000 := by omega
     have hql : (Sp.quoT ki).length ≤ 80000 := by omega
     have hkil : ki.length ≤ 80000 := by have := Sp.quoT_len ki; omega
     have hAz : A.size ≤ 80001 := by omega
     have hz1 : (⟨(Sp.quoT ki).toArray⟩ : ByteArray).size ≤ 80000 := by rw [bs_size]; exact hql
     have hz2 : (⟨(Sp.can f (Sp.nrm f om)).toArray⟩ : ByteArray).size ≤ 80000 := by rw [bs_size]; exact hcl
     have HST := hide hst
     have HREP := hide hrep
     have HGM := hide hgm
     have HKI := hide hki
     have HCL := hide hcl
     clear hqm hmin hkey hek hlk hom hit hst hl1 hl2 hl3 hAl hrep hgm hki hlst HBEST
     have hpm3 := hpm
     clear hpm
     have hq2 : Below wr.heap.size wr (wr.drewN q) := bel_same
     by_cases hi0 : ¬ 0 < i
     ·have e0 : decide ((0 : Int) < (i : Int)) = false := decide_eq_false (by omega)
      have HI0 := hide hi0
      go_wp2_with (fail)
      refine (rQuoted_any ki hkil _).mono ?_
      rintro e w4 ⟨rfl, hb4⟩
      have hbw4 : Below w.heap.size w w4 := ((unhide HB).trans (hq2.mono (unhide HB).size)).trans (hb4.mono (by have := (unhide HB).size; simpa [World.drewN] using this))
      have y6 := (hbw4.cell (p := ⟨b, 6, none⟩) hbl).trans c6
      have y2 := (hbw4.cell (p := ⟨g2, m, none⟩) l2).trans ((unhide HC2) m hmP)
      have HB4 := hide hbw4
      clear hb4 hbw4
      have hpm2 : ps[m] = pm := hpm3
      rw [hpm2] at y2
      clear hpm2
      go_wp2_with (fail)
      refine (unhide HC F w4 pm om ((unhide HREP).below (unhide HB4)) (unhide HGM) ((unhide HT).below ((unhide HB4).mono (unhide HT).ng)) (unhide HCL)).mono ?_
      rintro e w5 ⟨rfl, hb5⟩
      have HB5 := hide ((unhide HB4).trans (hb5.mono (unhide HB4).size))
      clear hb5
      go_wp2_with (fail)
      refine ⟨⟨i + 1, _, ki, by omega, rfl, rfl, by go_num, ?_, ?_, unhide HB5⟩, by simp only [intOf]; omega⟩
      ·rw [unhide HST, if_neg (unhide HI0)]; simp [unhide HA]
      ·intro _ _; exact (unhide HKI).symm
     ·have hi1 : 0 < i := by omega
      have e0 : decide ((0 : Int) < (i : Int)) = true := decide_eq_true (by omega)
      have HI0 := hide hi1
      clear hi0
      go_wp2_with (fail)
      refine (rQuoted_any ki hkil _).mono ?_
      rintro e w4 ⟨rfl, hb4⟩
      have hbw4 : Below w.heap.size w w4 := ((unhide HB).trans (hq2.mono (unhide HB).size)).trans (hb4.mono (by have := (unhide HB).size; simpa [World.drewN] using this))
      have y6 := (hbw4.cell (p := ⟨b, 6, none⟩) hbl).trans c6
      have y2 := (hbw4.cell (p := ⟨g2, m, none⟩) l2).trans ((unhide HC2) m hmP)
      have HB4 := hide hbw4
      clear hb4 hbw4
      have hpm2 : ps[m] = pm := hpm3
      rw [hpm2] at y2
      clear hpm2
      go_wp2_with (fail)
      refine (unhide HC F w4 pm om ((unhide HREP).below (unhide HB4)) (unhide HGM) ((unhide HT).below ((unhide HB4).mono (unhide HT).ng)) (unhide HCL)).mono ?_
      rintro e w5 ⟨rfl, hb5⟩
      have HB5 := hide ((unhide HB4).trans (hb5.mono (unhide HB4).size))
      clear hb5
      go_wp2_with (fail)
      refine ⟨⟨i + 1, _, ki, by omega, rfl, rfl, by go_num, ?_, ?_, unhide HB5⟩, by simp only [intOf]; omega⟩
      ·rw [unhide HST, if_pos (unhide HI0)]; simp [unhide HA]
      ·intro _ _; exact (unhide HKI).symm
  ·have hiN : i = N := by omega
   have hli : (sk.map (Sp.item f es')).take i = sk.map (Sp.item f es') := List.take_of_length_le (by have := unhide HSKL; simp; omega)
   have hAl := congrArg List.length (unhide HA)
   rw [← Lib.size_eq, hli] at hAl
   simp only [List.length_cons] at hAl
   have hl3 := unhide HLEN
   have hAz : A.size ≤ 80001 := by omega
   have HLI := hide hli
   clear hiN hli hAl hl3
   go_wp2_with (fail)
   go_ret
   refine ⟨?_, unhide HB⟩
   exact ret_str (by rw [app_list, unhide HA, unhide HLI]; simp)
end Go.Proofs.YtdpomdelmdofmaaGreatDoor
