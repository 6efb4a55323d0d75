/-
  Plain facts on the functions of Sp: a value's canonical text reads as the value.
  Plain facts on the functions of Sp: what was read, written out, reads as it was, with blanks round it or not.
  Plain facts on the functions of Sp: the spellings that the statement on spellings makes, of numbers and of strings, read as the same.
-/
import Derived.Test.YtdpomdelmdofmaaGreatDoorPart20
namespace Go.Proofs.YtdpomdelmdofmaaGreatDoor
open Go.Maps

/-- a text that opens as a value's does -/
def Sp.Hd (l : Sp.By) : Prop := ∃ c t, l = c :: t ∧ Sp.isB c = false ∧ c ≠ 93 ∧ c ≠ 125
theorem Sp.Hd.skB {l : Sp.By} (h : Sp.Hd l) (r : Sp.By) : Sp.skB (l ++ r) = l ++ r := by
  obtain ⟨c, t, rfl, hb, _⟩ := h
  simp [Sp.skB, hb]
theorem Sp.Hd.tk {l : Sp.By} (h : Sp.Hd l) (r : Sp.By) {k : UInt8} (hk : k = 93 ∨ k = 125) : Sp.tk (l ++ r) k = false := by
  obtain ⟨c, t, rfl, _, h1, h2⟩ := h
  rw [List.cons_append, tk_hd, beq_eq_false_iff_ne]
  rcases hk with rfl | rfl
  · exact h1
  · exact h2
theorem isD_hd {c : UInt8} (h : Sp.isD c = true) : Sp.isB c = false ∧ c ≠ 93 ∧ c ≠ 125 := by
  refine ⟨?_, ?_, ?_⟩
  · have h1 : 48 ≤ c.toNat := by unfold Sp.isD at h; simp at h; omega
    unfold Sp.isB
    simp only [Bool.or_eq_false_iff, beq_eq_false_iff_ne]
    refine ⟨⟨⟨?_, ?_⟩, ?_⟩, ?_⟩
    all_goals (rintro rfl; simp at h1)
  · rintro rfl; exact absurd h (by decide)
  · rintro rfl; exact absurd h (by decide)
theorem numT_hd {n : Sp.Nm} (hg : Sp.Gn n) : ∃ c t, Sp.numT n = c :: t ∧ (c = 45 ∨ Sp.isD c = true) := by
  rcases hg with rfl | ⟨hne, hd, _⟩
  · exact ⟨48, [], rfl, Or.inr (by decide)⟩
  · obtain ⟨ng, ds, ex⟩ := n
    simp only at hne hd
    unfold Sp.numT
    rw [if_neg hne]
    cases ng with
    | true => exact ⟨45, _, rfl, Or.inl rfl⟩
    | false =>
      cases ds with
      | nil => exact absurd rfl hne
      | cons c t => exact ⟨c, _, rfl, Or.inr (hd c (by simp))⟩
theorem gd_hd {d x : Int} {f : Nat} {lv : Int} {v : Sp.V} (h : Sp.gd d x f lv v) : Sp.Hd (Sp.can f v) := by
  cases f with
  | zero => cases h
  | succ f =>
    obtain ⟨_, ⟨k, hk, rfl⟩ | ⟨s, _, rfl⟩ | ⟨n, hn, _, _, rfl⟩ | ⟨es, _, rfl⟩ | ⟨es, _, _, rfl⟩⟩ := h
    · rw [Sp.can_word]
      match k, hk with
      | 0, _ => exact ⟨110, _, rfl, by decide, by decide, by decide⟩
      | 1, _ => exact ⟨116, _, rfl, by decide, by decide, by decide⟩
      | 2, _ => exact ⟨102, _, rfl, by decide, by decide, by decide⟩
    · rw [Sp.can_str]; exact ⟨34, _, rfl, by decide, by decide, by decide⟩
    · rw [Sp.can_num]
      obtain ⟨c, t, e, hc⟩ := numT_hd hn
      refine ⟨c, t, e, ?_⟩
      rcases hc with rfl | hc
      · exact ⟨by decide, by decide, by decide⟩
      · exact isD_hd hc
    · rw [Sp.can_arr]; exact ⟨91, _, rfl, by decide, by decide, by decide⟩
    · rw [Sp.can_obj]; exact ⟨123, _, rfl, by decide, by decide, by decide⟩

theorem nd_close {cl : UInt8} (h : cl = 93 ∨ cl = 125) (r : Sp.By) : Sp.Nd (cl :: r) := by
  intro c t e
  injection e with e1 e2
  subst e1
  rcases h with rfl | rfl
  · exact ⟨by decide, by decide, by decide, by decide⟩
  · exact ⟨by decide, by decide, by decide, by decide⟩
theorem nd_comma (r : Sp.By) : Sp.Nd (44 :: r) := by
  intro c t e
  injection e with e1 e2
  subst e1
  exact ⟨by decide, by decide, by decide, by decide⟩
theorem skB_close {cl : UInt8} (h : cl = 93 ∨ cl = 125) (r : Sp.By) : Sp.skB (cl :: r) = cl :: r := by
  rcases h with rfl | rfl
  · rfl
  · rfl

/-- items with commas between them are read one after the other -/
theorem lst_join {σ : Type} (cl : UInt8) (hcl : cl = 93 ∨ cl = 125) (item : Sp.By → σ → Option (Sp.By × σ)) (P : Nat → σ → Prop) (r : Sp.By) : ∀ (xs : List Sp.By) (k : Nat) (s : σ) (n : Nat),
    (∀ i (h : i < xs.length) s rest, P (k + i) s → Sp.Nd rest → ∃ s', item (xs[i] ++ rest) s = some (rest, s') ∧ P (k + i + 1) s') → (∀ y ∈ xs, Sp.Hd y) → xs ≠ [] → xs.length ≤ n → P k s →
    ∃ s', Sp.lst cl item n (Sp.joinC xs ++ cl :: r) s = some (r, s') ∧ P (k + xs.length) s' := by
  intro xs
  induction xs with
  | nil => intro k s n _ _ h; exact absurd rfl h
  | cons y ys ih =>
    intro k s n hit hhd _ hn hP
    match n, hn with
    | n + 1, hn =>
      have hy := hhd y (by simp)
      have e1 : Sp.joinC (y :: ys) ++ cl :: r = y ++ (Sp.joinR ys ++ cl :: r) := by simp [Sp.joinC]
      rw [e1]
      unfold Sp.lst
      rw [hy.skB]
      cases ys with
      | nil =>
        obtain ⟨s', h1, h2⟩ := hit 0 (by simp) s (cl :: r) hP (nd_close hcl r)
        simp only [List.getElem_cons_zero] at h1
        simp only [Sp.joinR, List.nil_append]
        rw [h1]
        simp only
        rw [skB_close hcl, if_pos (by rw [tk_hd]; simp)]
        exact ⟨s', rfl, h2⟩
      | cons z zs =>
        have e2 : Sp.joinR (z :: zs) ++ cl :: r = 44 :: (Sp.joinC (z :: zs) ++ cl :: r) := by simp [Sp.joinR, Sp.joinC]
        rw [e2]
        obtain ⟨s', h1, h2⟩ := hit 0 (by simp) s (44 :: (Sp.joinC (z :: zs) ++ cl :: r)) hP (nd_comma _)
        simp only [List.getElem_cons_zero] at h1
        rw [h1]
        simp only
        have e3 : Sp.skB (44 :: (Sp.joinC (z :: zs) ++ cl :: r)) = 44 :: (Sp.joinC (z :: zs) ++ cl :: r) := rfl
        have e4 : Sp.tk (44 :: (Sp.joinC (z :: zs) ++ cl :: r)) cl = false := by
          rw [tk_hd]
          rcases hcl with rfl | rfl
          · rfl
          · rfl
        rw [e3, e4, if_neg (by decide), if_pos (by rfl), List.tail_cons]
        obtain ⟨s2, h3, h4⟩ := ih (k + 1) s' n (fun i hi s rest hp hr => by
          have := hit (i + 1) (by simpa using hi) s rest (by rw [show k + (i + 1) = k + 1 + i by omega]; exact hp) hr
          simp only [List.getElem_cons_succ] at this
          rw [show k + 1 + i = k + (i + 1) by omega]
          exact this) (fun y hy => hhd y (by simp [hy])) (by simp) (by simp at hn ⊢; omega) h2
        exact ⟨s2, h3, by rw [show k + (y :: z :: zs).length = k + 1 + (z :: zs).length by simp; omega]; exact h4⟩
theorem joinC_ge (xs : List Sp.By) (h : ∀ y ∈ xs, Sp.Hd y) : xs.length ≤ (Sp.joinC xs).length := by
  have hr : ∀ ys : List Sp.By, ys.length ≤ (Sp.joinR ys).length := by
    intro ys
    induction ys with
    | nil => simp
    | cons y r ih => simp [Sp.joinR]; omega
  cases xs with
  | nil => simp
  | cons y r =>
    obtain ⟨c, t, e, _⟩ := h y (by simp)
    have := hr r
    simp [Sp.joinC, e]; omega
theorem lstAll_join {σ : Type} (op cl : UInt8) (hcl : cl = 93 ∨ cl = 125) (item : Sp.By → σ → Option (Sp.By × σ)) (P : Nat → σ → Prop) (r : Sp.By) (xs : List Sp.By) (s : σ)
    (hit : ∀ i (h : i < xs.length) s rest, P i s → Sp.Nd rest → ∃ s', item (xs[i] ++ rest) s = some (rest, s') ∧ P (i + 1) s') (hhd : ∀ y ∈ xs, Sp.Hd y) (hP : P 0 s) :
    ∃ s', Sp.lstAll op cl item (op :: (Sp.joinC xs ++ cl :: r)) s = some (r, s') ∧ P xs.length s' := by
  unfold Sp.lstAll
  rw [if_pos (by rw [tk_hd]; simp), List.tail_cons]
  cases xs with
  | nil =>
    rw [show Sp.joinC [] ++ cl :: r = cl :: r from rfl, skB_close hcl, if_pos (by rw [tk_hd]; simp), List.tail_cons]
    exact ⟨s, rfl, hP⟩
  | cons y ys =>
    have hy := hhd y (by simp)
    have e1 : Sp.joinC (y :: ys) ++ cl :: r = y ++ (Sp.joinR ys ++ cl :: r) := by simp [Sp.joinC]
    have e2 : Sp.skB (Sp.joinC (y :: ys) ++ cl :: r) = Sp.joinC (y :: ys) ++ cl :: r := by rw [e1, hy.skB]
    have e3 : Sp.tk (Sp.joinC (y :: ys) ++ cl :: r) cl = false := by rw [e1]; exact hy.tk _ hcl
    rw [e2, e3, if_neg (by decide)]
    have hj := joinC_ge (y :: ys) hhd
    obtain ⟨s', h1, h2⟩ := lst_join cl hcl item P r (y :: ys) 0 s ((Sp.joinC (y :: ys) ++ cl :: r).length + 1) (fun i hi s rest hp hr => by
      rw [Nat.zero_add] at hp ⊢
      exact hit i hi s rest hp hr) hhd (by simp) (by rw [List.length_append]; omega) hP
    rw [Nat.zero_add] at h2
    exact ⟨s', h1, h2⟩

theorem before_le : ∀ (a b : Sp.By), bytesBefore a b = true → a < b
  | [], [], h => by simp [bytesBefore] at h
  | _ :: _, [], h => by simp [bytesBefore] at h
  | [], _ :: _, _ => List.nil_lt_cons _ _
  | a :: r, b :: s, h => by
    simp only [bytesBefore, Bool.or_eq_true, Bool.and_eq_true, decide_eq_true_eq, beq_iff_eq] at h
    rw [List.cons_lt_cons_iff]
    rcases h with h | ⟨h1, h2⟩
    · exact Or.inl h
    · exact Or.inr ⟨h1, before_le r s h2⟩
/-- the keys of a well made object stand sorted -/
theorem skeys_id {es : List (Lit × Sp.V)} (hp : es.Pairwise (fun p q => p.1.before q.1 = true)) (hk : ∀ p ∈ es, ∃ s, p.1 = .string s) : (Sp.keys es).mergeSort (fun a b => decide (a ≤ b)) = Sp.keys es := by
  apply List.mergeSort_of_pairwise
  unfold Sp.keys
  rw [List.pairwise_map]
  refine (List.Pairwise.and_mem.1 hp).imp ?_
  rintro p q ⟨h1, h2, h3⟩
  obtain ⟨s, hs⟩ := hk p h1
  obtain ⟨t, ht⟩ := hk q h2
  rw [hs, ht] at h3 ⊢
  simp only [decide_eq_true_eq]
  exact List.le_of_lt (before_le s t h3)
theorem rising_ne {es : List (Lit × Sp.V)} (hp : es.Pairwise (fun p q => p.1.before q.1 = true)) (hk : ∀ p ∈ es, ∃ s, p.1 = .string s) : es.Pairwise (fun p q => p.1 ≠ q.1) := by
  refine (List.Pairwise.and_mem.1 hp).imp ?_
  rintro p q ⟨h1, h2, h3⟩ e
  obtain ⟨s, hs⟩ := hk p h1
  rw [← e, hs] at h3
  have := WideAt.bytes_irrefl s
  rw [show (Lit.string s).before (Lit.string s) = bytesBefore s s from rfl, this] at h3
  cases h3
/-- an entry's text -/
def Sp.entT (f : Nat) (p : Lit × Sp.V) : Sp.By := Sp.quoT (strOf p.1) ++ 58 :: Sp.can f p.2
theorem obj_text {f : Nat} {es : List (Lit × Sp.V)} (hp : es.Pairwise (fun p q => p.1.before q.1 = true)) (hk : ∀ p ∈ es, ∃ s, p.1 = .string s) : Sp.can (f + 1) (Sp.vObj es) = 123 :: (Sp.joinC (es.map (Sp.entT f)) ++ [125]) := by
  rw [Sp.can_obj, skeys_id hp hk]
  have : (Sp.keys es).map (fun k => Sp.quoT k ++ 58 :: Sp.can f (Sp.look es k)) = es.map (Sp.entT f) := by
    unfold Sp.keys
    rw [List.map_map]
    apply List.map_congr_left
    intro p hpm
    obtain ⟨s, hs⟩ := hk p hpm
    have h2 : Sp.look es s = p.2 := by
      unfold Sp.look
      exact WideAt.atKey_mem .nil trivial (rising_ne hp hk) (by rw [← hs]; exact hpm)
    obtain ⟨k, v⟩ := p
    simp only at hs h2
    subst hs
    simp only [Function.comp, Sp.entT, strOf]
    rw [h2]
  rw [this]

theorem insert_last {x : Lit × Sp.V} {l : List (Lit × Sp.V)} (h : ∀ p ∈ l, x.1.before p.1 = false) : DataW.insert x l = l ++ [x] := by
  induction l with
  | nil => rfl
  | cons y r ih =>
    unfold DataW.insert
    rw [h y (by simp), if_neg (by decide), ih (fun p hp => h p (by simp [hp]))]
    rfl

end Go.Proofs.YtdpomdelmdofmaaGreatDoor

namespace Go.Proofs.YtdpomdelmdofmaaGreatDoor
open Go.Maps

theorem ok_lift {d x lv : Int} {fl : Sp.Fl} {e : Int} (hlv : lv ≤ d) (h : Sp.OkF d x fl) (he : e ≤ x) : Sp.OkF d x (fl.1, (max fl.2.1 lv, e)) := by
  obtain ⟨h1, h2, h3⟩ := h
  exact ⟨h1, by simp only; omega, he⟩
theorem before_asymm {p q : Lit × Sp.V} (hp : ∃ s, p.1 = .string s) (hq : ∃ s, q.1 = .string s) (h : p.1.before q.1 = true) : q.1.before p.1 = false := by
  obtain ⟨s, hs⟩ := hp
  obtain ⟨t, ht⟩ := hq
  rw [hs, ht] at h ⊢
  cases hb : (Lit.string t).before (Lit.string s) with
  | false => rfl
  | true =>
    have := Go.WideShapes.bytes_trans s t s h hb
    rw [WideAt.bytes_irrefl] at this; cases this
theorem put_next {es : List (Lit × Sp.V)} (hp : es.Pairwise (fun p q => p.1.before q.1 = true)) (hk : ∀ p ∈ es, ∃ s, p.1 = .string s) {i : Nat} (hi : i < es.length) {k : Sp.By} (hki : es[i].1 = .string k) :
    DataW.put (Sp.vObj (es.take i)) (.string k) es[i].2 = Sp.vObj (es.take (i + 1)) ∧ Maps.has (Sp.vObj (es.take i)) (.string k) = false := by
  have hb : ∀ p ∈ es.take i, p.1.before es[i].1 = true := by
    intro p hpm
    obtain ⟨j, hj, e⟩ := List.getElem_of_mem hpm
    rw [List.length_take] at hj
    rw [List.getElem_take] at e
    rw [← e]
    exact List.pairwise_iff_getElem.1 hp j i (by omega) hi (by omega)
  have hks : ∀ p ∈ es.take i, ∃ s, p.1 = .string s := fun p h => hk p (List.mem_of_mem_take h)
  have hns : ∀ p ∈ es.take i, p.1.sameKey (.string k) = false := by
    intro p hpm
    have h1 := hb p hpm
    obtain ⟨s, hs⟩ := hks p hpm
    rw [hki, hs] at h1
    rw [hs]
    show (s == k) = false
    rw [beq_eq_false_iff_ne]
    rintro rfl
    rw [show (Lit.string s).before (Lit.string s) = bytesBefore s s from rfl, WideAt.bytes_irrefl] at h1
    cases h1
  have hfil : ((es.take i).filter fun p => !p.1.sameKey (.string k)) = es.take i := List.filter_eq_self.2 fun p hpm => by rw [hns p hpm]; rfl
  constructor
  · simp only [Sp.vObj, DataW.put, hfil]
    rw [insert_last (fun p hpm => by
      have := before_asymm (p := p) (q := es[i]) (hks p hpm) ⟨k, hki⟩ (hb p hpm)
      rw [hki] at this
      exact this), List.take_succ_eq_append_getElem hi]
    congr 2
    rw [← hki]
  · simp only [Sp.vObj, Maps.has]
    rw [List.any_eq_false]
    intro p hpm
    rw [hns p hpm]; decide

theorem val_can {d x : Int} (hx : x ≤ 1000000) (f : Nat) : ∀ (lv : Int) (v : Sp.V), Sp.gd d x f lv v → ∀ (fl : Sp.Fl) (r : Sp.By), Sp.Nd r → ∃ fl', Sp.val f lv (Sp.can f v ++ r) fl = some (v, r, fl') ∧ (Sp.OkF d x fl → Sp.OkF d x fl') := by
  induction f with
  | zero => intro lv v h; cases h
  | succ f ih =>
    intro lv v h fl r hr
    obtain ⟨hlv, ⟨k, hk, rfl⟩ | ⟨s, hs, rfl⟩ | ⟨n, hn, hn1, hn2, rfl⟩ | ⟨es, hes, rfl⟩ | ⟨es, hp, hes, rfl⟩⟩ := h
    · refine ⟨(fl.1, (max fl.2.1 lv, fl.2.2)), ?_, fun ho => ok_lift hlv ho ho.2.2⟩
      rw [Sp.can_word]
      match k, hk with
      | 0, _ => rfl
      | 1, _ => rfl
      | 2, _ => rfl
    · refine ⟨(fl.1, (max fl.2.1 lv, fl.2.2)), ?_, fun ho => ok_lift hlv ho ho.2.2⟩
      rw [Sp.can_str]
      have hq := quo_quoT hs r
      have hpk : Sp.pk (Sp.quoT s ++ r) = 34 := rfl
      unfold Sp.val
      rw [hpk, if_neg (by decide), if_neg (by decide), if_pos rfl, hq]
    · refine ⟨(fl.1, (max fl.2.1 lv, max (max fl.2.2 n.2.2) (-n.2.2))), ?_, fun ho => ok_lift hlv ho (by have := ho.2.2; omega)⟩
      rw [Sp.can_num]
      have hq := num_numT hn ⟨by omega, by omega⟩ r hr
      obtain ⟨c, t, e, hc⟩ := numT_hd hn
      have hpk : Sp.pk (Sp.numT n ++ r) = c.toNat := by rw [e]; rfl
      have hcc : c.toNat = 45 ∨ (48 ≤ c.toNat ∧ c.toNat ≤ 57) := by
        rcases hc with rfl | hc
        · exact Or.inl rfl
        · unfold Sp.isD at hc; simp at hc; exact Or.inr hc
      unfold Sp.val
      rw [hpk, if_neg (by omega), if_neg (by omega), if_neg (by omega), if_pos hcc, hq]
    · have hj := lstAll_join (σ := List Sp.V × Sp.Fl) 91 93 (Or.inl rfl) (Sp.elem (Sp.val f (lv + 1))) (fun i s => s.1 = es.take i ∧ (Sp.OkF d x fl → Sp.OkF d x s.2)) r (es.map (Sp.can f)) ([], (fl.1, (max fl.2.1 lv, fl.2.2))) (by
        rintro i hi ⟨a, fl1⟩ rest ⟨ha, hf⟩ hrest
        rw [List.length_map] at hi
        simp only at ha hf
        subst ha
        rw [List.getElem_map]
        obtain ⟨fl2, h1, h2⟩ := ih (lv + 1) es[i] (hes _ (List.getElem_mem hi)) fl1 rest hrest
        unfold Sp.elem
        simp only
        rw [h1]
        exact ⟨_, rfl, (List.take_succ_eq_append_getElem hi).symm, fun ho => h2 (hf ho)⟩) (by
        intro y hy
        obtain ⟨e, he, rfl⟩ := List.mem_map.1 hy
        exact gd_hd (hes e he)) ⟨by simp, fun ho => ok_lift hlv ho ho.2.2⟩
      obtain ⟨⟨es', fl'⟩, h1, h2, h3⟩ := hj
      rw [List.length_map, List.take_length] at h2
      simp only at h2 h3
      subst h2
      refine ⟨fl', ?_, h3⟩
      rw [Sp.can_arr]
      have e1 : 91 :: (Sp.joinC (es'.map (Sp.can f)) ++ [93]) ++ r = 91 :: (Sp.joinC (es'.map (Sp.can f)) ++ 93 :: r) := by simp
      rw [e1]
      unfold Sp.val
      rw [show Sp.pk (91 :: (Sp.joinC (es'.map (Sp.can f)) ++ 93 :: r)) = 91 from rfl, if_neg (by decide), if_pos rfl, h1]
    · have hk : ∀ p ∈ es, ∃ s, p.1 = .string s := fun p hpm => let ⟨⟨s, hs, _⟩, _⟩ := hes p hpm; ⟨s, hs⟩
      have hj := lstAll_join (σ := Sp.V × Sp.Fl) 123 125 (Or.inr rfl) (Sp.memb (Sp.val f (lv + 1))) (fun i s => s.1 = Sp.vObj (es.take i) ∧ (Sp.OkF d x fl → Sp.OkF d x s.2)) r (es.map (Sp.entT f)) (Sp.vObj [], (fl.1, (max fl.2.1 lv, fl.2.2))) (by
        rintro i hi ⟨a, fl1⟩ rest ⟨ha, hf⟩ hrest
        rw [List.length_map] at hi
        simp only at ha hf
        subst ha
        rw [List.getElem_map]
        obtain ⟨⟨k, hki, hut⟩, hg⟩ := hes es[i] (List.getElem_mem hi)
        obtain ⟨fl2, h1, h2⟩ := ih (lv + 1) es[i].2 hg fl1 rest hrest
        obtain ⟨q1, q2⟩ := put_next hp hk hi hki
        have e1 : Sp.entT f es[i] ++ rest = Sp.quoT k ++ (58 :: (Sp.can f es[i].2 ++ rest)) := by
          unfold Sp.entT
          rw [hki]
          simp [strOf]
        rw [e1]
        unfold Sp.memb
        rw [quo_quoT hut]
        simp only
        rw [show Sp.skB (58 :: (Sp.can f es[i].2 ++ rest)) = 58 :: (Sp.can f es[i].2 ++ rest) from rfl, if_pos (by rfl), List.tail_cons, (gd_hd hg).skB, h1]
        simp only
        rw [q1, q2, Bool.or_false]
        exact ⟨_, rfl, rfl, fun ho => h2 (hf ho)⟩) (by
        intro y hy
        obtain ⟨e, he, rfl⟩ := List.mem_map.1 hy
        exact ⟨34, _, rfl, by decide, by decide, by decide⟩) ⟨rfl, fun ho => ok_lift hlv ho ho.2.2⟩
      obtain ⟨⟨v', fl'⟩, h1, h2, h3⟩ := hj
      rw [List.length_map, List.take_length] at h2
      simp only at h2 h3
      subst h2
      refine ⟨fl', ?_, h3⟩
      rw [obj_text hp hk]
      have e1 : 123 :: (Sp.joinC (es.map (Sp.entT f)) ++ [125]) ++ r = 123 :: (Sp.joinC (es.map (Sp.entT f)) ++ 125 :: r) := by simp
      rw [e1]
      unfold Sp.val
      rw [show Sp.pk (123 :: (Sp.joinC (es.map (Sp.entT f)) ++ 125 :: r)) = 123 from rfl, if_pos rfl, h1]

/-- what a text says is well made -/
theorem read_gd {t : Sp.By} {d x : Int} {v : Sp.V} (h : Sp.readTo t d x = (0, some v)) : Sp.gd d x top 1 v := by
  unfold Sp.readTo at h
  split at h
  · injection h with h1 h2; cases h2
  · split at h
    · injection h with h1 h2; cases h2
    · rename_i v2 r fl hv
      split at h
      · split at h
        · injection h with h1 h2; cases h2
        · rename_i k1
          split at h
          · injection h with h1 h2; cases h2
          · rename_i k2
            split at h
            · injection h with h1 h2; cases h2
            · rename_i k3
              injection h with h1 h2
              injection h2 with h2
              subst h2
              exact (val_gd d x _ _ _ _ _ _ _ hv ⟨by simpa using k1, by omega, by omega⟩).2
      · injection h with h1 h2; cases h2
/-- .. and its canonical text reads as it, between blanks too -/
theorem reread {d x : Int} {v : Sp.V} (hg : Sp.gd d x top 1 v) (hx0 : 0 ≤ x) (hx : x ≤ 1000000) (a b : Sp.By) (ha : ∀ l, Sp.skB (a ++ l) = Sp.skB l) (hb : Sp.skB b = []) (hnd : Sp.Nd b) (hl : (a ++ (Sp.can top v ++ b)).length ≤ 2000) :
    Sp.readTo (a ++ (Sp.can top v ++ b)) d x = (0, some v) := by
  have hd0 : 1 ≤ d := by
    have hgg : ∀ f, Sp.gd d x f 1 v → 1 ≤ d := by
      intro f h
      cases f with
      | zero => cases h
      | succ f => exact h.1
    exact hgg top hg
  obtain ⟨fl', h1, h2⟩ := val_can hx top 1 v hg (false, (0, 0)) b hnd
  obtain ⟨k1, k2, k3⟩ := h2 ⟨rfl, by simp only; omega, hx0⟩
  rw [readTo_some (by omega) (by rw [ha, (gd_hd hg).skB]; exact h1), hb, if_pos (show ([] : Sp.By).isEmpty = true from rfl), k1, if_neg (by decide), if_neg (by omega), if_neg (by omega)]

end Go.Proofs.YtdpomdelmdofmaaGreatDoor

namespace Go.Proofs.YtdpomdelmdofmaaGreatDoor

/-- what stands between parts -/
def Sp.blks : List Sp.By := [[], [32], [10], [9, 13]]
def Sp.Bl (b : Sp.By) : Prop := b ∈ Sp.blks
theorem bl_all {b : Sp.By} (h : Sp.Bl b) : ∀ c ∈ b, Sp.isB c = true := by
  unfold Sp.Bl Sp.blks at h
  simp only [List.mem_cons, List.not_mem_nil, or_false] at h
  rcases h with rfl | rfl | rfl | rfl
  all_goals decide
theorem skB_all {b : Sp.By} (h : ∀ c ∈ b, Sp.isB c = true) (l : Sp.By) : Sp.skB (b ++ l) = Sp.skB l := by
  induction b with
  | nil => rfl
  | cons c r ih =>
    rw [List.cons_append, Sp.skB, if_pos (h c (by simp)), ih fun c hc => h c (by simp [hc])]
theorem Sp.Bl.sk {b : Sp.By} (h : Sp.Bl b) (l : Sp.By) : Sp.skB (b ++ l) = Sp.skB l := skB_all (bl_all h) l
/-- blanks, then what may stand behind a number: may stand behind a number -/
theorem Sp.Bl.nd {b : Sp.By} (h : Sp.Bl b) {r : Sp.By} (hr : Sp.Nd r) : Sp.Nd (b ++ r) := by
  cases b with
  | nil => exact hr
  | cons c t =>
    intro c' t' e
    injection e with e1 e2
    subst e1
    have := bl_all h c (by simp)
    unfold Sp.isB at this
    simp only [Bool.or_eq_true, beq_iff_eq] at this
    rcases this with ((rfl | rfl) | rfl) | rfl
    all_goals exact ⟨by decide, by decide, by decide, by decide⟩

/-! numbers -/
def Sp.num7 : List Sp.By := [[55], [55, 46, 48], [55, 48, 101, 45, 49], [48, 46, 55, 69, 49], [55, 101, 48], [55, 46, 48, 48, 101, 43, 48], [55, 48, 48, 69, 45, 50], [48, 46, 48, 48, 55, 101, 51]]
def Sp.num0 : List Sp.By := [[45, 48], [48], [48, 46, 48], [48, 101, 57, 57], [45, 48, 46, 48, 69, 45, 53]]
theorem nd_facts {r : Sp.By} (h : Sp.Nd r) : Sp.dg r = [] ∧ Sp.dgR r = r ∧ Sp.tk r 46 = false ∧ Sp.tk r 101 = false ∧ Sp.tk r 69 = false := by
  cases r with
  | nil => exact ⟨rfl, rfl, rfl, rfl, rfl⟩
  | cons c t =>
    obtain ⟨h1, h2, h3, h4⟩ := h c t rfl
    simp [Sp.dg, Sp.dgR, Sp.tk, h1, h2, h3, h4]
theorem numB7 (ng : Bool) {l : Sp.By} (hl : l ∈ Sp.num7) {r : Sp.By} (h : Sp.Nd r) : Sp.numB ng (l ++ r) = some ((ng, [55], 0), r) := by
  obtain ⟨h1, h2, h3, h4, h5⟩ := nd_facts h
  unfold Sp.num7 at hl
  simp only [List.mem_cons, List.not_mem_nil, or_false] at hl
  rcases hl with rfl | rfl | rfl | rfl | rfl | rfl | rfl | rfl
  all_goals simp [Sp.numB, Sp.dg, Sp.dgR, Sp.frac, Sp.expo, Sp.isD, Sp.exNum, h1, h2, h3, h4, h5, tk_hd]
  all_goals rfl
theorem num0_read {l : Sp.By} (hl : l ∈ Sp.num0) {r : Sp.By} (h : Sp.Nd r) : Sp.num (l ++ r) = some ((false, [], 0), r) := by
  obtain ⟨h1, h2, h3, h4, h5⟩ := nd_facts h
  unfold Sp.num0 at hl
  simp only [List.mem_cons, List.not_mem_nil, or_false] at hl
  rcases hl with rfl | rfl | rfl | rfl | rfl
  all_goals simp [Sp.num, Sp.numB, Sp.dg, Sp.dgR, Sp.frac, Sp.expo, Sp.isD, Sp.exNum, h1, h2, h3, h4, h5, tk_hd]
  all_goals rfl

/-! strings -/
def Sp.chrC : List Nat := [97, 233, 128512, 34, 10, 47, 92, 8364]
def Sp.plain : List Sp.By := [[97], [195, 169], [240, 159, 152, 128], [92, 34], [92, 110], [47], [92, 92], [226, 130, 172]]
def Sp.other : List Sp.By := [[92, 117, 48, 48, 54, 49], [92, 117, 48, 48, 69, 57], [92, 117, 100, 56, 51, 68, 92, 117, 68, 101, 48, 48], [92, 117, 48, 48, 50, 50], [92, 117, 48, 48, 48, 65], [92, 47], [92, 117, 48, 48, 53, 99], [92, 117, 50, 48, 97, 67]]
/-- a spelling of a character -/
def Sp.Ch (p : Sp.By) (c : Nat) : Prop := ∀ l, Sp.chr (p ++ l) = some (c, l) ∧ Sp.tk (p ++ l) 34 = false
theorem ch_plain (k : Nat) (hk : k < 8) : Sp.Ch (Sp.plain.getD k []) (Sp.chrC.getD k 0) := by
  have he : ∀ (c : Nat) (p : Sp.By), Sp.Sc c → Sp.escS (Lib.encodeRune (c : Int)) = p → Sp.Ch p c := fun c p hc e l => e ▸ chr_esc c hc l
  match k, hk with
  | 0, _ => exact he 97 _ (by unfold Sp.Sc; omega) (by decide)
  | 1, _ => exact he 233 _ (by unfold Sp.Sc; omega) (by decide)
  | 2, _ => exact he 128512 _ (by unfold Sp.Sc; omega) (by decide)
  | 3, _ => exact fun l => ⟨rfl, rfl⟩
  | 4, _ => exact fun l => ⟨rfl, rfl⟩
  | 5, _ => exact he 47 _ (by unfold Sp.Sc; omega) (by decide)
  | 6, _ => exact fun l => ⟨rfl, rfl⟩
  | 7, _ => exact he 8364 _ (by unfold Sp.Sc; omega) (by decide)
theorem hexs_four {d1 d2 d3 d4 : UInt8} {n1 n2 n3 n4 : Nat} (h1 : Sp.hexd d1.toNat = some n1) (h2 : Sp.hexd d2.toNat = some n2) (h3 : Sp.hexd d3.toNat = some n3) (h4 : Sp.hexd d4.toNat = some n4) (l : Sp.By) :
    Sp.hexs 4 0 (d1 :: d2 :: d3 :: d4 :: l) = some ((((0 * 16 + n1) * 16 + n2) * 16 + n3) * 16 + n4, l) := by
  simp only [Sp.hexs, pk_cons, List.tail_cons, h1, h2, h3, h4]
theorem ch_u {d1 d2 d3 d4 : UInt8} {n1 n2 n3 n4 m : Nat} (h1 : Sp.hexd d1.toNat = some n1) (h2 : Sp.hexd d2.toNat = some n2) (h3 : Sp.hexd d3.toNat = some n3) (h4 : Sp.hexd d4.toNat = some n4)
    (hm : (((0 * 16 + n1) * 16 + n2) * 16 + n3) * 16 + n4 = m) (hs : m < 55296) : Sp.Ch [92, 117, d1, d2, d3, d4] m := by
  intro l
  refine ⟨?_, rfl⟩
  simp only [List.cons_append, List.nil_append]
  unfold Sp.chr
  rw [if_pos (show Sp.tk (92 :: _) 92 = true from rfl), List.tail_cons]
  unfold Sp.esc
  rw [if_pos (show Sp.tk (117 :: _) 117 = true from rfl), List.tail_cons]
  unfold Sp.scal
  rw [hexs_four h1 h2 h3 h4, hm]
  simp only
  rw [if_pos (Or.inl hs)]
theorem ch_pair : Sp.Ch [92, 117, 100, 56, 51, 68, 92, 117, 68, 101, 48, 48] 128512 := by
  intro l
  refine ⟨?_, rfl⟩
  simp only [List.cons_append, List.nil_append]
  unfold Sp.chr
  rw [if_pos (show Sp.tk (92 :: _) 92 = true from rfl), List.tail_cons]
  unfold Sp.esc
  rw [if_pos (show Sp.tk (117 :: _) 117 = true from rfl), List.tail_cons]
  unfold Sp.scal
  rw [hexs_four (n1 := 13) (n2 := 8) (n3 := 3) (n4 := 13) (by decide) (by decide) (by decide) (by decide)]
  simp only
  rw [if_neg (by omega), if_neg (by omega), if_pos (show Sp.tk (92 :: _) 92 = true from rfl), List.tail_cons, if_pos (show Sp.tk (117 :: _) 117 = true from rfl), List.tail_cons,
    hexs_four (n1 := 13) (n2 := 14) (n3 := 0) (n4 := 0) (by decide) (by decide) (by decide) (by decide)]
  simp only
  rw [if_neg (by omega)]
theorem ch_other (k : Nat) (hk : k < 8) : Sp.Ch (Sp.other.getD k []) (Sp.chrC.getD k 0) := by
  match k, hk with
  | 0, _ => exact ch_u (n1 := 0) (n2 := 0) (n3 := 6) (n4 := 1) (by decide) (by decide) (by decide) (by decide) (by decide) (by decide)
  | 1, _ => exact ch_u (n1 := 0) (n2 := 0) (n3 := 14) (n4 := 9) (by decide) (by decide) (by decide) (by decide) (by decide) (by decide)
  | 2, _ => exact ch_pair
  | 3, _ => exact ch_u (n1 := 0) (n2 := 0) (n3 := 2) (n4 := 2) (by decide) (by decide) (by decide) (by decide) (by decide) (by decide)
  | 4, _ => exact ch_u (n1 := 0) (n2 := 0) (n3 := 0) (n4 := 10) (by decide) (by decide) (by decide) (by decide) (by decide) (by decide)
  | 5, _ => exact fun l => ⟨rfl, rfl⟩
  | 6, _ => exact ch_u (n1 := 0) (n2 := 0) (n3 := 5) (n4 := 12) (by decide) (by decide) (by decide) (by decide) (by decide) (by decide)
  | 7, _ => exact ch_u (n1 := 2) (n2 := 0) (n3 := 10) (n4 := 12) (by decide) (by decide) (by decide) (by decide) (by decide) (by decide)
/-- spellings of characters, one behind the other -/
inductive Sp.Chs : Sp.By → List Nat → Prop
  | nil : Sp.Chs [] []
  | snoc {a : Sp.By} {cs : List Nat} {p : Sp.By} {c : Nat} : Sp.Chs a cs → Sp.Ch p c → Sp.Chs (a ++ p) (cs ++ [c])
theorem chs_read {a : Sp.By} {cs : List Nat} (h : Sp.Chs a cs) : ∀ (l s r : Sp.By) (f : Nat), Sp.chrs f l = some (s, r) → Sp.chrs (f + cs.length) (a ++ l) = some (cs.flatMap Sp.encN ++ s, r) := by
  induction h with
  | nil => intro l s r f h; exact h
  | snoc ha hp ih =>
    rename_i a cs p c
    intro l s r f h
    obtain ⟨h1, h2⟩ := hp l
    have h3 : Sp.chrs (f + 1) (p ++ l) = some (Sp.encN c ++ s, r) := by
      rw [Sp.chrs, h2, if_neg (by decide), h1]
      simp only
      rw [h]
    have h4 := ih (p ++ l) _ r (f + 1) h3
    rw [List.append_assoc]
    have e1 : f + 1 + cs.length = f + (cs ++ [c]).length := by simp; omega
    have e2 : cs.flatMap Sp.encN ++ (Sp.encN c ++ s) = (cs ++ [c]).flatMap Sp.encN ++ s := by simp
    rw [← e1, ← e2]
    exact h4
theorem chrs_more (f : Nat) : ∀ (g : Nat) (l s r : Sp.By), f ≤ g → Sp.chrs f l = some (s, r) → Sp.chrs g l = some (s, r) := by
  induction f with
  | zero => intro g l s r _ h; cases h
  | succ f ih =>
    intro g l s r hg h
    match g, hg with
    | g + 1, hg =>
      rw [Sp.chrs] at h ⊢
      split
      · rename_i hk; rw [if_pos hk] at h; exact h
      · rename_i hk
        rw [if_neg hk] at h
        cases hc : Sp.chr l with
        | none => rw [hc] at h; cases h
        | some x =>
          obtain ⟨c, r1⟩ := x
          rw [hc] at h
          simp only at h ⊢
          cases hx : Sp.chrs f r1 with
          | none => rw [hx] at h; cases h
          | some y =>
            obtain ⟨s1, r2⟩ := y
            rw [hx] at h
            rw [ih g r1 s1 r2 (by omega) hx]
            exact h
theorem chs_len {a : Sp.By} {cs : List Nat} (h : Sp.Chs a cs) : cs.length ≤ a.length := by
  induction h with
  | nil => simp
  | snoc ha hp ih =>
    rename_i a cs p c
    have : 1 ≤ p.length := by
      cases p with
      | nil =>
        have := (hp []).1
        rw [List.append_nil] at this
        have h2 := chr_len this
        simp at h2
      | cons x y => simp
    simp; omega
theorem chs_quo {a : Sp.By} {cs : List Nat} (h : Sp.Chs a cs) (r : Sp.By) : Sp.quo (34 :: (a ++ 34 :: r)) = some (cs.flatMap Sp.encN, r) := by
  unfold Sp.quo
  rw [if_pos (by rfl), List.tail_cons]
  have h1 := chs_read h (34 :: r) [] r 1 rfl
  rw [List.append_nil] at h1
  have := chs_len h
  exact chrs_more _ _ _ _ _ (by simp; omega) h1

end Go.Proofs.YtdpomdelmdofmaaGreatDoor
