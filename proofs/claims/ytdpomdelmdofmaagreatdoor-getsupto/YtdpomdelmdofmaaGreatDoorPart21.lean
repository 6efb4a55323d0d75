/-
  Plain facts on the functions of Sp: a value's canonical text reads as the value.
-/
import Derived.Test.YtdpomdelmdofmaaGreatDoorPart20
import Derived.Lib.ValidU
namespace Go.Proofs.YtdpomdelmdofmaaGreatDoor
open Go.Maps
def Sp.Hd (l : Sp.By) : Prop := ∃ c t, l = c :: t ∧ Sp.isB c = false ∧ c ≠ 93 ∧ c ≠ 125
theorem Sp.Hd.skB {l : Sp.By} (h : Sp.Hd l) (r : Sp.By) : Sp.skB (l ++ r) = l ++ r := by
 obtain ⟨c, t, rfl, hb, _⟩ := h
 simp [Sp.skB, hb]
theorem Sp.Hd.tk {l : Sp.By} (h : Sp.Hd l) (r : Sp.By) {k : UInt8} (hk : k = 93 ∨ k = 125) : Sp.tk (l ++ r) k = false := by
 obtain ⟨c, t, rfl, _, h1, h2⟩ := h
 rw [List.cons_append, tk_hd, beq_eq_false_iff_ne]
 rcases hk with rfl | rfl
 ·exact h1
 ·exact h2
theorem isD_hd {c : UInt8} (h : Sp.isD c = true) : Sp.isB c = false ∧ c ≠ 93 ∧ c ≠ 125 := by
 refine ⟨?_, ?_, ?_⟩
 ·have h1 : 48 ≤ c.toNat := by unfold Sp.isD at h; simp at h; omega
  unfold Sp.isB
  simp only [Bool.or_eq_false_iff, beq_eq_false_iff_ne]
  refine ⟨⟨⟨?_, ?_⟩, ?_⟩, ?_⟩
  all_goals (rintro rfl; simp at h1)
 ·rintro rfl; exact absurd h (by decide)
 ·rintro rfl; exact absurd h (by decide)
theorem numT_hd {n : Sp.Nm} (hg : Sp.Gn n) : ∃ c t, Sp.numT n = c :: t ∧ (c = 45 ∨ Sp.isD c = true) := by
 rcases hg with rfl | ⟨hne, hd, _⟩
 ·exact ⟨48, [], rfl, Or.inr (by decide)⟩
 ·obtain ⟨ng, ds, ex⟩ := n
  simp only at hne hd
  unfold Sp.numT
  rw [if_neg hne]
  cases ng with
  | true => exact ⟨45, _, rfl, Or.inl rfl⟩
  | false =>
   cases ds with
   | nil => exact absurd rfl hne
   | cons c t => exact ⟨c, _, rfl, Or.inr (hd c (by simp))⟩
theorem gd_hd {d x : Int} {f : Nat} {lv : Int} {v : Sp.V} (h : Sp.gd d x f lv v) : Sp.Hd (Sp.can f v) := by
 cases f with
 | zero => cases h
 | succ f =>
  obtain ⟨_, ⟨k, hk, rfl⟩ | ⟨s, _, rfl⟩ | ⟨n, hn, _, _, rfl⟩ | ⟨es, _, rfl⟩ | ⟨es, _, _, rfl⟩⟩ := h
  ·rw [Sp.can_word]
   match k, hk with
   | 0, _ => exact ⟨110, _, rfl, by decide, by decide, by decide⟩
   | 1, _ => exact ⟨116, _, rfl, by decide, by decide, by decide⟩
   | 2, _ => exact ⟨102, _, rfl, by decide, by decide, by decide⟩
  ·rw [Sp.can_str]; exact ⟨34, _, rfl, by decide, by decide, by decide⟩
  ·rw [Sp.can_num]
   obtain ⟨c, t, e, hc⟩ := numT_hd hn
   refine ⟨c, t, e, ?_⟩
   rcases hc with rfl | hc
   ·exact ⟨by decide, by decide, by decide⟩
   ·exact isD_hd hc
  ·rw [Sp.can_arr]; exact ⟨91, _, rfl, by decide, by decide, by decide⟩
  ·rw [Sp.can_obj]; exact ⟨123, _, rfl, by decide, by decide, by decide⟩
theorem nd_close {cl : UInt8} (h : cl = 93 ∨ cl = 125) (r : Sp.By) : Sp.Nd (cl :: r) := by
 intro c t e
 injection e with e1 e2
 subst e1
 rcases h with rfl | rfl
 ·exact ⟨by decide, by decide, by decide, by decide⟩
 ·exact ⟨by decide, by decide, by decide, by decide⟩
theorem nd_comma (r : Sp.By) : Sp.Nd (44 :: r) := by
 intro c t e
 injection e with e1 e2
 subst e1
 exact ⟨by decide, by decide, by decide, by decide⟩
theorem skB_close {cl : UInt8} (h : cl = 93 ∨ cl = 125) (r : Sp.By) : Sp.skB (cl :: r) = cl :: r := by
 rcases h with rfl | rfl
 ·rfl
 ·rfl
theorem lst_join {σ : Type} (cl : UInt8) (hcl : cl = 93 ∨ cl = 125) (item : Sp.By → σ → Option (Sp.By × σ)) (P : Nat → σ → Prop) (r : Sp.By) : ∀ (xs : List Sp.By) (k : Nat) (s : σ) (n : Nat),
  (∀ i (h : i < xs.length) s rest, P (k + i) s → Sp.Nd rest → ∃ s', item (xs[i] ++ rest) s = some (rest, s') ∧ P (k + i + 1) s') → (∀ y ∈ xs, Sp.Hd y) → xs ≠ [] → xs.length ≤ n → P k s →
  ∃ s', Sp.lst cl item n (Sp.joinC xs ++ cl :: r) s = some (r, s') ∧ P (k + xs.length) s' := by
 intro xs
 induction xs with
 | nil => intro k s n _ _ h; exact absurd rfl h
 | cons y ys ih =>
  intro k s n hit hhd _ hn hP
  match n, hn with
  | n + 1, hn =>
   have hy := hhd y (by simp)
   have e1 : Sp.joinC (y :: ys) ++ cl :: r = y ++ (Sp.joinR ys ++ cl :: r) := by simp [Sp.joinC]
   rw [e1]
   unfold Sp.lst
   rw [hy.skB]
   cases ys with
   | nil =>
    obtain ⟨s', h1, h2⟩ := hit 0 (by simp) s (cl :: r) hP (nd_close hcl r)
    simp only [List.getElem_cons_zero] at h1
    simp only [Sp.joinR, List.nil_append]
    rw [h1]
    simp only
    rw [skB_close hcl, if_pos (by rw [tk_hd]; simp)]
    exact ⟨s', rfl, h2⟩
   | cons z zs =>
    have e2 : Sp.joinR (z :: zs) ++ cl :: r = 44 :: (Sp.joinC (z :: zs) ++ cl :: r) := by simp [Sp.joinR, Sp.joinC]
    rw [e2]
    obtain ⟨s', h1, h2⟩ := hit 0 (by simp) s (44 :: (Sp.joinC (z :: zs) ++ cl :: r)) hP (nd_comma _)
    simp only [List.getElem_cons_zero] at h1
    rw [h1]
    simp only
    have e3 : Sp.skB (44 :: (Sp.joinC (z :: zs) ++ cl :: r)) = 44 :: (Sp.joinC (z :: zs) ++ cl :: r) := rfl
    have e4 : Sp.tk (44 :: (Sp.joinC (z :: zs) ++ cl :: r)) cl = false := by
     rw [tk_hd]
     rcases hcl with rfl | rfl
     ·rfl
     ·rfl
    rw [e3, e4, if_neg (by decide), if_pos (by rfl), List.tail_cons]
    obtain ⟨s2, h3, h4⟩ := ih (k + 1) s' n (fun i hi s rest hp hr => by
     have := hit (i + 1) (by simpa using hi) s rest (by rw [show k + (i + 1) = k + 1 + i by omega]; exact hp) hr
     simp only [List.getElem_cons_succ] at this
     rw [show k + 1 + i = k + (i + 1) by omega]
     exact this) (fun y hy => hhd y (by simp [hy])) (by simp) (by simp at hn ⊢; omega) h2
    exact ⟨s2, h3, by rw [show k + (y :: z :: zs).length = k + 1 + (z :: zs).length by simp; omega]; exact h4⟩
theorem joinC_ge (xs : List Sp.By) (h : ∀ y ∈ xs, Sp.Hd y) : xs.length ≤ (Sp.joinC xs).length := by
 have hr : ∀ ys : List Sp.By, ys.length ≤ (Sp.joinR ys).length := by
  intro ys
  induction ys with
  | nil => simp
  | cons y r ih => simp [Sp.joinR]; omega
 cases xs with
 | nil => simp
 | cons y r =>
  obtain ⟨c, t, e, _⟩ := h y (by simp)
  have := hr r
  simp [Sp.joinC, e]; omega
theorem lstAll_join {σ : Type} (op cl : UInt8) (hcl : cl = 93 ∨ cl = 125) (item : Sp.By → σ → Option (Sp.By × σ)) (P : Nat → σ → Prop) (r : Sp.By) (xs : List Sp.By) (s : σ)
  (hit : ∀ i (h : i < xs.length) s rest, P i s → Sp.Nd rest → ∃ s', item (xs[i] ++ rest) s = some (rest, s') ∧ P (i + 1) s') (hhd : ∀ y ∈ xs, Sp.Hd y) (hP : P 0 s) :
  ∃ s', Sp.lstAll op cl item (op :: (Sp.joinC xs ++ cl :: r)) s = some (r, s') ∧ P xs.length s' := by
 unfold Sp.lstAll
 rw [if_pos (by rw [tk_hd]; simp), List.tail_cons]
 cases xs with
 | nil =>
  rw [show Sp.joinC [] ++ cl :: r = cl :: r from rfl, skB_close hcl, if_pos (by rw [tk_hd]; simp), List.tail_cons]
  exact ⟨s, rfl, hP⟩
 | cons y ys =>
  have hy := hhd y (by simp)
  have e1 : Sp.joinC (y :: ys) ++ cl :: r = y ++ (Sp.joinR ys ++ cl :: r) := by simp [Sp.joinC]
  have e2 : Sp.skB (Sp.joinC (y :: ys) ++ cl :: r) = Sp.joinC (y :: ys) ++ cl :: r := by rw [e1, hy.skB]
  have e3 : Sp.tk (Sp.joinC (y :: ys) ++ cl :: r) cl = false := by rw [e1]; exact hy.tk _ hcl
  rw [e2, e3, if_neg (by decide)]
  have hj := joinC_ge (y :: ys) hhd
  obtain ⟨s', h1, h2⟩ := lst_join cl hcl item P r (y :: ys) 0 s ((Sp.joinC (y :: ys) ++ cl :: r).length + 1) (fun i hi s rest hp hr => by
   rw [Nat.zero_add] at hp ⊢
   exact hit i hi s rest hp hr) hhd (by simp) (by rw [List.length_append]; omega) hP
  rw [Nat.zero_add] at h2
  exact ⟨s', h1, h2⟩
theorem before_le : ∀ (a b : Sp.By), bytesBefore a b = true → a < b
 | [], [], h => by simp [bytesBefore] at h
 | _ :: _, [], h => by simp [bytesBefore] at h
 | [], _ :: _, _ => List.nil_lt_cons _ _
 | a :: r, b :: s, h => by
  simp only [bytesBefore, Bool.or_eq_true, Bool.and_eq_true, decide_eq_true_eq, beq_iff_eq] at h
  rw [List.cons_lt_cons_iff]
  rcases h with h | ⟨h1, h2⟩
  ·exact Or.inl h
  ·exact Or.inr ⟨h1, before_le r s h2⟩
theorem skeys_id {es : List (Lit × Sp.V)} (hp : es.Pairwise (fun p q => p.1.before q.1 = true)) (hk : ∀ p ∈ es, ∃ s, p.1 = .string s) : (Sp.keys es).mergeSort (fun a b => decide (a ≤ b)) = Sp.keys es := by
 apply List.mergeSort_of_pairwise
 unfold Sp.keys
 rw [List.pairwise_map]
 refine (List.Pairwise.and_mem.1 hp).imp ?_
 rintro p q ⟨h1, h2, h3⟩
 obtain ⟨s, hs⟩ := hk p h1
 obtain ⟨t, ht⟩ := hk q h2
 rw [hs, ht] at h3 ⊢
 simp only [decide_eq_true_eq]
 exact List.le_of_lt (before_le s t h3)
theorem rising_ne {es : List (Lit × Sp.V)} (hp : es.Pairwise (fun p q => p.1.before q.1 = true)) (hk : ∀ p ∈ es, ∃ s, p.1 = .string s) : es.Pairwise (fun p q => p.1 ≠ q.1) := by
 refine (List.Pairwise.and_mem.1 hp).imp ?_
 rintro p q ⟨h1, h2, h3⟩ e
 obtain ⟨s, hs⟩ := hk p h1
 rw [← e, hs] at h3
 have := WideAt.bytes_irrefl s
 rw [show (Lit.string s).before (Lit.string s) = bytesBefore s s from rfl, this] at h3
 cases h3
def Sp.entT (f : Nat) (p : Lit × Sp.V) : Sp.By := Sp.quoT (strOf p.1) ++ 58 :: Sp.can f p.2
theorem obj_text {f : Nat} {es : List (Lit × Sp.V)} (hp : es.Pairwise (fun p q => p.1.before q.1 = true)) (hk : ∀ p ∈ es, ∃ s, p.1 = .string s) : Sp.can (f + 1) (Sp.vObj es) = 123 :: (Sp.joinC (es.map (Sp.entT f)) ++ [125]) := by
 rw [Sp.can_obj, skeys_id hp hk]
 have : (Sp.keys es).map (fun k => Sp.quoT k ++ 58 :: Sp.can f (Sp.look es k)) = es.map (Sp.entT f) := by
  unfold Sp.keys
  rw [List.map_map]
  apply List.map_congr_left
  intro p hpm
  obtain ⟨s, hs⟩ := hk p hpm
  have h2 : Sp.look es s = p.2 := by
   unfold Sp.look
   exact WideAt.atKey_mem .nil trivial (rising_ne hp hk) (by rw [← hs]; exact hpm)
  obtain ⟨k, v⟩ := p
  simp only at hs h2
  subst hs
  simp only [Function.comp, Sp.entT, strOf]
  rw [h2]
 rw [this]
theorem insert_last {x : Lit × Sp.V} {l : List (Lit × Sp.V)} (h : ∀ p ∈ l, x.1.before p.1 = false) : DataW.insert x l = l ++ [x] := by
 induction l with
 | nil => rfl
 | cons y r ih =>
  unfold DataW.insert
  rw [h y (by simp), if_neg (by decide), ih (fun p hp => h p (by simp [hp]))]
  rfl
end Go.Proofs.YtdpomdelmdofmaaGreatDoor

namespace Go.Proofs.YtdpomdelmdofmaaGreatDoor
open Go.Maps
theorem ok_lift {d x lv : Int} {fl : Sp.Fl} {e : Int} (hlv : lv ≤ d) (h : Sp.OkF d x fl) (he : e ≤ x) : Sp.OkF d x (fl.1, (max fl.2.1 lv, e)) := by
 obtain ⟨h1, h2, h3⟩ := h
 exact ⟨h1, by simp only; omega, he⟩
theorem before_asymm {p q : Lit × Sp.V} (hp : ∃ s, p.1 = .string s) (hq : ∃ s, q.1 = .string s) (h : p.1.before q.1 = true) : q.1.before p.1 = false := by
 obtain ⟨s, hs⟩ := hp
 obtain ⟨t, ht⟩ := hq
 rw [hs, ht] at h ⊢
 cases hb : (Lit.string t).before (Lit.string s) with
 | false => rfl
 | true =>
  have := Go.WideShapes.bytes_trans s t s h hb
  rw [WideAt.bytes_irrefl] at this; cases this
theorem put_next {es : List (Lit × Sp.V)} (hp : es.Pairwise (fun p q => p.1.before q.1 = true)) (hk : ∀ p ∈ es, ∃ s, p.1 = .string s) {i : Nat} (hi : i < es.length) {k : Sp.By} (hki : es[i].1 = .string k) :
  DataW.put (Sp.vObj (es.take i)) (.string k) es[i].2 = Sp.vObj (es.take (i + 1)) ∧ Maps.has (Sp.vObj (es.take i)) (.string k) = false := by
 have hb : ∀ p ∈ es.take i, p.1.before es[i].1 = true := by
  intro p hpm
  obtain ⟨j, hj, e⟩ := List.getElem_of_mem hpm
  rw [List.length_take] at hj
  rw [List.getElem_take] at e
  rw [← e]
  exact List.pairwise_iff_getElem.1 hp j i (by omega) hi (by omega)
 have hks : ∀ p ∈ es.take i, ∃ s, p.1 = .string s := fun p h => hk p (List.mem_of_mem_take h)
 have hns : ∀ p ∈ es.take i, p.1.sameKey (.string k) = false := by
  intro p hpm
  have h1 := hb p hpm
  obtain ⟨s, hs⟩ := hks p hpm
  rw [hki, hs] at h1
  rw [hs]
  show (s == k) = false
  rw [beq_eq_false_iff_ne]
  rintro rfl
  rw [show (Lit.string s).before (Lit.string s) = bytesBefore s s from rfl, WideAt.bytes_irrefl] at h1
  cases h1
 have hfil : ((es.take i).filter fun p => !p.1.sameKey (.string k)) = es.take i := List.filter_eq_self.2 fun p hpm => by rw [hns p hpm]; rfl
 constructor
 ·simp only [Sp.vObj, DataW.put, hfil]
  rw [insert_last (fun p hpm => by
   have := before_asymm (p := p) (q := es[i]) (hks p hpm) ⟨k, hki⟩ (hb p hpm)
   rw [hki] at this
   exact this), List.take_succ_eq_append_getElem hi]
  congr 2
  rw [← hki]
 ·simp only [Sp.vObj, Maps.has]
  rw [List.any_eq_false]
  intro p hpm
  rw [hns p hpm]; decide
theorem val_can {d x : Int} (hx : x ≤ 1000000) (f : Nat) : ∀ (lv : Int) (v : Sp.V), Sp.gd d x f lv v → ∀ (fl : Sp.Fl) (r : Sp.By), Sp.Nd r → ∃ fl', Sp.val f lv (Sp.can f v ++ r) fl = some (v, r, fl') ∧ (Sp.OkF d x fl → Sp.OkF d x fl') := by
 induction f with
 | zero => intro lv v h; cases h
 | succ f ih =>
  intro lv v h fl r hr
  obtain ⟨hlv, ⟨k, hk, rfl⟩ | ⟨s, hs, rfl⟩ | ⟨n, hn, hn1, hn2, rfl⟩ | ⟨es, hes, rfl⟩ | ⟨es, hp, hes, rfl⟩⟩ := h
  ·refine ⟨(fl.1, (max fl.2.1 lv, fl.2.2)), ?_, fun ho => ok_lift hlv ho ho.2.2⟩
   rw [Sp.can_word]
   match k, hk with
   | 0, _ => rfl
   | 1, _ => rfl
   | 2, _ => rfl
  ·refine ⟨(fl.1, (max fl.2.1 lv, fl.2.2)), ?_, fun ho => ok_lift hlv ho ho.2.2⟩
   rw [Sp.can_str]
   have hq := quo_quoT hs r
   have hpk : Sp.pk (Sp.quoT s ++ r) = 34 := rfl
   unfold Sp.val
   rw [hpk, if_neg (by decide), if_neg (by decide), if_pos rfl, hq]
  ·refine ⟨(fl.1, (max fl.2.1 lv, max (max fl.2.2 n.2.2) (-n.2.2))), ?_, fun ho => ok_lift hlv ho (by have := ho.2.2; omega)⟩
   rw [Sp.can_num]
   have hq := num_numT hn ⟨by omega, by omega⟩ r hr
   obtain ⟨c, t, e, hc⟩ := numT_hd hn
   have hpk : Sp.pk (Sp.numT n ++ r) = c.toNat := by rw [e]; rfl
   have hcc : c.toNat = 45 ∨ (48 ≤ c.toNat ∧ c.toNat ≤ 57) := by
    rcases hc with rfl | hc
    ·exact Or.inl rfl
    ·unfold Sp.isD at hc; simp at hc; exact Or.inr hc
   unfold Sp.val
   rw [hpk, if_neg (by omega), if_neg (by omega), if_neg (by omega), if_pos hcc, hq]
  ·have hj := lstAll_join (σ := List Sp.V × Sp.Fl) 91 93 (Or.inl rfl) (Sp.elem (Sp.val f (lv + 1))) (fun i s => s.1 = es.take i ∧ (Sp.OkF d x fl → Sp.OkF d x s.2)) r (es.map (Sp.can f)) ([], (fl.1, (max fl.2.1 lv, fl.2.2))) (by
    rintro i hi ⟨a, fl1⟩ rest ⟨ha, hf⟩ hrest
    rw [List.length_map] at hi
    simp only at ha hf
    subst ha
    rw [List.getElem_map]
    obtain ⟨fl2, h1, h2⟩ := ih (lv + 1) es[i] (hes _ (List.getElem_mem hi)) fl1 rest hrest
    unfold Sp.elem
    simp only
    rw [h1]
    exact ⟨_, rfl, (List.take_succ_eq_append_getElem hi).symm, fun ho => h2 (hf ho)⟩) (by
    intro y hy
    obtain ⟨e, he, rfl⟩ := List.mem_map.1 hy
    exact gd_hd (hes e he)) ⟨by simp, fun ho => ok_lift hlv ho ho.2.2⟩
   obtain ⟨⟨es', fl'⟩, h1, h2, h3⟩ := hj
   rw [List.length_map, List.take_length] at h2
   simp only at h2 h3
   subst h2
   refine ⟨fl', ?_, h3⟩
   rw [Sp.can_arr]
   have e1 : 91 :: (Sp.joinC (es'.map (Sp.can f)) ++ [93]) ++ r = 91 :: (Sp.joinC (es'.map (Sp.can f)) ++ 93 :: r) := by simp
   rw [e1]
   unfold Sp.val
   rw [show Sp.pk (91 :: (Sp.joinC (es'.map (Sp.can f)) ++ 93 :: r)) = 91 from rfl, if_neg (by decide), if_pos rfl, h1]
  ·have hk : ∀ p ∈ es, ∃ s, p.1 = .string s := fun p hpm => let ⟨⟨s, hs, _⟩, _⟩ := hes p hpm; ⟨s, hs⟩
   have hj := lstAll_join (σ := Sp.V × Sp.Fl) 123 125 (Or.inr rfl) (Sp.memb (Sp.val f (lv + 1))) (fun i s => s.1 = Sp.vObj (es.take i) ∧ (Sp.OkF d x fl → Sp.OkF d x s.2)) r (es.map (Sp.entT f)) (Sp.vObj [], (fl.1, (max fl.2.1 lv, fl.2.2))) (by
    rintro i hi ⟨a, fl1⟩ rest ⟨ha, hf⟩ hrest
    rw [List.length_map] at hi
    simp only at ha hf
    subst ha
    rw [List.getElem_map]
    obtain ⟨⟨k, hki, hut⟩, hg⟩ := hes es[i] (List.getElem_mem hi)
    obtain ⟨fl2, h1, h2⟩ := ih (lv + 1) es[i].2 hg fl1 rest hrest
    obtain ⟨q1, q2⟩ := put_next hp hk hi hki
    have e1 : Sp.entT f es[i] ++ rest = Sp.quoT k ++ (58 :: (Sp.can f es[i].2 ++ rest)) := by
     unfold Sp.entT
     rw [hki]
     simp [strOf]
    rw [e1]
    unfold Sp.memb
    rw [quo_quoT hut]
    simp only
    rw [show Sp.skB (58 :: (Sp.can f es[i].2 ++ rest)) = 58 :: (Sp.can f es[i].2 ++ rest) from rfl, if_pos (by rfl), List.tail_cons, (gd_hd hg).skB, h1]
    simp only
    rw [q1, q2, Bool.or_false]
    exact ⟨_, rfl, rfl, fun ho => h2 (hf ho)⟩) (by
    intro y hy
    obtain ⟨e, he, rfl⟩ := List.mem_map.1 hy
    exact ⟨34, _, rfl, by decide, by decide, by decide⟩) ⟨rfl, fun ho => ok_lift hlv ho ho.2.2⟩
   obtain ⟨⟨v', fl'⟩, h1, h2, h3⟩ := hj
   rw [List.length_map, List.take_length] at h2
   simp only at h2 h3
   subst h2
   refine ⟨fl', ?_, h3⟩
   rw [obj_text hp hk]
   have e1 : 123 :: (Sp.joinC (es.map (Sp.entT f)) ++ [125]) ++ r = 123 :: (Sp.joinC (es.map (Sp.entT f)) ++ 125 :: r) := by simp
   rw [e1]
   unfold Sp.val
   rw [show Sp.pk (123 :: (Sp.joinC (es.map (Sp.entT f)) ++ 125 :: r)) = 123 from rfl, if_pos rfl, h1]
theorem read_gd {t : Sp.By} {d x : Int} {v : Sp.V} (h : Sp.readTo t d x = (0, some v)) : Sp.gd d x top 1 v := by
 unfold Sp.readTo at h
 split at h
 ·injection h with h1 h2; cases h2
 ·split at h
  ·injection h with h1 h2; cases h2
  ·rename_i v2 r fl hv
   split at h
   ·split at h
    ·injection h with h1 h2; cases h2
    ·rename_i k1
     split at h
     ·injection h with h1 h2; cases h2
     ·rename_i k2
      split at h
      ·injection h with h1 h2; cases h2
      ·rename_i k3
       injection h with h1 h2
       injection h2 with h2
       subst h2
       exact (val_gd d x _ _ _ _ _ _ _ hv ⟨by simpa using k1, by omega, by omega⟩).2
   ·injection h with h1 h2; cases h2
theorem reread {d x : Int} {v : Sp.V} (hg : Sp.gd d x top 1 v) (hx0 : 0 ≤ x) (hx : x ≤ 1000000) (a b : Sp.By) (ha : ∀ l, Sp.skB (a ++ l) = Sp.skB l) (hb : Sp.skB b = []) (hnd : Sp.Nd b) (hl : (a ++ (Sp.can top v ++ b)).length ≤ 2000) :
  Sp.readTo (a ++ (Sp.can top v ++ b)) d x = (0, some v) := by
 have hd0 : 1 ≤ d := by
  have hgg : ∀ f, Sp.gd d x f 1 v → 1 ≤ d := by
   intro f h
   cases f with
   | zero => cases h
   | succ f => exact h.1
  exact hgg top hg
 obtain ⟨fl', h1, h2⟩ := val_can hx top 1 v hg (false, (0, 0)) b hnd
 obtain ⟨k1, k2, k3⟩ := h2 ⟨rfl, by simp only; omega, hx0⟩
 rw [readTo_some (by omega) (by rw [ha, (gd_hd hg).skB]; exact h1), hb, if_pos (show ([] : Sp.By).isEmpty = true from rfl), k1, if_neg (by decide), if_neg (by omega), if_neg (by omega)]
end Go.Proofs.YtdpomdelmdofmaaGreatDoor

namespace Go.Proofs.YtdpomdelmdofmaaGreatDoor
open Go.RowKit Go.Maps
namespace Sp
def dgs : By := [48, 49, 50, 51, 52, 53, 54, 55, 56, 57]
def ixf (acc : Nat) (l : By) : Nat := l.foldl (fun a c => a * 10 + (c.toNat - 48)) acc
def idx (t : By) : Option Nat :=
 if t = [] ∨ (1 < t.length ∧ t[0]? = some 48) ∨ t.all (dgs.contains ·) = false then none else some (min (ixf 0 t) 9223372036854775807)
theorem idx_none {t : By} (h : t = [] ∨ (1 < t.length ∧ t[0]? = some 48) ∨ t.all (dgs.contains ·) = false) : idx t = none := by unfold idx; rw [if_pos h]
theorem idx_some {t : By} (h : ¬ (t = [] ∨ (1 < t.length ∧ t[0]? = some 48) ∨ t.all (dgs.contains ·) = false)) : idx t = some (min (ixf 0 t) 9223372036854775807) := by unfold idx; rw [if_neg h]
theorem dgs_iff (b : UInt8) (h : dgs.contains b = true) : 48 ≤ b.toNat ∧ b.toNat ≤ 57 := by
 simp only [dgs, List.contains_eq_mem, List.mem_cons, List.not_mem_nil, or_false, decide_eq_true_eq] at h
 rcases h with rfl | rfl | rfl | rfl | rfl | rfl | rfl | rfl | rfl | rfl <;> decide
end Sp
namespace Sp
def child (d : V) (t : By) : Except Nat V := match d with
 | .map es => if Maps.has (.map es : V) (.string t) = true then .ok ((DataW.map es).atKey (.string t) .nil) else .error 11
 | .slice es _ => match idx t with
  | none => .error 12
  | some i => match es[i]? with
   | some e => .ok e
   | none => .error 11
 | _ => .error 11
end Sp
namespace Sp
def find (d : V) : List By → Except Nat V
 | [] => .ok d
 | t :: r => match child d t with
  | .ok e => find e r
  | .error c => .error c
end Sp
namespace Sp
def une : By → Option By
 | [] => some []
 | c :: r => if c = 126 then (match r with
  | 48 :: q => (une q).map (126 :: ·)
  | 49 :: q => (une q).map (47 :: ·)
  | _ => none)
  else (une r).map (c :: ·)
theorem une_eq (c : UInt8) (r : By) : une (c :: r) = if c = 126 then (match r with
  | 48 :: q => (une q).map (126 :: ·)
  | 49 :: q => (une q).map (47 :: ·)
  | _ => none)
  else (une r).map (c :: ·) := by
 match r with
 | [] => rfl
 | b :: q =>
  by_cases h0 : b = 48
  ·subst h0; rfl
  ·by_cases h1 : b = 49
   ·subst h1; rfl
   ·conv => lhs; unfold une
    rfl
def ahd (l : By) : By := l.takeWhile (fun c => c != 126)
end Sp
namespace Sp
def pcs : By → List By
 | [] => [[]]
 | c :: r => if c = 47 then [] :: pcs r else match pcs r with
  | p :: ps => (c :: p) :: ps
  | [] => [[c]]
def ahs (l : By) : By := l.takeWhile (fun c => c != 47)
def keysOf : List By → Option (List By)
 | [] => some []
 | t :: r => match une t with
  | none => none
  | some k => (keysOf r).map (k :: ·)
def toks (l : By) : Option (List By) := if Lib.validD l = true then (match pcs l with
 | [] :: r => keysOf r
 | _ => none) else none
end Sp
noncomputable def veq (a b : Sp.V) : Bool := @decide (a = b) (Classical.propDecidable _)
theorem veq_t {a b : Sp.V} (h : a = b) : veq a b = true := by unfold veq; exact @decide_eq_true _ (Classical.propDecidable _) h
theorem veq_f {a b : Sp.V} (h : a ≠ b) : veq a b = false := by unfold veq; exact @decide_eq_false _ (Classical.propDecidable _) h
end Go.Proofs.YtdpomdelmdofmaaGreatDoor
