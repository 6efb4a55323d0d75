/-
  A tree in memory, changed deep within: the way there told by the numbers of the items.
-/
import Derived.Test.YtdpomdelmdofmaaGreatDoorPart22
import Derived.Test.YtdpomdelmdofmaaGreatDoorPart21
namespace Go.Proofs.YtdpomdelmdofmaaGreatDoor
open Go.RowKit
namespace Sp
def sub : List Nat → A → Option A
 | [], a => some a
 | i :: r, a => match (kids a)[i]? with
  | some c => sub r c
  | none => none
def put : List Nat → A → A → A
 | [], n, _ => n
 | i :: r, n, a => match (kids a)[i]? with
  | some c => kid a i (put r n c)
  | none => a
theorem sub_cons {i : Nat} {r : List Nat} {a n : A} (h : sub (i :: r) a = some n) : ∃ c, (kids a)[i]? = some c ∧ sub r c = some n := by
 unfold sub at h
 split at h
 ·rename_i c hc; exact ⟨c, hc, h⟩
 ·cases h
theorem put_cons {i : Nat} {r : List Nat} {a c : A} (n : A) (h : (kids a)[i]? = some c) : put (i :: r) n a = kid a i (put r n c) := by
 rw [put, h]
theorem kids_form {a c : A} {i : Nat} (h : (kids a)[i]? = some c) : (∃ k b l g al x, a = .agg [.lit (.int k b), .lit (.int l g), .slice al x] ∧ al[i]? = some c) ∨ (∃ k b l g es key, a = .agg [.lit (.int k b), .lit (.int l g), .map es] ∧ es[i]? = some (key, c)) := by
 unfold kids at h
 split at h
 ·rename_i k b l g x
  split at h
  ·rename_i al y; exact Or.inl ⟨_, _, _, _, al, y, rfl, h⟩
  ·rename_i es
   rw [List.getElem?_map] at h
   obtain ⟨⟨key, c2⟩, h2, rfl⟩ := Option.map_eq_some_iff.1 h
   exact Or.inr ⟨_, _, _, _, es, key, rfl, h2⟩
  ·simp at h
 ·simp at h
theorem fp_kid {f i : Nat} {a c : A} (h : (kids a)[i]? = some c) : ∃ rest, (fp (f + 1) a).Perm (rest ++ fp f c) ∧ ∀ c', (fp (f + 1) (kid a i c')).Perm (rest ++ fp f c') := by
 rcases kids_form h with ⟨k, b, l, g, al, x, rfl, h7⟩ | ⟨k, b, l, g, es, key, rfl, h7⟩
 ·obtain ⟨l1, l2, rfl, hl⟩ := flat_split (fp f) al i c h7
  have e (y : List A) (z : List A) : fp (f + 1) (.agg [.lit (.int k b), .lit (.int l g), .slice y z]) = b.toNat :: ((if g = 0 then [] else [g.toNat]) ++ y.flatMap (fp f)) := rfl
  have p (c' : A) : (b.toNat :: ((if g = 0 then [] else [g.toNat]) ++ (l1 ++ c' :: l2).flatMap (fp f))).Perm ((b.toNat :: ((if g = 0 then [] else [g.toNat]) ++ (l1.flatMap (fp f) ++ l2.flatMap (fp f)))) ++ fp f c') := by
   rw [List.flatMap_append, List.flatMap_cons, List.cons_append, List.append_assoc, List.append_assoc]
   exact ((((List.perm_append_comm).append_left _)).append_left _).cons _
  refine ⟨_, by rw [e]; exact p c, fun c' => ?_⟩
  have e2 : kid (.agg [.lit (.int k b), .lit (.int l g), .slice (l1 ++ c :: l2) x]) i c' = .agg [.lit (.int k b), .lit (.int l g), .slice (l1 ++ c' :: l2) []] := by
   show DataW.agg [.lit (.int k b), .lit (.int l g), .slice ((l1 ++ c :: l2).set i c') []] = _
   rw [List.set_append_right _ _ (by omega), show i - l1.length = 0 by omega, List.set_cons_zero]
  rw [e2, e]
  exact p c'
 ·obtain ⟨l1, l2, rfl, hl⟩ := flat_split (fun p => fp f p.2) es i (key, c) h7
  have e (y : List (Lit × A)) : fp (f + 1) (.agg [.lit (.int k b), .lit (.int l g), .map y]) = b.toNat :: g.toNat :: y.flatMap (fun p => fp f p.2) := rfl
  have p (c' : A) : (b.toNat :: g.toNat :: (l1 ++ (key, c') :: l2).flatMap (fun p => fp f p.2)).Perm ((b.toNat :: g.toNat :: (l1.flatMap (fun p => fp f p.2) ++ l2.flatMap (fun p => fp f p.2))) ++ fp f c') := by
   rw [List.flatMap_append, List.flatMap_cons, List.cons_append, List.cons_append, List.append_assoc]
   exact (((List.perm_append_comm).append_left _).cons _).cons _
  refine ⟨_, by rw [e]; exact p c, fun c' => ?_⟩
  have e2 : kid (.agg [.lit (.int k b), .lit (.int l g), .map (l1 ++ (key, c) :: l2)]) i c' = .agg [.lit (.int k b), .lit (.int l g), .map (l1 ++ (key, c') :: l2)] := by
   show DataW.agg [.lit (.int k b), .lit (.int l g), .map ((l1 ++ (key, c) :: l2).modify i fun p => (p.1, c'))] = _
   rw [← hl, modify_at]
  rw [e2, e]
  exact p c'
theorem fp_put {f : Nat} : ∀ {p : List Nat} {a n : A}, sub p a = some n → ∃ rest, (fp (f + p.length) a).Perm (rest ++ fp f n) ∧ ∀ n', (fp (f + p.length) (put p n' a)).Perm (rest ++ fp f n')
 | [], a, n, h => by
  injection h with h
  subst h
  exact ⟨[], List.Perm.refl _, fun n' => List.Perm.refl _⟩
 | i :: r, a, n, h => by
  obtain ⟨c, hc, h2⟩ := sub_cons h
  obtain ⟨rest, h3, h4⟩ := fp_put (f := f) h2
  obtain ⟨rest2, h5, h6⟩ := fp_kid (f := f + r.length) hc
  refine ⟨rest2 ++ rest, ?_, fun n' => ?_⟩
  ·rw [List.append_assoc]; exact h5.trans (h3.append_left _)
  ·rw [List.append_assoc, put_cons n' hc]; exact (h6 _).trans ((h4 n').append_left _)
theorem sub_fp {f : Nat} {p : List Nat} {a n : A} (h : sub p a = some n) : ∀ k ∈ fp f n, k ∈ fp (f + p.length) a := by
 obtain ⟨rest, h1, _⟩ := fp_put (f := f) h
 exact fun k hk => h1.mem_iff.2 (List.mem_append_right _ hk)
theorem sub_nodup {f : Nat} {p : List Nat} {a n : A} (h : sub p a = some n) (hn : (fp (f + p.length) a).Nodup) : (fp f n).Nodup := by
 obtain ⟨rest, h1, _⟩ := fp_put (f := f) h
 exact (List.nodup_append.1 (h1.nodup_iff.1 hn)).2.1
theorem put_nodup {f : Nat} {p : List Nat} {a n n' : A} (h : sub p a = some n) (hn : (fp (f + p.length) a).Nodup) (hn' : (fp f n').Nodup) (hd : ∀ k ∈ fp f n', k ∈ fp (f + p.length) a → k ∈ fp f n) : (fp (f + p.length) (put p n' a)).Nodup := by
 obtain ⟨rest, h1, h2⟩ := fp_put (f := f) h
 have h3 := List.nodup_append.1 (h1.nodup_iff.1 hn)
 refine (h2 n').nodup_iff.2 (List.nodup_append.2 ⟨h3.1, hn', fun x hx y hy e => ?_⟩)
 subst e
 exact h3.2.2 x hx x (hd x hy (h1.mem_iff.2 (List.mem_append_left _ hx))) rfl
theorem put_fp {f : Nat} {p : List Nat} {a n n' : A} (h : sub p a = some n) : ∀ k ∈ fp (f + p.length) (put p n' a), k ∈ fp (f + p.length) a ∨ k ∈ fp f n' := by
 obtain ⟨rest, h1, h2⟩ := fp_put (f := f) h
 intro k hk
 rcases List.mem_append.1 ((h2 n').mem_iff.1 hk) with hk | hk
 ·exact Or.inl (h1.mem_iff.2 (List.mem_append_left _ hk))
 ·exact Or.inr hk
end Sp
theorem TRep.at {f : Nat} {w : World} : ∀ {p : List Nat} {v : Value} {a n : Sp.A}, TRep (f + p.length) w v a → Sp.sub p a = some n → ∃ u, TRep f w u n
 | [], v, a, n, h, hs => by
  injection hs with hs
  subst hs
  exact ⟨v, h⟩
 | i :: r, v, a, n, h, hs => by
  obtain ⟨c, hc, h2⟩ := Sp.sub_cons hs
  obtain ⟨b, g, x, rfl, hv, h⟩ := (show TRep ((f + r.length) + 1) w v a from h)
  rcases h with ⟨k, _, _, rfl, h⟩ | ⟨n, _, rfl, h, hbd⟩ | ⟨s, _, rfl, h⟩ | ⟨al, sl, ps, rfl, h, ho, hs, ha⟩ | ⟨es, n, D, rfl, h, ho, hp⟩
  ·rw [Sp.kids_word] at hc; simp at hc
  ·rw [Sp.kids_num] at hc; simp at hc
  ·rw [Sp.kids_str] at hc; simp at hc
  ·rw [Sp.kids_arr] at hc
   obtain ⟨u, hu⟩ := ha.right (List.mem_of_getElem? hc)
   exact TRep.at hu h2
  ·rw [Sp.kids_obj, List.getElem?_map] at hc
   obtain ⟨q, hq, rfl⟩ := Option.map_eq_some_iff.1 hc
   obtain ⟨u, hu⟩ := hp.right (List.mem_of_getElem? hq)
   exact TRep.at hu h2
theorem TRep.put {f : Nat} {w w' : World} {n' : Sp.A} : ∀ {p : List Nat} {v : Value} {a n : Sp.A}, TRep (f + p.length) w v a → Sp.sub p a = some n → (Sp.fp (f + p.length) a).Nodup →
  (∀ k ∈ Sp.fp (f + p.length) a, k ∉ Sp.fp f n → w'.heap[k]? = w.heap[k]?) → (∀ u, TRep f w u n → TRep f w' u n') → TRep (f + p.length) w' v (Sp.put p n' a)
 | [], v, a, n, h, hs, _, _, hc => by
  injection hs with hs
  subst hs
  exact hc v h
 | i :: r, v, a, n, h, hs, hn, hk, hc => by
  obtain ⟨c, hci, h2⟩ := Sp.sub_cons hs
  rw [Sp.put_cons n' hci]
  obtain ⟨rest, h5, h6⟩ := Sp.fp_kid (f := f + r.length) hci
  have hcn := (List.nodup_append.1 (h5.nodup_iff.1 hn)).2.1
  refine TRep.kid (f := f + r.length) h hci hn (fun k hk1 hk2 => hk k hk1 fun hk3 => hk2 (Sp.sub_fp h2 k hk3)) fun u hu => ?_
  exact TRep.put hu h2 hcn (fun k hk1 hk2 => hk k (h5.mem_iff.2 (List.mem_append_right _ hk1)) hk2) hc
end Go.Proofs.YtdpomdelmdofmaaGreatDoor

namespace Go.Proofs.YtdpomdelmdofmaaGreatDoor
open Go.RowKit Go.Maps
theorem has_mem {es : List (Lit × Sp.V)} {k : Lit} (hd : es.Pairwise (fun p q => p.1 ≠ q.1)) (hk : ∀ p ∈ es, ∃ s, p.1 = .string s) (h : Maps.has (.map es : Sp.V) k = true) : ∃ p ∈ es, p.1 = k ∧ (DataW.map es).atKey k .nil = p.2 := by
 obtain ⟨p, hp, hs⟩ := List.any_eq_true.1 (show es.any (fun p => p.1.sameKey k) = true from h)
 have e := WideAt.sameKey_eq hs
 obtain ⟨s, hs2⟩ := hk p hp
 refine ⟨p, hp, e, ?_⟩
 subst e
 exact WideAt.atKey_mem .nil (by rw [hs2]; trivial) hd (show (p.1, p.2) ∈ es from hp)
theorem joinC_mem {x : Sp.By} : ∀ {l : List Sp.By}, x ∈ l → x.length ≤ (Sp.joinC l).length
 | [], h => by cases h
 | y :: r, h => by
  have hR : ∀ {l : List Sp.By}, x ∈ l → x.length ≤ (Sp.joinR l).length := by
   intro l
   induction l with
   | nil => intro h; cases h
   | cons z s ih =>
    intro h
    simp only [Sp.joinR, List.length_cons, List.length_append]
    rcases List.mem_cons.1 h with rfl | h
    ·omega
    ·have := ih h; omega
  simp only [Sp.joinC, List.length_append]
  rcases List.mem_cons.1 h with rfl | h
  ·omega
  ·have := hR h; omega
theorem gd_child {dd xx : Int} {f : Nat} {lv : Int} {d e : Sp.V} {t : Sp.By} (h : Sp.gd dd xx (f + 1) lv d) (hc : Sp.child d t = .ok e) : Sp.gd dd xx f (lv + 1) e ∧ (Sp.can f e).length ≤ (Sp.can (f + 1) d).length := by
 obtain ⟨_, h⟩ := h
 rcases h with ⟨k, _, rfl⟩ | ⟨s, _, rfl⟩ | ⟨n, _, _, _, rfl⟩ | ⟨es, h, rfl⟩ | ⟨es, hp, hk, rfl⟩
 ·have : (Except.error 11 : Except Nat Sp.V) = .ok e := hc
  cases this
 ·have : (Except.error 11 : Except Nat Sp.V) = .ok e := hc
  cases this
 ·have : (Except.error 11 : Except Nat Sp.V) = .ok e := hc
  cases this
 ·unfold Sp.child Sp.vArr at hc
  simp only at hc
  split at hc
  ·cases hc
  ·split at hc
   ·rename_i x hx
    injection hc with hc
    subst hc
    have hm := List.mem_of_getElem? hx
    refine ⟨h _ hm, ?_⟩
    rw [Sp.can_arr]
    have := joinC_mem (List.mem_map_of_mem (f := Sp.can f) hm)
    simp only [List.length_cons, List.length_append]
    omega
   ·cases hc
 ·have hks : ∀ p ∈ es, ∃ s, p.1 = .string s := fun p hpm => by obtain ⟨⟨s, hs, _⟩, _⟩ := hk p hpm; exact ⟨s, hs⟩
  unfold Sp.child Sp.vObj at hc
  simp only at hc
  split at hc
  ·rename_i hh
   obtain ⟨p, hpm, _, he⟩ := has_mem (rising_ne hp hks) hks hh
   injection hc with hc
   rw [he] at hc
   subst hc
   refine ⟨(hk p hpm).2, ?_⟩
   rw [obj_text hp hks]
   have := joinC_mem (List.mem_map_of_mem (f := Sp.entT f) hpm)
   simp only [Sp.entT, List.length_cons, List.length_append] at this ⊢
   omega
  ·cases hc
theorem gd_find {dd xx : Int} : ∀ (l : List Sp.By) (f : Nat) (lv : Int) (d e : Sp.V), Sp.gd dd xx f lv d → Sp.find d l = .ok e → ∃ f' lv', f' ≤ f ∧ Sp.gd dd xx f' lv' e ∧ (Sp.can f' e).length ≤ (Sp.can f d).length
 | [], f, lv, d, e, h, hf => by
  injection hf with hf
  subst hf
  exact ⟨f, lv, Nat.le_refl _, h, Nat.le_refl _⟩
 | t :: r, 0, lv, d, e, h, hf => h.elim
 | t :: r, f + 1, lv, d, e, h, hf => by
  unfold Sp.find at hf
  split at hf
  ·rename_i e1 h1
   obtain ⟨a, b⟩ := gd_child h h1
   obtain ⟨f', lv', c1, c2, c3⟩ := gd_find r f _ _ _ a hf
   exact ⟨f', lv', by omega, c2, by omega⟩
  ·cases hf
theorem can_up {dd xx : Int} : ∀ (f g : Nat) (lv : Int) (d : Sp.V), Sp.gd dd xx f lv d → f ≤ g → Sp.can g d = Sp.can f d
 | 0, _, _, _, h, _ => h.elim
 | f + 1, 0, _, _, _, hg => by omega
 | f + 1, g + 1, lv, d, h, hg => by
  obtain ⟨_, h⟩ := h
  rcases h with ⟨k, _, rfl⟩ | ⟨s, _, rfl⟩ | ⟨n, _, _, _, rfl⟩ | ⟨es, h, rfl⟩ | ⟨es, hp, hk, rfl⟩
  ·rfl
  ·rfl
  ·rfl
  ·rw [Sp.can_arr, Sp.can_arr, List.map_congr_left fun e he => can_up f g _ e (h e he) (by omega)]
  ·have hks : ∀ p ∈ es, ∃ s, p.1 = .string s := fun p hpm => by obtain ⟨⟨s, hs, _⟩, _⟩ := hk p hpm; exact ⟨s, hs⟩
   rw [obj_text hp hks, obj_text hp hks, List.map_congr_left fun p hpm => show Sp.entT g p = Sp.entT f p by unfold Sp.entT; rw [can_up f g _ p.2 (hk p hpm).2 (by omega)]]
theorem Rep.up1 : ∀ {f : Nat} {F : Nat → Prop} {w : World} {v : Value} {d : Sp.V}, Rep f F w v d → Rep (f + 1) F w v d := by
 intro f
 induction f with
 | zero => intro F w v d h; exact h.elim
 | succ f ih =>
  intro F w v d h
  obtain ⟨b, hv, hb, h⟩ := h
  rcases h with h | h | h | ⟨es, sl, ps, hd, h, ho, hs, ha⟩ | ⟨es, m, n, D, hd, h, hm, ho, hp⟩
  ·exact ⟨b, hv, hb, Or.inl h⟩
  ·exact ⟨b, hv, hb, Or.inr (Or.inl h)⟩
  ·exact ⟨b, hv, hb, Or.inr (Or.inr (Or.inl h))⟩
  ·exact ⟨b, hv, hb, Or.inr (Or.inr (Or.inr (Or.inl ⟨es, sl, ps, hd, h, ho, hs, ha.mono fun _ _ h => ih h⟩)))⟩
  ·exact ⟨b, hv, hb, Or.inr (Or.inr (Or.inr (Or.inr ⟨es, m, n, D, hd, h, hm, ho, hp.mono fun _ _ h => ih h⟩)))⟩
theorem Rep.up {F : Nat → Prop} {w : World} {v : Value} {d : Sp.V} {f g : Nat} (h : Rep f F w v d) (hg : f ≤ g) : Rep g F w v d := by
 induction g with
 | zero =>
  obtain rfl : f = 0 := by omega
  exact h
 | succ g ih =>
  by_cases e : f = g + 1
  ·subst e; exact h
  ·exact (ih (by omega)).up1
theorem une_len : ∀ (n : Nat) (t k : Sp.By), t.length ≤ n → Sp.une t = some k → k.length ≤ t.length
 | _, [], k, _, h => by
  have : (some [] : Option Sp.By) = some k := h
  injection this with this
  rw [← this]; exact Nat.le_refl _
 | 0, _ :: _, _, hn, _ => by simp at hn
 | n + 1, c :: r, k, hn, h => by
  rw [Sp.une_eq] at h
  simp only [List.length_cons] at hn ⊢
  split at h
  ·split at h
   ·rename_i q
    obtain ⟨a, ha, rfl⟩ := Option.map_eq_some_iff.1 h
    have := une_len n q a (by simp only [List.length_cons] at hn; omega) ha
    simp only [List.length_cons]; omega
   ·rename_i q
    obtain ⟨a, ha, rfl⟩ := Option.map_eq_some_iff.1 h
    have := une_len n q a (by simp only [List.length_cons] at hn; omega) ha
    simp only [List.length_cons]; omega
   ·cases h
  ·obtain ⟨a, ha, rfl⟩ := Option.map_eq_some_iff.1 h
   have := une_len n r a (by omega) ha
   simp only [List.length_cons]; omega
theorem keysOf_len : ∀ (ts ks : List Sp.By), Sp.keysOf ts = some ks → ks.length = ts.length ∧ ∀ k ∈ ks, ∃ t ∈ ts, k.length ≤ t.length
 | [], ks, h => by
  have : (some [] : Option (List Sp.By)) = some ks := h
  injection this with this
  subst this
  exact ⟨rfl, fun k hk => by cases hk⟩
 | t :: r, ks, h => by
  unfold Sp.keysOf at h
  split at h
  ·cases h
  ·rename_i k hk
   obtain ⟨a, ha, rfl⟩ := Option.map_eq_some_iff.1 h
   obtain ⟨h1, h2⟩ := keysOf_len r a ha
   refine ⟨by simp [h1], fun x hx => ?_⟩
   rcases List.mem_cons.1 hx with rfl | hx
   ·exact ⟨t, by simp, une_len _ _ _ (Nat.le_refl _) hk⟩
   ·obtain ⟨y, hy, e⟩ := h2 x hx
    exact ⟨y, by simp [hy], e⟩
theorem pcs_bd : ∀ (l : Sp.By), (Sp.pcs l).length ≤ l.length + 1 ∧ ∀ t ∈ Sp.pcs l, t.length ≤ l.length
 | [] => by simp [Sp.pcs]
 | c :: r => by
  obtain ⟨h1, h2⟩ := pcs_bd r
  unfold Sp.pcs
  split
  ·refine ⟨by simp only [List.length_cons]; omega, fun t ht => ?_⟩
   rcases List.mem_cons.1 ht with rfl | ht
   ·simp
   ·have := h2 t ht; simp only [List.length_cons]; omega
  ·split
   ·rename_i p ps hp
    rw [hp] at h1 h2
    refine ⟨by simp only [List.length_cons] at h1 ⊢; omega, fun t ht => ?_⟩
    rcases List.mem_cons.1 ht with rfl | ht
    ·have := h2 p (by simp); simp only [List.length_cons]; omega
    ·have := h2 t (by simp [ht]); simp only [List.length_cons]; omega
   ·exact ⟨by simp, fun t ht => by
    have : t = [c] := by simpa using ht
    subst this; simp⟩
theorem toks_len {l : Sp.By} {ks : List Sp.By} (h : Sp.toks l = some ks) : ks.length ≤ l.length ∧ ∀ k ∈ ks, k.length ≤ l.length := by
 unfold Sp.toks at h
 split at h
 ·split at h
  ·rename_i r hp
   obtain ⟨h1, h2⟩ := keysOf_len _ _ h
   obtain ⟨h3, h4⟩ := pcs_bd l
   rw [hp] at h3 h4
   refine ⟨by simp only [List.length_cons] at h3; omega, fun k hk => ?_⟩
   obtain ⟨t, ht, e⟩ := h2 k hk
   exact Nat.le_trans e (h4 t (by simp [ht]))
  ·cases h
 ·cases h
end Go.Proofs.YtdpomdelmdofmaaGreatDoor

namespace Go.Proofs.YtdpomdelmdofmaaGreatDoor
open Go.RowKit
theorem map_at {α β : Type} {f g : α → β} {l : List α} (h : ∀ a ∈ l, f a = g a) : l.map f = l.map g := List.map_congr_left h
theorem flat_at {α β : Type} {f g : α → List β} {l : List α} (h : ∀ a ∈ l, f a = g a) : l.flatMap f = l.flatMap g := by
 induction l with
 | nil => rfl
 | cons a r ih => rw [List.flatMap_cons, List.flatMap_cons, h a (by simp), ih fun b hb => h b (by simp [hb])]
theorem TRep.up1 : ∀ {f : Nat} {w : World} {v : Value} {a : Sp.A}, TRep f w v a → TRep (f + 1) w v a ∧ Sp.fp (f + 1) a = Sp.fp f a ∧ Sp.str (f + 1) a = Sp.str f a
 | 0, _, _, _, h => h.elim
 | f + 1, w, v, a, h => by
  obtain ⟨b, g, x, rfl, hv, h⟩ := h
  rcases h with ⟨k, h1, h2, rfl, h⟩ | ⟨n, h2, rfl, h, hbd⟩ | ⟨s, h2, rfl, h⟩ | ⟨al, sl, ps, rfl, h, ho, hs, ha⟩ | ⟨es, n, D, rfl, h, ho, hp⟩
  ·exact ⟨⟨b, g, _, rfl, hv, Or.inl ⟨k, h1, h2, rfl, h⟩⟩, rfl, rfl⟩
  ·exact ⟨⟨b, g, _, rfl, hv, Or.inr (Or.inl ⟨n, h2, rfl, h, hbd⟩)⟩, rfl, rfl⟩
  ·exact ⟨⟨b, g, _, rfl, hv, Or.inr (Or.inr (Or.inl ⟨s, h2, rfl, h⟩))⟩, rfl, rfl⟩
  ·have hk : ∀ c ∈ al, Sp.fp (f + 1) c = Sp.fp f c ∧ Sp.str (f + 1) c = Sp.str f c := fun c hc => by
    obtain ⟨u, hu⟩ := ha.right hc
    exact (TRep.up1 hu).2
   refine ⟨⟨b, g, _, rfl, hv, Or.inr (Or.inr (Or.inr (Or.inl ⟨al, sl, ps, rfl, h, ho, hs, ha.mono fun _ _ h => (TRep.up1 h).1⟩)))⟩, ?_, ?_⟩
   ·rw [Sp.fp_arr, Sp.fp_arr, flat_at fun c hc => (hk c hc).1]
   ·rw [Sp.str_arr, Sp.str_arr, map_at fun c hc => (hk c hc).2]
  ·have hk : ∀ p ∈ es, Sp.fp (f + 1) p.2 = Sp.fp f p.2 ∧ Sp.str (f + 1) p.2 = Sp.str f p.2 := fun p hpm => by
    obtain ⟨u, hu⟩ := hp.right hpm
    exact (TRep.up1 hu).2
   refine ⟨⟨b, g, _, rfl, hv, Or.inr (Or.inr (Or.inr (Or.inr ⟨es, n, D, rfl, h, ho, hp.mono fun _ _ h => (TRep.up1 h).1⟩)))⟩, ?_, ?_⟩
   ·rw [Sp.fp_obj, Sp.fp_obj, flat_at fun p hpm => (hk p hpm).1]
   ·rw [Sp.str_obj, Sp.str_obj, map_at (g := fun p => (p.1, Sp.str f p.2)) fun p hpm => by rw [(hk p hpm).2]]
theorem TRep.up {f g : Nat} {w : World} {v : Value} {a : Sp.A} (h : TRep f w v a) (hg : f ≤ g) : TRep g w v a ∧ Sp.fp g a = Sp.fp f a ∧ Sp.str g a = Sp.str f a := by
 induction g with
 | zero =>
  obtain rfl : f = 0 := by omega
  exact h.elim
 | succ g ih =>
  by_cases e : f = g + 1
  ·subst e; exact ⟨h, rfl, rfl⟩
  ·obtain ⟨h1, h2, h3⟩ := ih (by omega)
   obtain ⟨h4, h5, h6⟩ := h1.up1
   exact ⟨h4, h5.trans h2, h6.trans h3⟩
theorem TRep.down1 {dd xx : Int} : ∀ {f : Nat} {lv : Int} {w : World} {v : Value} {a : Sp.A}, TRep (f + 1) w v a → Sp.gd dd xx f lv (Sp.str (f + 1) a) → TRep f w v a ∧ Sp.fp f a = Sp.fp (f + 1) a ∧ Sp.str f a = Sp.str (f + 1) a
 | 0, _, _, _, _, _, h => h.elim
 | f + 1, lv, w, v, a, h, hg => by
  obtain ⟨b, g, x, rfl, hv, h⟩ := h
  rcases h with ⟨k, h1, h2, rfl, h⟩ | ⟨n, h2, rfl, h, hbd⟩ | ⟨s, h2, rfl, h⟩ | ⟨al, sl, ps, rfl, h, ho, hs, ha⟩ | ⟨es, n, D, rfl, h, ho, hp⟩
  ·exact ⟨⟨b, g, _, rfl, hv, Or.inl ⟨k, h1, h2, rfl, h⟩⟩, rfl, rfl⟩
  ·exact ⟨⟨b, g, _, rfl, hv, Or.inr (Or.inl ⟨n, h2, rfl, h, hbd⟩)⟩, rfl, rfl⟩
  ·exact ⟨⟨b, g, _, rfl, hv, Or.inr (Or.inr (Or.inl ⟨s, h2, rfl, h⟩))⟩, rfl, rfl⟩
  ·rw [Sp.str_arr] at hg
   obtain ⟨_, hg⟩ := hg
   rcases hg with ⟨_, _, e⟩ | ⟨_, _, e⟩ | ⟨_, _, _, _, e⟩ | ⟨es, hg, e⟩ | ⟨_, _, _, e⟩
   ·cases e
   ·cases e
   ·cases e
   ·have e2 : al.map (Sp.str (f + 1)) = es := by injection e
    subst e2
    have hk : ∀ c ∈ al, ∀ u, TRep (f + 1) w u c → TRep f w u c ∧ Sp.fp f c = Sp.fp (f + 1) c ∧ Sp.str f c = Sp.str (f + 1) c := fun c hc u hu => TRep.down1 hu (hg _ (List.mem_map_of_mem hc))
    have hk2 : ∀ c ∈ al, Sp.fp f c = Sp.fp (f + 1) c ∧ Sp.str f c = Sp.str (f + 1) c := fun c hc => by
     obtain ⟨u, hu⟩ := ha.right hc
     exact (hk c hc u hu).2
    refine ⟨⟨b, g, _, rfl, hv, Or.inr (Or.inr (Or.inr (Or.inl ⟨al, sl, ps, rfl, h, ho, hs, Al.mem (fun u c hc hu => (hk c hc u hu).1) ha⟩)))⟩, ?_, ?_⟩
    ·rw [Sp.fp_arr, Sp.fp_arr, flat_at fun c hc => (hk2 c hc).1]
    ·rw [Sp.str_arr, Sp.str_arr, map_at fun c hc => (hk2 c hc).2]
   ·cases e
  ·rw [Sp.str_obj] at hg
   obtain ⟨_, hg⟩ := hg
   rcases hg with ⟨_, _, e⟩ | ⟨_, _, e⟩ | ⟨_, _, _, _, e⟩ | ⟨_, _, e⟩ | ⟨es2, _, hg, e⟩
   ·cases e
   ·cases e
   ·cases e
   ·cases e
   ·have e2 : es.map (fun p => (p.1, Sp.str (f + 1) p.2)) = es2 := by injection e
    subst e2
    have hk : ∀ p ∈ es, ∀ u, TRep (f + 1) w u p.2 → TRep f w u p.2 ∧ Sp.fp f p.2 = Sp.fp (f + 1) p.2 ∧ Sp.str f p.2 = Sp.str (f + 1) p.2 := fun p hpm u hu => TRep.down1 hu (hg _ (List.mem_map_of_mem (f := fun p => (p.1, Sp.str (f + 1) p.2)) hpm)).2
    have hk2 : ∀ p ∈ es, Sp.fp f p.2 = Sp.fp (f + 1) p.2 ∧ Sp.str f p.2 = Sp.str (f + 1) p.2 := fun p hpm => by
     obtain ⟨u, hu⟩ := hp.right hpm
     exact (hk p hpm u hu).2
    refine ⟨⟨b, g, _, rfl, hv, Or.inr (Or.inr (Or.inr (Or.inr ⟨es, n, D, rfl, h, ho, Pt.mem (fun u p hpm hu => (hk p hpm u hu).1) hp⟩)))⟩, ?_, ?_⟩
    ·rw [Sp.fp_obj, Sp.fp_obj, flat_at fun p hpm => (hk2 p hpm).1]
    ·rw [Sp.str_obj, Sp.str_obj, map_at (g := fun p => (p.1, Sp.str (f + 1) p.2)) fun p hpm => by rw [(hk2 p hpm).2]]
theorem TRep.fit {dd xx lv : Int} {f g : Nat} {w : World} {v : Value} {a : Sp.A} (h : TRep g w v a) (hg : Sp.gd dd xx f lv (Sp.str g a)) (hle : f ≤ g) : TRep f w v a ∧ Sp.fp f a = Sp.fp g a ∧ Sp.str f a = Sp.str g a := by
 induction g with
 | zero => exact h.elim
 | succ g ih =>
  by_cases e : f = g + 1
  ·subst e; exact ⟨h, rfl, rfl⟩
  ·have hup : ∀ (m f : Nat) (lv : Int) (d : Sp.V), Sp.gd dd xx f lv d → Sp.gd dd xx (f + m) lv d := by
    intro m f
    induction f with
    | zero => intro _ _ h; exact h.elim
    | succ f ih =>
     intro lv d h
     obtain ⟨h0, h⟩ := h
     rw [show f + 1 + m = (f + m) + 1 by omega]
     refine ⟨h0, ?_⟩
     rcases h with h | h | h | ⟨es, h, e⟩ | ⟨es, h, h2, e⟩
     ·exact Or.inl h
     ·exact Or.inr (Or.inl h)
     ·exact Or.inr (Or.inr (Or.inl h))
     ·exact Or.inr (Or.inr (Or.inr (Or.inl ⟨es, fun e he => ih _ _ (h e he), e⟩)))
     ·exact Or.inr (Or.inr (Or.inr (Or.inr ⟨es, h, fun p hp => ⟨(h2 p hp).1, ih _ _ (h2 p hp).2⟩, e⟩)))
   have h1 := h.down1 (by have := hup (g - f) f lv _ hg; rw [show f + (g - f) = g by omega] at this; exact this)
   obtain ⟨h2, h3, h4⟩ := ih h1.1 (by rw [h1.2.2]; exact hg) (by omega)
   exact ⟨h2, h3.trans h1.2.1, h4.trans h1.2.2⟩
theorem TRep.uniq {f f' : Nat} {w w' : World} {u u' : Value} {a : Sp.A} (h : TRep f w u a) (h' : TRep f' w' u' a) : u = u' := by
 cases f with
 | zero => exact h.elim
 | succ f =>
  cases f' with
  | zero => exact h'.elim
  | succ f' =>
   obtain ⟨b, g, x, rfl, rfl, _⟩ := h
   obtain ⟨b2, g2, x2, e, rfl, _⟩ := h'
   have e1 : Sp.nd b g x = Sp.nd b2 g2 x2 := e
   unfold Sp.nd at e1
   injection e1 with e1
   injection e1 with e1 _
   injection e1 with e1
   injection e1 with _ e1
   rw [show b = b2 by omega]
namespace Sp
def er : Nat → A → A
 | 0, a => a
 | f + 1, a => match a with
  | .agg [.lit (.int k b), .lit (.int l g), x] => (match x with
   | .slice al y => .agg [.lit (.int k b), .lit (.int l 0), .slice (al.map (er f)) y]
   | .map es => .agg [.lit (.int k b), .lit (.int l g), .map (es.map fun p => (p.1, er f p.2))]
   | z => .agg [.lit (.int k b), .lit (.int l g), z])
  | y => y
theorem er_arr (f b g : Nat) (al : List A) : er (f + 1) (nd b g (.slice al [])) = nd b 0 (.slice (al.map (er f)) []) := rfl
theorem er_obj (f b g : Nat) (es : List (Lit × A)) : er (f + 1) (nd b g (.map es)) = nd b g (.map (es.map fun p => (p.1, er f p.2))) := rfl
theorem er_word (f b g k : Nat) : er (f + 1) (nd b g (vWord k)) = nd b g (vWord k) := rfl
theorem er_num (f b g : Nat) (n : Nm) : er (f + 1) (nd b g (vNum n)) = nd b g (vNum n) := rfl
theorem er_str' (f b g : Nat) (s : By) : er (f + 1) (nd b g (vStr s)) = nd b g (vStr s) := rfl
theorem form (a : A) : (∃ k b l g al y, a = .agg [.lit (.int k b), .lit (.int l g), .slice al y]) ∨ (∃ k b l g es, a = .agg [.lit (.int k b), .lit (.int l g), .map es]) ∨ ((∀ f, er f a = a) ∧ kids a = [] ∧ ∀ i c, kid a i c = a) := by
 by_cases h1 : ∃ k b l g al y, a = .agg [.lit (.int k b), .lit (.int l g), .slice al y]
 ·exact Or.inl h1
 by_cases h2 : ∃ k b l g es, a = .agg [.lit (.int k b), .lit (.int l g), .map es]
 ·exact Or.inr (Or.inl h2)
 refine Or.inr (Or.inr ⟨fun f => ?_, ?_, fun i c => ?_⟩)
 ·cases f with
  | zero => rfl
  | succ f =>
   unfold er
   split
   ·split
    ·exact absurd ⟨_, _, _, _, _, _, rfl⟩ h1
    ·exact absurd ⟨_, _, _, _, _, rfl⟩ h2
    ·rfl
   ·rfl
 ·unfold kids
  split
  ·split
   ·exact absurd ⟨_, _, _, _, _, _, rfl⟩ h1
   ·exact absurd ⟨_, _, _, _, _, rfl⟩ h2
   ·rfl
  ·rfl
 ·unfold kid
  split
  ·split
   ·exact absurd ⟨_, _, _, _, _, _, rfl⟩ h1
   ·exact absurd ⟨_, _, _, _, _, rfl⟩ h2
   ·rfl
  ·rfl
theorem str_er : ∀ (f : Nat) (a : A), str f (er f a) = str f a
 | 0, _ => rfl
 | f + 1, a => by
  rcases form a with ⟨k, b, l, g, al, y, rfl⟩ | ⟨k, b, l, g, es, rfl⟩ | ⟨h, _, _⟩
  ·show vArr ((al.map (er f)).map (str f)) = vArr (al.map (str f))
   rw [List.map_map, map_at fun c _ => (show (str f ∘ er f) c = str f c from str_er f c)]
  ·show vObj ((es.map fun p => (p.1, er f p.2)).map fun p => (p.1, str f p.2)) = vObj (es.map fun p => (p.1, str f p.2))
   rw [List.map_map, map_at (g := fun p => (p.1, str f p.2)) fun p _ => (show ((fun p => (p.1, str f p.2)) ∘ fun p : Lit × A => (p.1, er f p.2)) p = (p.1, str f p.2) by show (p.1, str f (er f p.2)) = _; rw [str_er f p.2])]
  ·rw [h]
theorem er_kids (f : Nat) (a : A) : kids (er (f + 1) a) = (kids a).map (er f) := by
 rcases form a with ⟨k, b, l, g, al, y, rfl⟩ | ⟨k, b, l, g, es, rfl⟩ | ⟨h, h2, _⟩
 ·rfl
 ·show (es.map fun p => (p.1, er f p.2)).map Prod.snd = (es.map Prod.snd).map (er f)
  rw [List.map_map, List.map_map]; rfl
 ·rw [h, h2]; rfl
theorem er_sub : ∀ (p : List Nat) (f : Nat) (a : A), sub p (er (f + p.length) a) = (sub p a).map (er f)
 | [], _, _ => rfl
 | i :: r, f, a => by
  show sub (i :: r) (er ((f + r.length) + 1) a) = _
  rw [sub, sub, er_kids, List.getElem?_map]
  cases (kids a)[i]? with
  | none => rfl
  | some c => exact er_sub r f c
theorem modify_map {α β : Type} (q : α → β) (u : α → α) (u' : β → β) (h : ∀ a, q (u a) = u' (q a)) : ∀ (l : List α) (i : Nat), (l.modify i u).map q = (l.map q).modify i u'
 | [], i => by simp
 | a :: r, 0 => by simp [h]
 | a :: r, i + 1 => by simp [modify_map q u u' h r i]
theorem er_kid (f i : Nat) (a c : A) : er (f + 1) (kid a i c) = kid (er (f + 1) a) i (er f c) := by
 rcases form a with ⟨k, b, l, g, al, y, rfl⟩ | ⟨k, b, l, g, es, rfl⟩ | ⟨h, h2, h3⟩
 ·show DataW.agg [.lit (.int k b), .lit (.int l 0), .slice ((al.set i c).map (er f)) []] = DataW.agg [.lit (.int k b), .lit (.int l 0), .slice ((al.map (er f)).set i (er f c)) []]
  rw [List.map_set]
 ·show DataW.agg [.lit (.int k b), .lit (.int l g), .map ((es.modify i fun p => (p.1, c)).map fun p => (p.1, er f p.2))] = DataW.agg [.lit (.int k b), .lit (.int l g), .map ((es.map fun p => (p.1, er f p.2)).modify i fun p => (p.1, er f c))]
  rw [modify_map (fun p : Lit × A => (p.1, er f p.2)) (fun p => (p.1, c)) (fun p => (p.1, er f c)) fun p => rfl]
 ·rw [h3, h, h3]
theorem er_put : ∀ (p : List Nat) (f : Nat) {a n : A} (n' : A), sub p a = some n → er (f + p.length) (put p n' a) = put p (er f n') (er (f + p.length) a)
 | [], _, _, _, _, _ => rfl
 | i :: r, f, a, n, n', h => by
  obtain ⟨c, hc, h2⟩ := sub_cons h
  rw [put_cons n' hc]
  have hc' : (kids (er ((f + r.length) + 1) a))[i]? = some (er (f + r.length) c) := by rw [er_kids, List.getElem?_map, hc]; rfl
  show er ((f + r.length) + 1) _ = put (i :: r) _ (er ((f + r.length) + 1) a)
  rw [put_cons _ hc', er_kid, er_put r f n' h2]
theorem kid_self {a c : A} {i : Nat} (h : (kids a)[i]? = some c) (hy : ∀ k b l g al y, a = .agg [.lit (.int k b), .lit (.int l g), .slice al y] → y = []) : kid a i c = a := by
 rcases kids_form h with ⟨k, b, l, g, al, x, rfl, h7⟩ | ⟨k, b, l, g, es, key, rfl, h7⟩
 ·obtain rfl := hy _ _ _ _ _ _ rfl
  show DataW.agg [.lit (.int k b), .lit (.int l g), .slice (al.set i c) []] = _
  have h8 := List.getElem?_eq_some_iff.1 h7
  rw [show al.set i c = al by rw [← h8.2]; exact List.set_getElem_self h8.1]
 ·show DataW.agg [.lit (.int k b), .lit (.int l g), .map (es.modify i fun p => (p.1, c))] = _
  obtain ⟨l1, l2, rfl, rfl⟩ := flat_split (fun _ => ([] : List Nat)) es i _ h7
  rw [modify_at]
theorem kid_at {a c : A} {i : Nat} (hc : (kids a)[i]? = some c) (x : A) : (kids (kid a i x))[i]? = some x := by
 rcases kids_form hc with ⟨k, b, l, g, al, y, rfl, h7⟩ | ⟨k, b, l, g, es, key, rfl, h7⟩
 ·show (al.set i _)[i]? = _
  rw [List.getElem?_set_self (List.getElem?_eq_some_iff.1 h7).1]
 ·show ((es.modify i fun p => (p.1, x)).map Prod.snd)[i]? = _
  rw [List.getElem?_map, List.getElem?_modify, h7]
  simp
theorem sub_put : ∀ {p : List Nat} {a n : A} (n' : A), sub p a = some n → sub p (put p n' a) = some n'
 | [], _, _, _, _ => rfl
 | i :: r, a, n, n', h => by
  obtain ⟨c, hc, h2⟩ := sub_cons h
  rw [put_cons n' hc]
  have hk : (kids (kid a i (put r n' c)))[i]? = some (put r n' c) := kid_at hc _
  rw [sub, hk]
  exact sub_put n' h2
theorem kid_kid {a c x y : A} {i : Nat} (h : (kids a)[i]? = some c) : kid (kid a i x) i y = kid a i y := by
 rcases kids_form h with ⟨k, b, l, g, al, z, rfl, h7⟩ | ⟨k, b, l, g, es, key, rfl, h7⟩
 ·show DataW.agg [.lit (.int k b), .lit (.int l g), .slice ((al.set i x).set i y) []] = DataW.agg [.lit (.int k b), .lit (.int l g), .slice (al.set i y) []]
  rw [List.set_set]
 ·show DataW.agg [.lit (.int k b), .lit (.int l g), .map ((es.modify i fun p => (p.1, x)).modify i fun p => (p.1, y))] = DataW.agg [.lit (.int k b), .lit (.int l g), .map (es.modify i fun p => (p.1, y))]
  obtain ⟨l1, l2, rfl, rfl⟩ := flat_split (fun _ => ([] : List Nat)) es i _ h7
  rw [modify_at, modify_at, modify_at]
theorem put_put : ∀ {p : List Nat} {a n : A} (x y : A), sub p a = some n → put p y (put p x a) = put p y a
 | [], _, _, _, _, _ => rfl
 | i :: r, a, n, x, y, h => by
  obtain ⟨c, hc, h2⟩ := sub_cons h
  rw [put_cons x hc, put_cons y hc]
  have hk : (kids (kid a i (put r x c)))[i]? = some (put r x c) := kid_at hc _
  rw [put_cons y hk, put_put x y h2, kid_kid hc]
end Sp
theorem TRep.spare {f : Nat} {w : World} {u : Value} {a : Sp.A} (h : TRep f w u a) : ∀ k b l g al y, a = .agg [.lit (.int k b), .lit (.int l g), .slice al y] → y = [] := by
 cases f with
 | zero => exact h.elim
 | succ f =>
  intro k b l g al y e
  obtain ⟨b2, g2, x, rfl, hv, h⟩ := h
  unfold Sp.nd at e
  injection e with e; injection e with _ e; injection e with _ e; injection e with e _
  rcases h with ⟨j, _, _, rfl, h⟩ | ⟨n, _, rfl, h, hbd⟩ | ⟨s, _, rfl, h⟩ | ⟨al2, sl, ps, rfl, _⟩ | ⟨es, n, D, rfl, _⟩
  ·cases e
  ·cases e
  ·cases e
  ·injection e with _ e; exact e.symm
  ·cases e
theorem TRep.put_self {f : Nat} {w : World} : ∀ {p : List Nat} {u : Value} {a n : Sp.A}, TRep (f + p.length) w u a → Sp.sub p a = some n → Sp.put p n a = a
 | [], _, _, _, _, h => by injection h with h; exact h.symm
 | i :: r, u, a, n, ht, h => by
  obtain ⟨c, hc, h2⟩ := Sp.sub_cons h
  have h' : TRep ((f + r.length) + 1) w u a := ht
  obtain ⟨x, hx⟩ : ∃ u, TRep (f + r.length) w u c := TRep.at (f := f + r.length) (p := [i]) h' (show Sp.sub [i] a = some c by simp [Sp.sub, hc])
  rw [Sp.put_cons n hc, hx.put_self h2]
  exact Sp.kid_self hc ht.spare
theorem TRep.er_arr {f b g : Nat} {w : World} {u : Value} {a : Sp.A} {al : List Sp.A} (h : TRep (f + 1) w u a) (e : Sp.er (f + 1) a = Sp.er (f + 1) (Sp.nd b g (.slice al []))) : ∃ g' al', a = Sp.nd b g' (.slice al' []) ∧ al'.map (Sp.er f) = al.map (Sp.er f) := by
 obtain ⟨b2, g2, x, rfl, hv, h⟩ := h
 rcases h with ⟨j, _, _, rfl, h⟩ | ⟨n, _, rfl, h, hbd⟩ | ⟨s, _, rfl, h⟩ | ⟨al2, sl, ps, rfl, _⟩ | ⟨es, n, D, rfl, _⟩
 ·rw [Sp.er_word, Sp.er_arr] at e; unfold Sp.nd at e; injection e with e; injection e with _ e; injection e with _ e; injection e with e _; cases e
 ·rw [Sp.er_num, Sp.er_arr] at e; unfold Sp.nd at e; injection e with e; injection e with _ e; injection e with _ e; injection e with e _; cases e
 ·rw [Sp.er_str', Sp.er_arr] at e; unfold Sp.nd at e; injection e with e; injection e with _ e; injection e with _ e; injection e with e _; cases e
 ·rw [Sp.er_arr, Sp.er_arr] at e
  unfold Sp.nd at e; injection e with e; injection e with e1 e; injection e with _ e; injection e with e2 _
  injection e1 with e1; injection e1 with _ e1
  injection e2 with e2
  exact ⟨g2, al2, by rw [show b2 = b by omega], e2⟩
 ·rw [Sp.er_obj, Sp.er_arr] at e; unfold Sp.nd at e; injection e with e; injection e with _ e; injection e with _ e; injection e with e _; cases e
theorem TRep.er_obj {f b g : Nat} {w : World} {u : Value} {a : Sp.A} {es : List (Lit × Sp.A)} (h : TRep (f + 1) w u a) (e : Sp.er (f + 1) a = Sp.er (f + 1) (Sp.nd b g (.map es))) : ∃ es', a = Sp.nd b g (.map es') ∧ es'.map (fun p => (p.1, Sp.er f p.2)) = es.map (fun p => (p.1, Sp.er f p.2)) := by
 obtain ⟨b2, g2, x, rfl, hv, h⟩ := h
 rcases h with ⟨j, _, _, rfl, h⟩ | ⟨n, _, rfl, h, hbd⟩ | ⟨s, _, rfl, h⟩ | ⟨al2, sl, ps, rfl, _⟩ | ⟨es2, n, D, rfl, _⟩
 ·rw [Sp.er_word, Sp.er_obj] at e; unfold Sp.nd at e; injection e with e; injection e with _ e; injection e with _ e; injection e with e _; cases e
 ·rw [Sp.er_num, Sp.er_obj] at e; unfold Sp.nd at e; injection e with e; injection e with _ e; injection e with _ e; injection e with e _; cases e
 ·rw [Sp.er_str', Sp.er_obj] at e; unfold Sp.nd at e; injection e with e; injection e with _ e; injection e with _ e; injection e with e _; cases e
 ·rw [Sp.er_arr, Sp.er_obj] at e; unfold Sp.nd at e; injection e with e; injection e with _ e; injection e with _ e; injection e with e _; cases e
 ·rw [Sp.er_obj, Sp.er_obj] at e
  unfold Sp.nd at e; injection e with e; injection e with e1 e; injection e with e3 e; injection e with e2 _
  injection e1 with e1; injection e1 with _ e1
  injection e3 with e3; injection e3 with _ e3
  injection e2 with e2
  exact ⟨es2, by rw [show b2 = b by omega, show g2 = g by omega], e2⟩
end Go.Proofs.YtdpomdelmdofmaaGreatDoor
