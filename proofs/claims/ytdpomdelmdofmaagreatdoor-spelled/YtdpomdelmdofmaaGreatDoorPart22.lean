/-
  Plain facts on the functions of Sp: values spelled with blanks between their parts.
  Plain functions: pointers, what they lead to; when two values are one.
  Plain functions: what is put in, taken away, put in another's place; ways within a value; how deep it is.
-/
import Derived.Test.YtdpomdelmdofmaaGreatDoorPart21
import Derived.Lib.ValidU
namespace Go.Proofs.YtdpomdelmdofmaaGreatDoor
open Go.Maps

/-- The text l reads as the value v, which is at most k levels deeper than its first. -/
def Sp.RdV (k : Nat) (l : Sp.By) (v : Sp.V) : Prop := Sp.Hd l ∧ ∀ (f : Nat) (lv : Int) (fl : Sp.Fl) (r : Sp.By), k < f → Sp.Nd r → ∃ fl', Sp.val f lv (l ++ r) fl = some (v, r, fl') ∧ ∀ d, lv + k ≤ d → Sp.OkF d 2 fl → Sp.OkF d 2 fl'
theorem Sp.RdV.mono {k k' : Nat} {l : Sp.By} {v : Sp.V} (h : Sp.RdV k l v) (hk : k ≤ k') : Sp.RdV k' l v :=
  ⟨h.1, fun f lv fl r hf hr => let ⟨fl', h1, h2⟩ := h.2 f lv fl r (by omega) hr; ⟨fl', h1, fun d hd => h2 d (by omega)⟩⟩

theorem rdV_num {l : Sp.By} {n : Sp.Nm} (hh : ∃ c t, l = c :: t ∧ (c = 45 ∨ Sp.isD c = true)) (hn : ∀ r, Sp.Nd r → Sp.num (l ++ r) = some (n, r)) (he : -2 ≤ n.2.2 ∧ n.2.2 ≤ 2) : Sp.RdV 0 l (Sp.vNum n) := by
  obtain ⟨c, t, e, hc⟩ := hh
  refine ⟨⟨c, t, e, ?_⟩, fun f lv fl r hf hr => ?_⟩
  · rcases hc with rfl | hc
    · exact ⟨by decide, by decide, by decide⟩
    · exact isD_hd hc
  · match f, hf with
    | f + 1, _ =>
      refine ⟨(fl.1, (max fl.2.1 lv, max (max fl.2.2 n.2.2) (-n.2.2))), ?_, fun d hd ho => ok_lift (by omega) ho (by have := ho.2.2; omega)⟩
      have hq := hn r hr
      have hpk : Sp.pk (l ++ r) = c.toNat := by rw [e]; rfl
      have hcc : c.toNat = 45 ∨ (48 ≤ c.toNat ∧ c.toNat ≤ 57) := by
        rcases hc with rfl | hc
        · exact Or.inl rfl
        · unfold Sp.isD at hc; simp at hc; exact Or.inr hc
      unfold Sp.val
      rw [hpk, if_neg (by omega), if_neg (by omega), if_neg (by omega), if_pos hcc, hq]
theorem rdV_word (k : Nat) (hk : k < 3) : Sp.RdV 0 (Sp.words.getD k []) (Sp.vWord k) := by
  refine ⟨?_, fun f lv fl r hf hr => ?_⟩
  · match k, hk with
    | 0, _ => exact ⟨110, _, rfl, by decide, by decide, by decide⟩
    | 1, _ => exact ⟨116, _, rfl, by decide, by decide, by decide⟩
    | 2, _ => exact ⟨102, _, rfl, by decide, by decide, by decide⟩
  · match f, hf with
    | f + 1, _ =>
      refine ⟨(fl.1, (max fl.2.1 lv, fl.2.2)), ?_, fun d hd ho => ok_lift (by omega) ho ho.2.2⟩
      match k, hk with
      | 0, _ => rfl
      | 1, _ => rfl
      | 2, _ => rfl
theorem rdV_str {a : Sp.By} {cs : List Nat} (h : Sp.Chs a cs) : Sp.RdV 0 (34 :: (a ++ [34])) (Sp.vStr (cs.flatMap Sp.encN)) := by
  refine ⟨⟨34, _, rfl, by decide, by decide, by decide⟩, fun f lv fl r hf hr => ?_⟩
  match f, hf with
  | f + 1, _ =>
    refine ⟨(fl.1, (max fl.2.1 lv, fl.2.2)), ?_, fun d hd ho => ok_lift (by omega) ho ho.2.2⟩
    have e : 34 :: (a ++ [34]) ++ r = 34 :: (a ++ 34 :: r) := by simp
    rw [e]
    unfold Sp.val
    rw [show Sp.pk (34 :: (a ++ 34 :: r)) = 34 from rfl, if_neg (by decide), if_neg (by decide), if_pos rfl, chs_quo h r]

/-! items with blanks round them -/
def Sp.pad (y : Sp.By × Sp.By × Sp.By) : Sp.By := y.1 ++ (y.2.1 ++ y.2.2)
theorem skB_Bl_close {z : Sp.By} (hz : Sp.Bl z) {cl : UInt8} (hcl : cl = 93 ∨ cl = 125) (r : Sp.By) : Sp.skB (z ++ cl :: r) = cl :: r := by rw [hz.sk, skB_close hcl]
theorem lst_sp {σ : Type} (cl : UInt8) (hcl : cl = 93 ∨ cl = 125) (item : Sp.By → σ → Option (Sp.By × σ)) (P : Nat → σ → Prop) (z : Sp.By) (hz : Sp.Bl z) (r : Sp.By) : ∀ (ys : List (Sp.By × Sp.By × Sp.By)) (k : Nat) (s : σ) (n : Nat),
    (∀ i (h : i < ys.length) s rest, P (k + i) s → Sp.Nd rest → ∃ s', item (ys[i].2.1 ++ rest) s = some (rest, s') ∧ P (k + i + 1) s') → (∀ y ∈ ys, Sp.Bl y.1 ∧ Sp.Hd y.2.1 ∧ Sp.Bl y.2.2) → ys ≠ [] → ys.length ≤ n → P k s →
    ∃ s', Sp.lst cl item n (Sp.joinC (ys.map Sp.pad) ++ (z ++ cl :: r)) s = some (r, s') ∧ P (k + ys.length) s' := by
  intro ys
  induction ys with
  | nil => intro k s n _ _ h; exact absurd rfl h
  | cons y ys ih =>
    intro k s n hit hhd _ hn hP
    match n, hn with
    | n + 1, hn =>
      obtain ⟨hp, hy, hq⟩ := hhd y (by simp)
      have e1 : Sp.joinC ((y :: ys).map Sp.pad) ++ (z ++ cl :: r) = y.1 ++ (y.2.1 ++ (y.2.2 ++ (Sp.joinR (ys.map Sp.pad) ++ (z ++ cl :: r)))) := by simp [Sp.joinC, Sp.pad]
      rw [e1]
      unfold Sp.lst
      rw [hp.sk, hy.skB]
      cases ys with
      | nil =>
        obtain ⟨s', h1, h2⟩ := hit 0 (by simp) s (y.2.2 ++ (z ++ cl :: r)) hP (hq.nd (hz.nd (nd_close hcl r)))
        simp only [List.getElem_cons_zero] at h1
        simp only [List.map_nil, Sp.joinR, List.nil_append]
        rw [h1]
        simp only
        rw [hq.sk, skB_Bl_close hz hcl, if_pos (by rw [tk_hd]; simp)]
        exact ⟨s', rfl, h2⟩
      | cons x xs =>
        have e2 : Sp.joinR ((x :: xs).map Sp.pad) ++ (z ++ cl :: r) = 44 :: (Sp.joinC ((x :: xs).map Sp.pad) ++ (z ++ cl :: r)) := by simp [Sp.joinR, Sp.joinC]
        rw [e2]
        obtain ⟨s', h1, h2⟩ := hit 0 (by simp) s (y.2.2 ++ 44 :: (Sp.joinC ((x :: xs).map Sp.pad) ++ (z ++ cl :: r))) hP (hq.nd (nd_comma _))
        simp only [List.getElem_cons_zero] at h1
        rw [h1]
        simp only
        have e3 : Sp.skB (44 :: (Sp.joinC ((x :: xs).map Sp.pad) ++ (z ++ cl :: r))) = 44 :: (Sp.joinC ((x :: xs).map Sp.pad) ++ (z ++ cl :: r)) := rfl
        have e4 : Sp.tk (44 :: (Sp.joinC ((x :: xs).map Sp.pad) ++ (z ++ cl :: r))) cl = false := by
          rw [tk_hd]
          rcases hcl with rfl | rfl
          · rfl
          · rfl
        rw [hq.sk, e3, e4, if_neg (by decide), if_pos (by rfl), List.tail_cons]
        obtain ⟨s2, h3, h4⟩ := ih (k + 1) s' n (fun i hi s rest hp hr => by
          have := hit (i + 1) (by simpa using hi) s rest (by rw [show k + (i + 1) = k + 1 + i by omega]; exact hp) hr
          simp only [List.getElem_cons_succ] at this
          rw [show k + 1 + i = k + (i + 1) by omega]
          exact this) (fun y hy => hhd y (by simp [hy])) (by simp) (by simp at hn ⊢; omega) h2
        exact ⟨s2, h3, by rw [show k + (y :: x :: xs).length = k + 1 + (x :: xs).length by simp; omega]; exact h4⟩
theorem pad_ge (ys : List (Sp.By × Sp.By × Sp.By)) (h : ∀ y ∈ ys, Sp.Hd y.2.1) : ys.length ≤ (Sp.joinC (ys.map Sp.pad)).length := by
  have hr : ∀ xs : List Sp.By, xs.length ≤ (Sp.joinR xs).length := by
    intro xs
    induction xs with
    | nil => simp
    | cons y r ih => simp [Sp.joinR]; omega
  cases ys with
  | nil => simp
  | cons y r =>
    obtain ⟨c, t, e, _⟩ := h y (by simp)
    have := hr (r.map Sp.pad)
    rw [List.length_map] at this
    simp [Sp.joinC, Sp.pad, e]; omega
theorem lstAll_sp {σ : Type} (op cl : UInt8) (hcl : cl = 93 ∨ cl = 125) (item : Sp.By → σ → Option (Sp.By × σ)) (P : Nat → σ → Prop) (z : Sp.By) (hz : Sp.Bl z) (r : Sp.By) (ys : List (Sp.By × Sp.By × Sp.By)) (s : σ)
    (hit : ∀ i (h : i < ys.length) s rest, P i s → Sp.Nd rest → ∃ s', item (ys[i].2.1 ++ rest) s = some (rest, s') ∧ P (i + 1) s') (hhd : ∀ y ∈ ys, Sp.Bl y.1 ∧ Sp.Hd y.2.1 ∧ Sp.Bl y.2.2) (hP : P 0 s) :
    ∃ s', Sp.lstAll op cl item (op :: (Sp.joinC (ys.map Sp.pad) ++ (z ++ cl :: r))) s = some (r, s') ∧ P ys.length s' := by
  unfold Sp.lstAll
  rw [if_pos (by rw [tk_hd]; simp), List.tail_cons]
  cases ys with
  | nil =>
    rw [show Sp.joinC (([] : List (Sp.By × Sp.By × Sp.By)).map Sp.pad) ++ (z ++ cl :: r) = z ++ cl :: r from rfl, skB_Bl_close hz hcl, if_pos (by rw [tk_hd]; simp), List.tail_cons]
    exact ⟨s, rfl, hP⟩
  | cons y ys =>
    obtain ⟨hp, hy, hq⟩ := hhd y (by simp)
    have e1 : Sp.joinC ((y :: ys).map Sp.pad) ++ (z ++ cl :: r) = y.1 ++ (y.2.1 ++ (y.2.2 ++ (Sp.joinR (ys.map Sp.pad) ++ (z ++ cl :: r)))) := by simp [Sp.joinC, Sp.pad]
    have e2 : Sp.skB (Sp.joinC ((y :: ys).map Sp.pad) ++ (z ++ cl :: r)) = y.2.1 ++ (y.2.2 ++ (Sp.joinR (ys.map Sp.pad) ++ (z ++ cl :: r))) := by rw [e1, hp.sk, hy.skB]
    have e3 : Sp.tk (y.2.1 ++ (y.2.2 ++ (Sp.joinR (ys.map Sp.pad) ++ (z ++ cl :: r)))) cl = false := hy.tk _ hcl
    have e5 : y.2.1 ++ (y.2.2 ++ (Sp.joinR (ys.map Sp.pad) ++ (z ++ cl :: r))) = Sp.joinC ((([], y.2.1, y.2.2) :: ys).map Sp.pad) ++ (z ++ cl :: r) := by simp [Sp.joinC, Sp.pad]
    rw [e2, e3, if_neg (by decide)]
    have hj := pad_ge (([], y.2.1, y.2.2) :: ys) (by
      intro x hx
      rcases List.mem_cons.1 hx with rfl | hx
      · exact hy
      · exact (hhd x (by simp [hx])).2.1)
    obtain ⟨s', h1, h2⟩ := lst_sp cl hcl item P z hz r (([], y.2.1, y.2.2) :: ys) 0 s ((y.2.1 ++ (y.2.2 ++ (Sp.joinR (ys.map Sp.pad) ++ (z ++ cl :: r)))).length + 1) (fun i hi s rest hp hr => by
      rw [Nat.zero_add] at hp ⊢
      have := hit i (by simpa using hi) s rest hp hr
      cases i with
      | zero => exact this
      | succ i => exact this) (by
      intro x hx
      rcases List.mem_cons.1 hx with rfl | hx
      · exact ⟨by unfold Sp.Bl Sp.blks; simp, hy, hq⟩
      · exact hhd x (by simp [hx])) (by simp) (by rw [e5, List.length_append]; omega) hP
    rw [Nat.zero_add] at h2
    rw [← e5] at h1
    exact ⟨s', h1, h2⟩

/-- an item: a value with blanks round it -/
def Sp.ItV (k : Nat) (y : Sp.By × Sp.By × Sp.By) (v : Sp.V) : Prop := Sp.Bl y.1 ∧ Sp.RdV k y.2.1 v ∧ Sp.Bl y.2.2
theorem rdV_arr {k : Nat} {ys : List (Sp.By × Sp.By × Sp.By)} {vs : List Sp.V} (hl : ys.length = vs.length) (h : ∀ i (h1 : i < ys.length) (h2 : i < vs.length), Sp.ItV k ys[i] vs[i]) {z : Sp.By} (hz : Sp.Bl z) :
    Sp.RdV (k + 1) (91 :: (Sp.joinC (ys.map Sp.pad) ++ (z ++ [93]))) (Sp.vArr vs) := by
  refine ⟨⟨91, _, rfl, by decide, by decide, by decide⟩, fun f lv fl r hf hr => ?_⟩
  match f, hf with
  | f + 1, hf =>
    obtain ⟨⟨es', fl'⟩, h1, h2, h3⟩ := lstAll_sp (σ := List Sp.V × Sp.Fl) 91 93 (Or.inl rfl) (Sp.elem (Sp.val f (lv + 1))) (fun i s => s.1 = vs.take i ∧ ∀ d, lv + 1 + k ≤ d → Sp.OkF d 2 fl → Sp.OkF d 2 s.2) z hz r ys ([], (fl.1, (max fl.2.1 lv, fl.2.2))) (by
      rintro i hi ⟨a, fl1⟩ rest ⟨ha, hfl⟩ hrest
      simp only at ha hfl
      subst ha
      obtain ⟨_, hrd, _⟩ := h i hi (by omega)
      obtain ⟨fl2, k1, k2⟩ := hrd.2 f (lv + 1) fl1 rest (by omega) hrest
      unfold Sp.elem
      simp only
      rw [k1]
      exact ⟨_, rfl, (List.take_succ_eq_append_getElem (by omega)).symm, fun d hd ho => k2 d hd (hfl d hd ho)⟩) (by
      intro y hy
      obtain ⟨i, hi, rfl⟩ := List.getElem_of_mem hy
      obtain ⟨a, b, c⟩ := h i hi (by omega)
      exact ⟨a, b.1, c⟩) ⟨by simp, fun d hd ho => ok_lift (by omega) ho ho.2.2⟩
    rw [hl, List.take_length] at h2
    simp only at h2 h3
    subst h2
    refine ⟨fl', ?_, fun d hd ho => h3 d (by omega) ho⟩
    have e1 : 91 :: (Sp.joinC (ys.map Sp.pad) ++ (z ++ [93])) ++ r = 91 :: (Sp.joinC (ys.map Sp.pad) ++ (z ++ 93 :: r)) := by simp
    rw [e1]
    unfold Sp.val
    rw [show Sp.pk (91 :: (Sp.joinC (ys.map Sp.pad) ++ (z ++ 93 :: r))) = 91 from rfl, if_neg (by decide), if_pos rfl, h1]

/-- a member: blanks, its key's spelling, blanks, blanks, its value, blanks -/
structure Sp.Mb where
  p : Sp.By
  kq : Sp.By
  p1 : Sp.By
  p2 : Sp.By
  x : Sp.By
  q : Sp.By
  key : Sp.By
  v : Sp.V
def Sp.Mb.core (m : Sp.Mb) : Sp.By := m.kq ++ (m.p1 ++ 58 :: (m.p2 ++ m.x))
def Sp.Mb.y (m : Sp.Mb) : Sp.By × Sp.By × Sp.By := (m.p, m.core, m.q)
def Sp.Mb.ok (k : Nat) (m : Sp.Mb) : Prop := Sp.Bl m.p ∧ (∃ t, m.kq = 34 :: t) ∧ (∀ l, Sp.quo (m.kq ++ l) = some (m.key, l)) ∧ Sp.Bl m.p1 ∧ Sp.Bl m.p2 ∧ Sp.RdV k m.x m.v ∧ Sp.Bl m.q
def Sp.putAll (ms : List Sp.Mb) : Sp.V := ms.foldl (fun d m => DataW.put d (.string m.key) m.v) (Sp.vObj [])
theorem putAll_snoc (ms : List Sp.Mb) (m : Sp.Mb) : Sp.putAll (ms ++ [m]) = DataW.put (Sp.putAll ms) (.string m.key) m.v := by
  unfold Sp.putAll
  rw [List.foldl_append]; rfl
theorem rdV_obj {k : Nat} {ms : List Sp.Mb} (h : ∀ m ∈ ms, m.ok k) (hd : ∀ i (hi : i < ms.length), Maps.has (Sp.putAll (ms.take i)) (.string ms[i].key) = false) {z : Sp.By} (hz : Sp.Bl z) :
    Sp.RdV (k + 1) (123 :: (Sp.joinC ((ms.map Sp.Mb.y).map Sp.pad) ++ (z ++ [125]))) (Sp.putAll ms) := by
  refine ⟨⟨123, _, rfl, by decide, by decide, by decide⟩, fun f lv fl r hf hr => ?_⟩
  match f, hf with
  | f + 1, hf =>
    obtain ⟨⟨v', fl'⟩, h1, h2, h3⟩ := lstAll_sp (σ := Sp.V × Sp.Fl) 123 125 (Or.inr rfl) (Sp.memb (Sp.val f (lv + 1))) (fun i s => s.1 = Sp.putAll (ms.take i) ∧ ∀ d, lv + 1 + k ≤ d → Sp.OkF d 2 fl → Sp.OkF d 2 s.2) z hz r (ms.map Sp.Mb.y) (Sp.vObj [], (fl.1, (max fl.2.1 lv, fl.2.2))) (by
      rintro i hi ⟨a, fl1⟩ rest ⟨ha, hfl⟩ hrest
      rw [List.length_map] at hi
      simp only at ha hfl
      subst ha
      rw [List.getElem_map]
      obtain ⟨_, _, hkq, hp1, hp2, hrd, _⟩ := h ms[i] (List.getElem_mem hi)
      have hno := hd i hi
      obtain ⟨fl2, k1, k2⟩ := hrd.2 f (lv + 1) fl1 rest (by omega) hrest
      have e1 : (Sp.Mb.y ms[i]).2.1 ++ rest = ms[i].kq ++ (ms[i].p1 ++ 58 :: (ms[i].p2 ++ (ms[i].x ++ rest))) := by simp [Sp.Mb.y, Sp.Mb.core]
      rw [e1]
      unfold Sp.memb
      rw [hkq]
      simp only
      rw [hp1.sk, show Sp.skB (58 :: (ms[i].p2 ++ (ms[i].x ++ rest))) = 58 :: (ms[i].p2 ++ (ms[i].x ++ rest)) from rfl, if_pos (by rfl), List.tail_cons, hp2.sk, hrd.1.skB, k1]
      simp only
      rw [hno, Bool.or_false]
      refine ⟨_, rfl, ?_, fun d hd ho => k2 d hd (hfl d hd ho)⟩
      rw [List.take_succ_eq_append_getElem hi, putAll_snoc]) (by
      intro y hy
      obtain ⟨m, hm, rfl⟩ := List.mem_map.1 hy
      obtain ⟨a, ⟨t, ht⟩, _, _, _, _, b⟩ := h m hm
      refine ⟨a, ⟨34, t ++ (m.p1 ++ 58 :: (m.p2 ++ m.x)), ?_, by decide, by decide, by decide⟩, b⟩
      simp [Sp.Mb.y, Sp.Mb.core, ht]) ⟨rfl, fun d hd ho => ok_lift (by omega) ho ho.2.2⟩
    rw [List.length_map, List.take_length] at h2
    simp only at h2 h3
    subst h2
    refine ⟨fl', ?_, fun d hd ho => h3 d (by omega) ho⟩
    have e1 : 123 :: (Sp.joinC ((ms.map Sp.Mb.y).map Sp.pad) ++ (z ++ [125])) ++ r = 123 :: (Sp.joinC ((ms.map Sp.Mb.y).map Sp.pad) ++ (z ++ 125 :: r)) := by simp
    rw [e1]
    unfold Sp.val
    rw [show Sp.pk (123 :: (Sp.joinC ((ms.map Sp.Mb.y).map Sp.pad) ++ (z ++ 125 :: r))) = 123 from rfl, if_pos rfl, h1]

end Go.Proofs.YtdpomdelmdofmaaGreatDoor

namespace Go.Proofs.YtdpomdelmdofmaaGreatDoor
open Go.RowKit Go.Maps

namespace Sp
def dgs : By := [48, 49, 50, 51, 52, 53, 54, 55, 56, 57]
def ixf (acc : Nat) (l : By) : Nat := l.foldl (fun a c => a * 10 + (c.toNat - 48)) acc
/-- the number that a token is, if it is an index (at most the greatest int) -/
def idx (t : By) : Option Nat :=
  if t = [] ∨ (1 < t.length ∧ t[0]? = some 48) ∨ t.all (dgs.contains ·) = false then none else some (min (ixf 0 t) 9223372036854775807)
theorem idx_none {t : By} (h : t = [] ∨ (1 < t.length ∧ t[0]? = some 48) ∨ t.all (dgs.contains ·) = false) : idx t = none := by unfold idx; rw [if_pos h]
theorem idx_some {t : By} (h : ¬ (t = [] ∨ (1 < t.length ∧ t[0]? = some 48) ∨ t.all (dgs.contains ·) = false)) : idx t = some (min (ixf 0 t) 9223372036854775807) := by unfold idx; rw [if_neg h]
theorem dgs_iff (b : UInt8) (h : dgs.contains b = true) : 48 ≤ b.toNat ∧ b.toNat ≤ 57 := by
  simp only [dgs, List.contains_eq_mem, List.mem_cons, List.not_mem_nil, or_false, decide_eq_true_eq] at h
  rcases h with rfl | rfl | rfl | rfl | rfl | rfl | rfl | rfl | rfl | rfl <;> decide
end Sp

namespace Sp
/-- where a token leads: a value, or an error's number -/
def child (d : V) (t : By) : Except Nat V := match d with
  | .map es => if Maps.has (.map es : V) (.string t) = true then .ok ((DataW.map es).atKey (.string t) .nil) else .error 11
  | .slice es _ => match idx t with
    | none => .error 12
    | some i => match es[i]? with
      | some e => .ok e
      | none => .error 11
  | _ => .error 11
end Sp

namespace Sp
/-- where tokens lead -/
def find (d : V) : List By → Except Nat V
  | [] => .ok d
  | t :: r => match child d t with
    | .ok e => find e r
    | .error c => .error c
end Sp

namespace Sp
/-- a token's key: its escapes taken for what they stand for -/
def une : By → Option By
  | [] => some []
  | c :: r => if c = 126 then (match r with
    | 48 :: q => (une q).map (126 :: ·)
    | 49 :: q => (une q).map (47 :: ·)
    | _ => none)
    else (une r).map (c :: ·)
theorem une_eq (c : UInt8) (r : By) : une (c :: r) = if c = 126 then (match r with
    | 48 :: q => (une q).map (126 :: ·)
    | 49 :: q => (une q).map (47 :: ·)
    | _ => none)
    else (une r).map (c :: ·) := by
  match r with
  | [] => rfl
  | b :: q =>
    by_cases h0 : b = 48
    · subst h0; rfl
    · by_cases h1 : b = 49
      · subst h1; rfl
      · conv => lhs; unfold une
        rfl
/-- what is ahead of the first 126 -/
def ahd (l : By) : By := l.takeWhile (fun c => c != 126)
end Sp

namespace Sp
/-- the pieces between slashes -/
def pcs : By → List By
  | [] => [[]]
  | c :: r => if c = 47 then [] :: pcs r else match pcs r with
    | p :: ps => (c :: p) :: ps
    | [] => [[c]]
/-- what is ahead of the first slash -/
def ahs (l : By) : By := l.takeWhile (fun c => c != 47)
/-- a pointer's tokens, as the keys that they stand for -/
def keysOf : List By → Option (List By)
  | [] => some []
  | t :: r => match une t with
    | none => none
    | some k => (keysOf r).map (k :: ·)
def toks (l : By) : Option (List By) := if Lib.validD l = true then (match pcs l with
  | [] :: r => keysOf r
  | _ => none) else none
end Sp

noncomputable def veq (a b : Sp.V) : Bool := @decide (a = b) (Classical.propDecidable _)
theorem veq_t {a b : Sp.V} (h : a = b) : veq a b = true := by unfold veq; exact @decide_eq_true _ (Classical.propDecidable _) h
theorem veq_f {a b : Sp.V} (h : a ≠ b) : veq a b = false := by unfold veq; exact @decide_eq_false _ (Classical.propDecidable _) h

end Go.Proofs.YtdpomdelmdofmaaGreatDoor

namespace Go.Proofs.YtdpomdelmdofmaaGreatDoor
open Go.RowKit Go.Maps

namespace Sp
/-- which item of a value a token tells -/
def pos (d : V) (t : By) : Option Nat := match d with
  | .map es => es.findIdx? (fun p => p.1.sameKey (.string t))
  | .slice es _ => match idx t with
    | none => none
    | some i => if i < es.length then some i else none
  | _ => none
def vkids (d : V) : List V := match d with
  | .map es => es.map Prod.snd
  | .slice es _ => es
  | _ => []
/-- the way that tokens tell -/
def posn : V → List By → Option (List Nat)
  | _, [] => some []
  | d, t :: r => match pos d t with
    | none => none
    | some i => match (vkids d)[i]? with
      | none => none
      | some e => (posn e r).map (i :: ·)
/-- what stands at the end of a way -/
def vsub : List Nat → V → Option V
  | [], d => some d
  | i :: r, d => match (vkids d)[i]? with
    | none => none
    | some e => vsub r e
/-- ahead of which of n elements a token puts a value -/
def slot (n : Nat) (t : By) : Except Nat Nat :=
  if t = [45] then .ok n else match idx t with
    | none => .error 12
    | some i => if n < i then .error 11 else .ok i
def lins {α : Type} (i : Nat) (c : α) (l : List α) : List α := l.take i ++ c :: l.drop i
def ldel {α : Type} (i : Nat) (l : List α) : List α := l.take i ++ l.drop (i + 1)
def mput {α : Type} (k : Lit) (c : DataW α) (es : List (Lit × DataW α)) : List (Lit × DataW α) := DataW.insert (k, c) (es.filter fun p => !p.1.sameKey k)
def mdel {α : Type} (k : Lit) (es : List (Lit × DataW α)) : List (Lit × DataW α) := es.filter fun p => !p.1.sameKey k
/-- the same of values -/
def ved (F : List V → List V) (G : List (Lit × V) → List (Lit × V)) (d : V) : V := match d with
  | .slice es y => .slice (F es) y
  | .map es => .map (G es)
  | d => d
def insV (i : Nat) (k : By) (x : V) : V → V := ved (lins i x) (mput (.string k) x)
def remV (i : Nat) (k : By) : V → V := ved (ldel i) (mdel (.string k))
def setV (i : Nat) (k : By) (x : V) : V → V := ved (fun es => es.set i x) (mput (.string k) x)
/-- another value for one within -/
def vkid (i : Nat) (x : V) (d : V) : V := match d with
  | .slice es y => .slice (es.set i x) y
  | .map es => .map (es.modify i fun p => (p.1, x))
  | d => d
def vput : List Nat → V → V → V
  | [], x, _ => x
  | i :: r, x, d => match (vkids d)[i]? with
    | some e => vkid i (vput r x e) d
    | none => d
def dmax : List Int → Int
  | [] => 0
  | x :: r => max x (dmax r)
/-- how deep a value is -/
def dep : Nat → V → Int
  | 0, _ => 0
  | f + 1, d => match d with
    | .slice es _ => 1 + dmax (es.map (dep f))
    | .map es => 1 + dmax (es.map fun p => dep f p.2)
    | _ => 1
end Sp
end Go.Proofs.YtdpomdelmdofmaaGreatDoor
