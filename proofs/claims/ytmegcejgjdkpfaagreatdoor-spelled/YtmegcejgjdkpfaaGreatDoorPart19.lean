/-
  Plain facts on the functions of Sp: values spelled with blanks between their parts.
  What a script's answers are, as plain functions; walks of within, isConfig, failed.
  Walks of load, ask, step.
-/
import Derived.Test.YtmegcejgjdkpfaaGreatDoorPart18
import Derived.Test.YtmegcejgjdkpfaaGreatDoorPart16
namespace Go.Proofs.YtmegcejgjdkpfaaGreatDoor
open Go.Maps

/-- The text l reads as the value v, which is at most k levels deeper than its first. -/
def Sp.RdV (k : Nat) (l : Sp.By) (v : Sp.V) : Prop := Sp.Hd l ∧ ∀ (f : Nat) (lv : Int) (fl : Sp.Fl) (r : Sp.By), k < f → Sp.Nd r → ∃ fl', Sp.val f lv (l ++ r) fl = some (v, r, fl') ∧ ∀ d, lv + k ≤ d → Sp.OkF d 2 fl → Sp.OkF d 2 fl'
theorem Sp.RdV.mono {k k' : Nat} {l : Sp.By} {v : Sp.V} (h : Sp.RdV k l v) (hk : k ≤ k') : Sp.RdV k' l v :=
  ⟨h.1, fun f lv fl r hf hr => let ⟨fl', h1, h2⟩ := h.2 f lv fl r (by omega) hr; ⟨fl', h1, fun d hd => h2 d (by omega)⟩⟩

theorem rdV_num {l : Sp.By} {n : Sp.Nm} (hh : ∃ c t, l = c :: t ∧ (c = 45 ∨ Sp.isD c = true)) (hn : ∀ r, Sp.Nd r → Sp.num (l ++ r) = some (n, r)) (he : -2 ≤ n.2.2 ∧ n.2.2 ≤ 2) : Sp.RdV 0 l (Sp.vNum n) := by
  obtain ⟨c, t, e, hc⟩ := hh
  refine ⟨⟨c, t, e, ?_⟩, fun f lv fl r hf hr => ?_⟩
  · rcases hc with rfl | hc
    · exact ⟨by decide, by decide, by decide⟩
    · exact isD_hd hc
  · match f, hf with
    | f + 1, _ =>
      refine ⟨(fl.1, (max fl.2.1 lv, max (max fl.2.2 n.2.2) (-n.2.2))), ?_, fun d hd ho => ok_lift (by omega) ho (by have := ho.2.2; omega)⟩
      have hq := hn r hr
      have hpk : Sp.pk (l ++ r) = c.toNat := by rw [e]; rfl
      have hcc : c.toNat = 45 ∨ (48 ≤ c.toNat ∧ c.toNat ≤ 57) := by
        rcases hc with rfl | hc
        · exact Or.inl rfl
        · unfold Sp.isD at hc; simp at hc; exact Or.inr hc
      unfold Sp.val
      rw [hpk, if_neg (by omega), if_neg (by omega), if_neg (by omega), if_pos hcc, hq]
theorem rdV_word (k : Nat) (hk : k < 3) : Sp.RdV 0 (Sp.words.getD k []) (Sp.vWord k) := by
  refine ⟨?_, fun f lv fl r hf hr => ?_⟩
  · match k, hk with
    | 0, _ => exact ⟨110, _, rfl, by decide, by decide, by decide⟩
    | 1, _ => exact ⟨116, _, rfl, by decide, by decide, by decide⟩
    | 2, _ => exact ⟨102, _, rfl, by decide, by decide, by decide⟩
  · match f, hf with
    | f + 1, _ =>
      refine ⟨(fl.1, (max fl.2.1 lv, fl.2.2)), ?_, fun d hd ho => ok_lift (by omega) ho ho.2.2⟩
      match k, hk with
      | 0, _ => rfl
      | 1, _ => rfl
      | 2, _ => rfl
theorem rdV_str {a : Sp.By} {cs : List Nat} (h : Sp.Chs a cs) : Sp.RdV 0 (34 :: (a ++ [34])) (Sp.vStr (cs.flatMap Sp.encN)) := by
  refine ⟨⟨34, _, rfl, by decide, by decide, by decide⟩, fun f lv fl r hf hr => ?_⟩
  match f, hf with
  | f + 1, _ =>
    refine ⟨(fl.1, (max fl.2.1 lv, fl.2.2)), ?_, fun d hd ho => ok_lift (by omega) ho ho.2.2⟩
    have e : 34 :: (a ++ [34]) ++ r = 34 :: (a ++ 34 :: r) := by simp
    rw [e]
    unfold Sp.val
    rw [show Sp.pk (34 :: (a ++ 34 :: r)) = 34 from rfl, if_neg (by decide), if_neg (by decide), if_pos rfl, chs_quo h r]

/-! items with blanks round them -/
def Sp.pad (y : Sp.By × Sp.By × Sp.By) : Sp.By := y.1 ++ (y.2.1 ++ y.2.2)
theorem skB_Bl_close {z : Sp.By} (hz : Sp.Bl z) {cl : UInt8} (hcl : cl = 93 ∨ cl = 125) (r : Sp.By) : Sp.skB (z ++ cl :: r) = cl :: r := by rw [hz.sk, skB_close hcl]
theorem lst_sp {σ : Type} (cl : UInt8) (hcl : cl = 93 ∨ cl = 125) (item : Sp.By → σ → Option (Sp.By × σ)) (P : Nat → σ → Prop) (z : Sp.By) (hz : Sp.Bl z) (r : Sp.By) : ∀ (ys : List (Sp.By × Sp.By × Sp.By)) (k : Nat) (s : σ) (n : Nat),
    (∀ i (h : i < ys.length) s rest, P (k + i) s → Sp.Nd rest → ∃ s', item (ys[i].2.1 ++ rest) s = some (rest, s') ∧ P (k + i + 1) s') → (∀ y ∈ ys, Sp.Bl y.1 ∧ Sp.Hd y.2.1 ∧ Sp.Bl y.2.2) → ys ≠ [] → ys.length ≤ n → P k s →
    ∃ s', Sp.lst cl item n (Sp.joinC (ys.map Sp.pad) ++ (z ++ cl :: r)) s = some (r, s') ∧ P (k + ys.length) s' := by
  intro ys
  induction ys with
  | nil => intro k s n _ _ h; exact absurd rfl h
  | cons y ys ih =>
    intro k s n hit hhd _ hn hP
    match n, hn with
    | n + 1, hn =>
      obtain ⟨hp, hy, hq⟩ := hhd y (by simp)
      have e1 : Sp.joinC ((y :: ys).map Sp.pad) ++ (z ++ cl :: r) = y.1 ++ (y.2.1 ++ (y.2.2 ++ (Sp.joinR (ys.map Sp.pad) ++ (z ++ cl :: r)))) := by simp [Sp.joinC, Sp.pad]
      rw [e1]
      unfold Sp.lst
      rw [hp.sk, hy.skB]
      cases ys with
      | nil =>
        obtain ⟨s', h1, h2⟩ := hit 0 (by simp) s (y.2.2 ++ (z ++ cl :: r)) hP (hq.nd (hz.nd (nd_close hcl r)))
        simp only [List.getElem_cons_zero] at h1
        simp only [List.map_nil, Sp.joinR, List.nil_append]
        rw [h1]
        simp only
        rw [hq.sk, skB_Bl_close hz hcl, if_pos (by rw [tk_hd]; simp)]
        exact ⟨s', rfl, h2⟩
      | cons x xs =>
        have e2 : Sp.joinR ((x :: xs).map Sp.pad) ++ (z ++ cl :: r) = 44 :: (Sp.joinC ((x :: xs).map Sp.pad) ++ (z ++ cl :: r)) := by simp [Sp.joinR, Sp.joinC]
        rw [e2]
        obtain ⟨s', h1, h2⟩ := hit 0 (by simp) s (y.2.2 ++ 44 :: (Sp.joinC ((x :: xs).map Sp.pad) ++ (z ++ cl :: r))) hP (hq.nd (nd_comma _))
        simp only [List.getElem_cons_zero] at h1
        rw [h1]
        simp only
        have e3 : Sp.skB (44 :: (Sp.joinC ((x :: xs).map Sp.pad) ++ (z ++ cl :: r))) = 44 :: (Sp.joinC ((x :: xs).map Sp.pad) ++ (z ++ cl :: r)) := rfl
        have e4 : Sp.tk (44 :: (Sp.joinC ((x :: xs).map Sp.pad) ++ (z ++ cl :: r))) cl = false := by
          rw [tk_hd]
          rcases hcl with rfl | rfl
          · rfl
          · rfl
        rw [hq.sk, e3, e4, if_neg (by decide), if_pos (by rfl), List.tail_cons]
        obtain ⟨s2, h3, h4⟩ := ih (k + 1) s' n (fun i hi s rest hp hr => by
          have := hit (i + 1) (by simpa using hi) s rest (by rw [show k + (i + 1) = k + 1 + i by omega]; exact hp) hr
          simp only [List.getElem_cons_succ] at this
          rw [show k + 1 + i = k + (i + 1) by omega]
          exact this) (fun y hy => hhd y (by simp [hy])) (by simp) (by simp at hn ⊢; omega) h2
        exact ⟨s2, h3, by rw [show k + (y :: x :: xs).length = k + 1 + (x :: xs).length by simp; omega]; exact h4⟩
theorem pad_ge (ys : List (Sp.By × Sp.By × Sp.By)) (h : ∀ y ∈ ys, Sp.Hd y.2.1) : ys.length ≤ (Sp.joinC (ys.map Sp.pad)).length := by
  have hr : ∀ xs : List Sp.By, xs.length ≤ (Sp.joinR xs).length := by
    intro xs
    induction xs with
    | nil => simp
    | cons y r ih => simp [Sp.joinR]; omega
  cases ys with
  | nil => simp
  | cons y r =>
    obtain ⟨c, t, e, _⟩ := h y (by simp)
    have := hr (r.map Sp.pad)
    rw [List.length_map] at this
    simp [Sp.joinC, Sp.pad, e]; omega
theorem lstAll_sp {σ : Type} (op cl : UInt8) (hcl : cl = 93 ∨ cl = 125) (item : Sp.By → σ → Option (Sp.By × σ)) (P : Nat → σ → Prop) (z : Sp.By) (hz : Sp.Bl z) (r : Sp.By) (ys : List (Sp.By × Sp.By × Sp.By)) (s : σ)
    (hit : ∀ i (h : i < ys.length) s rest, P i s → Sp.Nd rest → ∃ s', item (ys[i].2.1 ++ rest) s = some (rest, s') ∧ P (i + 1) s') (hhd : ∀ y ∈ ys, Sp.Bl y.1 ∧ Sp.Hd y.2.1 ∧ Sp.Bl y.2.2) (hP : P 0 s) :
    ∃ s', Sp.lstAll op cl item (op :: (Sp.joinC (ys.map Sp.pad) ++ (z ++ cl :: r))) s = some (r, s') ∧ P ys.length s' := by
  unfold Sp.lstAll
  rw [if_pos (by rw [tk_hd]; simp), List.tail_cons]
  cases ys with
  | nil =>
    rw [show Sp.joinC (([] : List (Sp.By × Sp.By × Sp.By)).map Sp.pad) ++ (z ++ cl :: r) = z ++ cl :: r from rfl, skB_Bl_close hz hcl, if_pos (by rw [tk_hd]; simp), List.tail_cons]
    exact ⟨s, rfl, hP⟩
  | cons y ys =>
    obtain ⟨hp, hy, hq⟩ := hhd y (by simp)
    have e1 : Sp.joinC ((y :: ys).map Sp.pad) ++ (z ++ cl :: r) = y.1 ++ (y.2.1 ++ (y.2.2 ++ (Sp.joinR (ys.map Sp.pad) ++ (z ++ cl :: r)))) := by simp [Sp.joinC, Sp.pad]
    have e2 : Sp.skB (Sp.joinC ((y :: ys).map Sp.pad) ++ (z ++ cl :: r)) = y.2.1 ++ (y.2.2 ++ (Sp.joinR (ys.map Sp.pad) ++ (z ++ cl :: r))) := by rw [e1, hp.sk, hy.skB]
    have e3 : Sp.tk (y.2.1 ++ (y.2.2 ++ (Sp.joinR (ys.map Sp.pad) ++ (z ++ cl :: r)))) cl = false := hy.tk _ hcl
    have e5 : y.2.1 ++ (y.2.2 ++ (Sp.joinR (ys.map Sp.pad) ++ (z ++ cl :: r))) = Sp.joinC ((([], y.2.1, y.2.2) :: ys).map Sp.pad) ++ (z ++ cl :: r) := by simp [Sp.joinC, Sp.pad]
    rw [e2, e3, if_neg (by decide)]
    have hj := pad_ge (([], y.2.1, y.2.2) :: ys) (by
      intro x hx
      rcases List.mem_cons.1 hx with rfl | hx
      · exact hy
      · exact (hhd x (by simp [hx])).2.1)
    obtain ⟨s', h1, h2⟩ := lst_sp cl hcl item P z hz r (([], y.2.1, y.2.2) :: ys) 0 s ((y.2.1 ++ (y.2.2 ++ (Sp.joinR (ys.map Sp.pad) ++ (z ++ cl :: r)))).length + 1) (fun i hi s rest hp hr => by
      rw [Nat.zero_add] at hp ⊢
      have := hit i (by simpa using hi) s rest hp hr
      cases i with
      | zero => exact this
      | succ i => exact this) (by
      intro x hx
      rcases List.mem_cons.1 hx with rfl | hx
      · exact ⟨by unfold Sp.Bl Sp.blks; simp, hy, hq⟩
      · exact hhd x (by simp [hx])) (by simp) (by rw [e5, List.length_append]; omega) hP
    rw [Nat.zero_add] at h2
    rw [← e5] at h1
    exact ⟨s', h1, h2⟩

/-- an item: a value with blanks round it -/
def Sp.ItV (k : Nat) (y : Sp.By × Sp.By × Sp.By) (v : Sp.V) : Prop := Sp.Bl y.1 ∧ Sp.RdV k y.2.1 v ∧ Sp.Bl y.2.2
theorem rdV_arr {k : Nat} {ys : List (Sp.By × Sp.By × Sp.By)} {vs : List Sp.V} (hl : ys.length = vs.length) (h : ∀ i (h1 : i < ys.length) (h2 : i < vs.length), Sp.ItV k ys[i] vs[i]) {z : Sp.By} (hz : Sp.Bl z) :
    Sp.RdV (k + 1) (91 :: (Sp.joinC (ys.map Sp.pad) ++ (z ++ [93]))) (Sp.vArr vs) := by
  refine ⟨⟨91, _, rfl, by decide, by decide, by decide⟩, fun f lv fl r hf hr => ?_⟩
  match f, hf with
  | f + 1, hf =>
    obtain ⟨⟨es', fl'⟩, h1, h2, h3⟩ := lstAll_sp (σ := List Sp.V × Sp.Fl) 91 93 (Or.inl rfl) (Sp.elem (Sp.val f (lv + 1))) (fun i s => s.1 = vs.take i ∧ ∀ d, lv + 1 + k ≤ d → Sp.OkF d 2 fl → Sp.OkF d 2 s.2) z hz r ys ([], (fl.1, (max fl.2.1 lv, fl.2.2))) (by
      rintro i hi ⟨a, fl1⟩ rest ⟨ha, hfl⟩ hrest
      simp only at ha hfl
      subst ha
      obtain ⟨_, hrd, _⟩ := h i hi (by omega)
      obtain ⟨fl2, k1, k2⟩ := hrd.2 f (lv + 1) fl1 rest (by omega) hrest
      unfold Sp.elem
      simp only
      rw [k1]
      exact ⟨_, rfl, (List.take_succ_eq_append_getElem (by omega)).symm, fun d hd ho => k2 d hd (hfl d hd ho)⟩) (by
      intro y hy
      obtain ⟨i, hi, rfl⟩ := List.getElem_of_mem hy
      obtain ⟨a, b, c⟩ := h i hi (by omega)
      exact ⟨a, b.1, c⟩) ⟨by simp, fun d hd ho => ok_lift (by omega) ho ho.2.2⟩
    rw [hl, List.take_length] at h2
    simp only at h2 h3
    subst h2
    refine ⟨fl', ?_, fun d hd ho => h3 d (by omega) ho⟩
    have e1 : 91 :: (Sp.joinC (ys.map Sp.pad) ++ (z ++ [93])) ++ r = 91 :: (Sp.joinC (ys.map Sp.pad) ++ (z ++ 93 :: r)) := by simp
    rw [e1]
    unfold Sp.val
    rw [show Sp.pk (91 :: (Sp.joinC (ys.map Sp.pad) ++ (z ++ 93 :: r))) = 91 from rfl, if_neg (by decide), if_pos rfl, h1]

/-- a member: blanks, its key's spelling, blanks, blanks, its value, blanks -/
structure Sp.Mb where
  p : Sp.By
  kq : Sp.By
  p1 : Sp.By
  p2 : Sp.By
  x : Sp.By
  q : Sp.By
  key : Sp.By
  v : Sp.V
def Sp.Mb.core (m : Sp.Mb) : Sp.By := m.kq ++ (m.p1 ++ 58 :: (m.p2 ++ m.x))
def Sp.Mb.y (m : Sp.Mb) : Sp.By × Sp.By × Sp.By := (m.p, m.core, m.q)
def Sp.Mb.ok (k : Nat) (m : Sp.Mb) : Prop := Sp.Bl m.p ∧ (∃ t, m.kq = 34 :: t) ∧ (∀ l, Sp.quo (m.kq ++ l) = some (m.key, l)) ∧ Sp.Bl m.p1 ∧ Sp.Bl m.p2 ∧ Sp.RdV k m.x m.v ∧ Sp.Bl m.q
def Sp.putAll (ms : List Sp.Mb) : Sp.V := ms.foldl (fun d m => DataW.put d (.string m.key) m.v) (Sp.vObj [])
theorem putAll_snoc (ms : List Sp.Mb) (m : Sp.Mb) : Sp.putAll (ms ++ [m]) = DataW.put (Sp.putAll ms) (.string m.key) m.v := by
  unfold Sp.putAll
  rw [List.foldl_append]; rfl
theorem rdV_obj {k : Nat} {ms : List Sp.Mb} (h : ∀ m ∈ ms, m.ok k) (hd : ∀ i (hi : i < ms.length), Maps.has (Sp.putAll (ms.take i)) (.string ms[i].key) = false) {z : Sp.By} (hz : Sp.Bl z) :
    Sp.RdV (k + 1) (123 :: (Sp.joinC ((ms.map Sp.Mb.y).map Sp.pad) ++ (z ++ [125]))) (Sp.putAll ms) := by
  refine ⟨⟨123, _, rfl, by decide, by decide, by decide⟩, fun f lv fl r hf hr => ?_⟩
  match f, hf with
  | f + 1, hf =>
    obtain ⟨⟨v', fl'⟩, h1, h2, h3⟩ := lstAll_sp (σ := Sp.V × Sp.Fl) 123 125 (Or.inr rfl) (Sp.memb (Sp.val f (lv + 1))) (fun i s => s.1 = Sp.putAll (ms.take i) ∧ ∀ d, lv + 1 + k ≤ d → Sp.OkF d 2 fl → Sp.OkF d 2 s.2) z hz r (ms.map Sp.Mb.y) (Sp.vObj [], (fl.1, (max fl.2.1 lv, fl.2.2))) (by
      rintro i hi ⟨a, fl1⟩ rest ⟨ha, hfl⟩ hrest
      rw [List.length_map] at hi
      simp only at ha hfl
      subst ha
      rw [List.getElem_map]
      obtain ⟨_, _, hkq, hp1, hp2, hrd, _⟩ := h ms[i] (List.getElem_mem hi)
      have hno := hd i hi
      obtain ⟨fl2, k1, k2⟩ := hrd.2 f (lv + 1) fl1 rest (by omega) hrest
      have e1 : (Sp.Mb.y ms[i]).2.1 ++ rest = ms[i].kq ++ (ms[i].p1 ++ 58 :: (ms[i].p2 ++ (ms[i].x ++ rest))) := by simp [Sp.Mb.y, Sp.Mb.core]
      rw [e1]
      unfold Sp.memb
      rw [hkq]
      simp only
      rw [hp1.sk, show Sp.skB (58 :: (ms[i].p2 ++ (ms[i].x ++ rest))) = 58 :: (ms[i].p2 ++ (ms[i].x ++ rest)) from rfl, if_pos (by rfl), List.tail_cons, hp2.sk, hrd.1.skB, k1]
      simp only
      rw [hno, Bool.or_false]
      refine ⟨_, rfl, ?_, fun d hd ho => k2 d hd (hfl d hd ho)⟩
      rw [List.take_succ_eq_append_getElem hi, putAll_snoc]) (by
      intro y hy
      obtain ⟨m, hm, rfl⟩ := List.mem_map.1 hy
      obtain ⟨a, ⟨t, ht⟩, _, _, _, _, b⟩ := h m hm
      refine ⟨a, ⟨34, t ++ (m.p1 ++ 58 :: (m.p2 ++ m.x)), ?_, by decide, by decide, by decide⟩, b⟩
      simp [Sp.Mb.y, Sp.Mb.core, ht]) ⟨rfl, fun d hd ho => ok_lift (by omega) ho ho.2.2⟩
    rw [List.length_map, List.take_length] at h2
    simp only at h2 h3
    subst h2
    refine ⟨fl', ?_, fun d hd ho => h3 d (by omega) ho⟩
    have e1 : 123 :: (Sp.joinC ((ms.map Sp.Mb.y).map Sp.pad) ++ (z ++ [125])) ++ r = 123 :: (Sp.joinC ((ms.map Sp.Mb.y).map Sp.pad) ++ (z ++ 125 :: r)) := by simp
    rw [e1]
    unfold Sp.val
    rw [show Sp.pk (123 :: (Sp.joinC ((ms.map Sp.Mb.y).map Sp.pad) ++ (z ++ 125 :: r))) = 123 from rfl, if_pos rfl, h1]

end Go.Proofs.YtmegcejgjdkpfaaGreatDoor

namespace Go.Proofs.YtmegcejgjdkpfaaGreatDoor
open Go.RowKit

def Sp.inB (n a b : Int) : Bool := decide (a ≤ n) && decide (n ≤ b)
def Sp.cfg (d e n : Int) : Bool := Sp.inB d 1 20 && (Sp.inB e 0 400 && Sp.inB n 0 2000)
/-- the document -/
abbrev Sp.Doc := Option Sp.V
/-- a step's kind and its text -/
abbrev Sp.St := Int × Sp.By
/-- what loading tells of what was read -/
def Sp.ldd (r : Nat × Option Sp.V) (doc : Sp.Doc) : (Nat × Sp.By) × Sp.Doc :=
  match r.2 with
  | some v => ((r.1, []), some v)
  | none => ((r.1, []), doc)
/-- one step: the code, the text; the document behind it -/
def Sp.step (d e n : Int) (doc : Sp.Doc) (o : Sp.St) : (Nat × Sp.By) × Sp.Doc :=
  if Sp.cfg d e n then
    (if o.1 < 1 ∨ 9 < o.1 then ((1, []), doc)
     else if o.1 = 1 then Sp.ldd (Sp.readTo o.2 d e) doc
     else match doc with
       | none => ((3, []), doc)
       | some v => if o.1 = 2 then ((0, Sp.can top v), doc) else ((1, []), doc))
  else ((2, []), doc)
def Sp.run (d e n : Int) : Sp.Doc → List Sp.St → List (Nat × Sp.By)
  | _, [] => []
  | doc, o :: r => (Sp.step d e n doc o).1 :: Sp.run d e n (Sp.step d e n doc o).2 r
/-- the document behind some steps -/
def Sp.docAfter (d e n : Int) : Sp.Doc → List Sp.St → Sp.Doc
  | doc, [] => doc
  | doc, o :: r => Sp.docAfter d e n (Sp.step d e n doc o).2 r

theorem Sp.run_len (d e n : Int) : ∀ (l : List Sp.St) (doc : Sp.Doc), (Sp.run d e n doc l).length = l.length := by
  intro l
  induction l with
  | nil => intro doc; rfl
  | cons o r ih => intro doc; simp [Sp.run, ih]
theorem Sp.run_take (d e n : Int) : ∀ (l : List Sp.St) (doc : Sp.Doc) (k : Nat), Sp.run d e n doc (l.take k) = (Sp.run d e n doc l).take k := by
  intro l
  induction l with
  | nil => intro doc k; simp [Sp.run]
  | cons o r ih =>
    intro doc k
    cases k with
    | zero => rfl
    | succ k => simp [Sp.run, ih]
theorem Sp.run_snoc (d e n : Int) : ∀ (l : List Sp.St) (doc : Sp.Doc) (o : Sp.St), Sp.run d e n doc (l ++ [o]) = Sp.run d e n doc l ++ [(Sp.step d e n (Sp.docAfter d e n doc l) o).1] := by
  intro l
  induction l with
  | nil => intro doc o; rfl
  | cons x r ih => intro doc o; simp [Sp.run, Sp.docAfter, ih]
theorem Sp.after_snoc (d e n : Int) : ∀ (l : List Sp.St) (doc : Sp.Doc) (o : Sp.St), Sp.docAfter d e n doc (l ++ [o]) = (Sp.step d e n (Sp.docAfter d e n doc l) o).2 := by
  intro l
  induction l with
  | nil => intro doc o; rfl
  | cons x r ih => intro doc o; simp [Sp.docAfter, ih]

/-- an answer -/
def ansV (c : Nat) (t : Sp.By) : Value := .agg #[.int .i64 c, .int .i64 0, .string ⟨t.toArray⟩]

set_option maxHeartbeats 1000000 in
theorem within_any (n a b : Int) (w : World) : Calls Tryz.prog 43 #[.int .i64 n, .int .i64 a, .int .i64 b] w fun e w' => e = .returned (.bool (Sp.inB n a b)) ∧ w' = w := by
  by_cases h1 : a ≤ n
  · by_cases h2 : n ≤ b
    · have e1 : decide (a ≤ n) = true := by simpa using h1
      have e2 : decide (n ≤ b) = true := by simpa using h2
      have HE := hide (show Sp.inB n a b = true by unfold Sp.inB; rw [e1, e2]; rfl)
      clear h1 h2
      go_enter Tryz.func43, Tryz.ntmps43
      go_wp2_with (fail)
      go_ret
      exact ⟨by rw [unhide HE]; rfl, rfl⟩
    · have e1 : decide (a ≤ n) = true := by simpa using h1
      have e2 : decide (n ≤ b) = false := by simpa using h2
      have HE := hide (show Sp.inB n a b = false by unfold Sp.inB; rw [e1, e2]; rfl)
      clear h1 h2
      go_enter Tryz.func43, Tryz.ntmps43
      go_wp2_with (fail)
      go_ret
      exact ⟨by rw [unhide HE]; rfl, rfl⟩
  · have e1 : decide (a ≤ n) = false := by simpa using h1
    have HE := hide (show Sp.inB n a b = false by unfold Sp.inB; rw [e1]; rfl)
    clear h1
    go_enter Tryz.func43, Tryz.ntmps43
    go_wp2_with (fail)
    go_ret
    exact ⟨by rw [unhide HE]; rfl, rfl⟩

set_option maxHeartbeats 1000000 in
theorem isConfig_any (d e n : Int) (w : World) : Calls Tryz.prog 32 #[.agg #[.int .i64 d, .int .i64 e, .int .i64 n]] w fun x w' => x = .returned (.bool (Sp.cfg d e n)) ∧ Below w.heap.size w w' := by
  have hb : Below w.heap.size w (w.alloc (.cells #[.int .i64 d, .int .i64 e, .int .i64 n] 23)) := (Below.refl _ _).alloc (Nat.le_refl _) _
  go_enter Tryz.func32, Tryz.ntmps32
  go_wp2_with (fail)
  refine (within_any d 1 20 _).mono ?_
  rintro x w1 ⟨rfl, rfl⟩
  cases h1 : Sp.inB d 1 20 with
  | false =>
    have H1 := hide h1
    clear h1
    simp only
    go_wp2_with (fail)
    go_ret
    exact ⟨by unfold Sp.cfg; rw [unhide H1]; rfl, hb⟩
  | true =>
    have H1 := hide h1
    clear h1
    simp only
    go_wp2_with (fail)
    refine (within_any e 0 400 _).mono ?_
    rintro x w1 ⟨rfl, rfl⟩
    cases h2 : Sp.inB e 0 400 with
    | false =>
      have H2 := hide h2
      clear h2
      simp only
      go_wp2_with (fail)
      go_ret
      exact ⟨by unfold Sp.cfg; rw [unhide H1, unhide H2]; rfl, hb⟩
    | true =>
      have H2 := hide h2
      clear h2
      simp only
      go_wp2_with (fail)
      refine (within_any n 0 2000 _).mono ?_
      rintro x w1 ⟨rfl, rfl⟩
      go_wp2_with (fail)
      go_ret
      exact ⟨by unfold Sp.cfg; rw [unhide H1, unhide H2]; simp, hb⟩

set_option maxHeartbeats 1000000 in
theorem failed_any (c : Nat) (w : World) : Calls Tryz.prog 33 #[.int .i64 c] w fun x w' => x = .returned (ansV c []) ∧ Below w.heap.size w w' := by
  unfold ansV
  go_enter Tryz.func33, Tryz.ntmps33
  go_wp2_with (fail)
  refine bodyPost_ret (v := .agg #[.int .i64 c, .int .i64 0, .string ⟨([] : Sp.By).toArray⟩]) (by simp [results, Tryz.results33, go_sem]) rfl ⟨rfl, ?_⟩
  exact (Below.refl _ w).alloc (Nat.le_refl _) _

end Go.Proofs.YtmegcejgjdkpfaaGreatDoor

namespace Go.Proofs.YtmegcejgjdkpfaaGreatDoor
open Go.RowKit

/-- the session's block -/
def SB (w : World) (S : Nat) (d e n : Int) (p : Value) : Prop := w.heap[S]? = some (.cells #[.int .i64 d, .int .i64 e, .int .i64 n, p] 58 (0, 0))
section
variable {w : World} {S : Nat} {d e n : Int} {p : Value}
theorem SB.lt (h : SB w S d e n p) : S < w.heap.size := (Array.getElem?_eq_some_iff.1 h).1
theorem SB.c0 (h : SB w S d e n p) : w.cell? ⟨S, 0, none⟩ = some (.int .i64 d) := by simp [World.cell?, show w.heap[S]? = _ from h]
theorem SB.c1 (h : SB w S d e n p) : w.cell? ⟨S, 1, none⟩ = some (.int .i64 e) := by simp [World.cell?, show w.heap[S]? = _ from h]
theorem SB.c2 (h : SB w S d e n p) : w.cell? ⟨S, 2, none⟩ = some (.int .i64 n) := by simp [World.cell?, show w.heap[S]? = _ from h]
theorem SB.c3 (h : SB w S d e n p) : w.cell? ⟨S, 3, none⟩ = some p := by simp [World.cell?, show w.heap[S]? = _ from h]
theorem SB.fz (h : SB w S d e n p) (o : Nat) : w.frozen? ⟨S, o, none⟩ = false := by simp [World.frozen?, show w.heap[S]? = _ from h]
theorem SB.low {w' : World} (h : SB w S d e n p) (hb : Below w.heap.size w w') : SB w' S d e n p := (hb.block S h.lt).trans h
theorem SB.set3 (h : SB w S d e n p) (q : Value) : SB (w.setCell ⟨S, 3, none⟩ q) S d e n q := by
  simp only [SB, World.setCell, Array.getElem?_modify]
  rw [if_pos trivial, show w.heap[S]? = _ from h]; rfl
end

/-- The pointer p leads to the document, through blocks of which F holds. -/
def DocF (w : World) (F : Nat → Prop) (p : Value) : Sp.Doc → Prop
  | none => p = .pointer none
  | some v => Rep top F w p v ∧ (Sp.can top v).length ≤ 80000
theorem DocF.move {w w' : World} {F F' : Nat → Prop} {p : Value} {doc : Sp.Doc} (h : DocF w F p doc) (hF : ∀ k, F k → k < w.heap.size → w'.heap[k]? = w.heap[k]? ∧ F' k) : DocF w' F' p doc := by
  cases doc with
  | none => exact h
  | some v => exact ⟨h.1.move hF, h.2⟩

theorem Laid.drew {w : World} (h : Laid w) : Laid w.drew := ⟨h.ng, h.esc, h.words, h.utf8, h.pow⟩

/-- Read, its ends in one form. -/
theorem Read_one (s : Sp.By) (d e : Int) (w : World) (hT : Laid w) :
    Calls Tryz.prog 61 #[.string ⟨s.toArray⟩, .int .i64 d, .int .i64 e] w fun x w' => ∃ (p : Option Addr) (c : Nat), x = .returned (.tuple #[.pointer p, .int .i64 c]) ∧ Below w.heap.size w w' ∧
      ((0 < c ∧ Sp.readTo s d e = (c, none)) ∨ (c = 0 ∧ ∃ v, Sp.readTo s d e = (0, some v) ∧ Rep top (fun k => w.heap.size ≤ k) w' (.pointer p) v)) := by
  refine (Read_any ⟨s.toArray⟩ d e w hT).mono ?_
  rintro x w' ⟨hb, hc⟩
  rcases hc with ⟨c, h1, h2, rfl⟩ | ⟨v, p, h1, rfl, h2⟩
  · exact ⟨none, c, rfl, hb, Or.inl ⟨h2, h1⟩⟩
  · exact ⟨some p, 0, rfl, hb, Or.inr ⟨rfl, v, h1, h2⟩⟩

set_option maxHeartbeats 2000000 in
theorem sread_any {S : Nat} {d e n : Int} {p : Value} {w : World} (s : Sp.By) (h : SB w S d e n p) (hT : Laid w) :
    Calls Tryz.prog 44 #[.pointer (some ⟨S, 0, none⟩), .string ⟨s.toArray⟩] w fun x w' => ∃ (p : Option Addr) (c : Nat), x = .returned (.tuple #[.pointer p, .int .i64 c]) ∧ Below w.heap.size w w' ∧
      ((0 < c ∧ Sp.readTo s d e = (c, none)) ∨ (c = 0 ∧ ∃ v, Sp.readTo s d e = (0, some v) ∧ Rep top (fun k => w.heap.size ≤ k) w' (.pointer p) v)) := by
  have c0 := h.c0
  have c1 := h.c1
  have HR := hide (fun (w0 : World) (hT : Laid w0) => Read_one s d e w0 hT)
  have HT := hide hT
  clear hT h
  go_enter Tryz.func44, Tryz.ntmps44
  go_wp2_with (fail)
  go_region_with (go_at_call 61; refine (unhide HR _ ?_).mono ?_; exact (unhide HT).drew; rintro x w2 ⟨p2, c, rfl, hb2, hc⟩)
  all_goals (
    replace hb2 : Below w.heap.size w w2 := ⟨hb2.os, hb2.tape, hb2.output, hb2.size, hb2.block⟩
    replace hc : (0 < c ∧ Sp.readTo s d e = (c, none)) ∨ (c = 0 ∧ ∃ v, Sp.readTo s d e = (0, some v) ∧ Rep top (fun k => w.heap.size ≤ k) w2 (.pointer p2) v) := hc
    have HB := hide hb2
    have HC := hide hc
    clear hb2 hc
    go_wp2_with (fail)
    go_ret2
    exact ⟨p2, c, rfl, unhide HB, unhide HC⟩)

/-- a result's block -/
def AB (w : World) (g : Nat) : Prop := w.heap[g]? = some (.cells #[.int .i64 0, .int .i64 0, .string ⟨#[]⟩] 46 (0, 0))
section
variable {w : World} {g : Nat}
theorem AB.lt (h : AB w g) : g < w.heap.size := (Array.getElem?_eq_some_iff.1 h).1
theorem AB.c0 (h : AB w g) : w.cell? ⟨g, 0, none⟩ = some (.int .i64 0) := by simp [World.cell?, show w.heap[g]? = _ from h]
theorem AB.c1 (h : AB w g) : w.cell? ⟨g, 1, none⟩ = some (.int .i64 0) := by simp [World.cell?, show w.heap[g]? = _ from h]
theorem AB.c2 (h : AB w g) : w.cell? ⟨g, 2, none⟩ = some (.string ⟨#[]⟩) := by simp [World.cell?, show w.heap[g]? = _ from h]
theorem AB.fz (h : AB w g) (o : Nat) : w.frozen? ⟨g, o, none⟩ = false := by simp [World.frozen?, show w.heap[g]? = _ from h]
theorem AB.low {w' : World} (h : AB w g) (hb : Below w.heap.size w w') : AB w' g := (hb.block g h.lt).trans h
theorem AB.new (w : World) : AB (w.alloc (.cells #[.int .i64 0, .int .i64 0, .string ⟨#[]⟩] 46)) w.heap.size := by
  show (w.heap.push _)[w.heap.size]? = _
  simp
end
theorem below_set {B : Nat} {w w' : World} (h : Below B w w') (b o : Nat) (hb : B ≤ b) (u : Value) : Below B w (w'.setCell ⟨b, o, none⟩ u) := h.setCell (by exact hb) u

set_option maxHeartbeats 2000000 in
theorem load_any {S : Nat} {d e n : Int} {p : Value} {doc : Sp.Doc} {w : World} {F : Nat → Prop} (s : Sp.By) (h : SB w S d e n p) (hd : DocF w F p doc) (hT : Laid w) :
    Calls Tryz.prog 34 #[.pointer (some ⟨S, 0, none⟩), .string ⟨s.toArray⟩] w fun x w' => KeptX S w w' ∧ ∃ c doc' p', ((∃ v, Sp.readTo s d e = (0, some v) ∧ c = 0 ∧ doc' = some v) ∨ (0 < c ∧ Sp.readTo s d e = (c, none) ∧ doc' = doc)) ∧
      x = .returned (ansV c []) ∧ SB w' S d e n p' ∧ DocF w' (fun k => (F k ∧ k < w.heap.size) ∨ w.heap.size ≤ k) p' doc' := by
  have c0 := h.c0
  have c1 := h.c1
  have hlt := h.lt
  have hba : Below w.heap.size w (w.alloc (.cells #[.int .i64 0, .int .i64 0, .string ⟨#[]⟩] 46)) := (Below.refl _ _).alloc (Nat.le_refl _) _
  have hTa := hT.below (hba.mono hT.ng)
  have h0 := h.low hba
  have HR := hide hTa
  have HS := hide h0
  have HD := hide hd
  have HAB := hide (AB.new w)
  clear hT h hd h0
  go_enter Tryz.func34, Tryz.ntmps34
  go_wp2_with (fail)
  refine (sread_any s (unhide HS) (unhide HR)).mono ?_
  rintro x w2 ⟨p2, c, rfl, hb2, hc⟩
  · replace hb2 : Below (w.alloc (.cells #[.int .i64 0, .int .i64 0, .string ⟨#[]⟩] 46)).heap.size (w.alloc (.cells #[.int .i64 0, .int .i64 0, .string ⟨#[]⟩] 46)) w2 := ⟨hb2.os, hb2.tape, hb2.output, hb2.size, hb2.block⟩
    replace hc : (0 < c ∧ Sp.readTo s d e = (c, none)) ∨ (c = 0 ∧ ∃ v, Sp.readTo s d e = (0, some v) ∧ Rep top (fun k => w.heap.size + 1 ≤ k) w2 (.pointer p2) v) := hc.imp id fun ⟨a, v, b, c⟩ => ⟨a, v, b, c.move fun k h1 h2 => ⟨rfl, by simpa using h1⟩⟩
    have s2 := (unhide HS).low hb2
    have a2 := (unhide HAB).low hb2
    have hb02 : Below w.heap.size w w2 := hba.trans (hb2.mono (by simp))
    have hsz : w.heap.size + 1 ≤ w2.heap.size := by have := hb2.size; simpa using this
    rcases hc with ⟨hpos, hrd⟩ | ⟨rfl, v, hrd, hrep⟩
    · have HRD := hide hrd
      have e0 : ((c : Int) != 0) = true := by simp; omega
      have A2 := hide a2
      have S2 := hide s2
      have HB := hide hb02
      clear hrd a2 s2 hb2 hb02
      go_wp2_with (fail)
      refine (failed_any c w2).mono ?_
      rintro x w3 ⟨rfl, hb3⟩
      have a3 := (unhide A2).low hb3
      have g0 := a3.c0
      have g1 := a3.c1
      have g2 := a3.c2
      have z := a3.fz
      have hb03 : Below w.heap.size w w3 := (unhide HB).trans (hb3.mono (by omega))
      have HB3 := hide hb03
      have S3 := hide ((unhide S2).low hb3)
      clear a3 hb3 hb03
      unfold ansV
      go_wp2_with (fail)
      refine bodyPost_ret (v := ansV c []) (by simp [results, Tryz.results34, go_sem, ansV, g0, g1, g2]) rfl ?_
      have hbl := below_set (below_set (below_set (unhide HB3) w.heap.size 0 (Nat.le_refl _) (.int .i64 c)) w.heap.size 1 (Nat.le_refl _) (.int .i64 0)) w.heap.size 2 (Nat.le_refl _) (.string ⟨([] : Sp.By).toArray⟩)
      refine ⟨KeptX.of_below hbl, c, doc, p, Or.inr ⟨hpos, unhide HRD, rfl⟩, rfl, ?_, (unhide HD).move fun k h1 h2 => ⟨hbl.block k h2, Or.inl ⟨h1, h2⟩⟩⟩
      exact (hbl.block S hlt).trans ((Below.heap_alloc _ _ _ hlt).symm.trans (unhide HS))
    · have HRD := hide hrd
      have A2 := hide a2
      have S2 := hide s2
      have HB := hide hb02
      have zs := s2.fz
      have q3 := s2.c3
      have g0 := a2.c0
      have g1 := a2.c1
      have g2 := a2.c2
      have z := a2.fz
      have HREP := hide hrep
      have hSg : S ≠ w.heap.size := by omega
      clear hrd a2 s2 hb2 hb02 hrep
      go_wp2_with (fail)
      refine bodyPost_ret (v := ansV 0 []) (by simp [results, Tryz.results34, go_sem, ansV, g0, g1, g2]) rfl ?_
      have hk : KeptX S w ((((w2.setCell ⟨S, 3, none⟩ (.pointer p2)).setCell ⟨w.heap.size, 0, none⟩ (.int .i64 0)).setCell ⟨w.heap.size, 1, none⟩ (.int .i64 0)).setCell ⟨w.heap.size, 2, none⟩ (.string ⟨#[]⟩)) :=
        ((((KeptX.of_below (unhide HB)).setCell (p := ⟨S, 3, none⟩) rfl _).setCell_new (p := ⟨w.heap.size, 0, none⟩) (Nat.le_refl _) _).setCell_new (p := ⟨w.heap.size, 1, none⟩) (Nat.le_refl _) _).setCell_new (p := ⟨w.heap.size, 2, none⟩) (Nat.le_refl _) _
      have ho : ∀ k, k ≠ w.heap.size → ((((w2.setCell ⟨S, 3, none⟩ (.pointer p2)).setCell ⟨w.heap.size, 0, none⟩ (.int .i64 0)).setCell ⟨w.heap.size, 1, none⟩ (.int .i64 0)).setCell ⟨w.heap.size, 2, none⟩ (.string ⟨#[]⟩)).heap[k]? = (w2.setCell ⟨S, 3, none⟩ (.pointer p2)).heap[k]? := fun k hk =>
        (Below.heap_setCell _ _ _ _ hk).trans ((Below.heap_setCell _ _ _ _ hk).trans (Below.heap_setCell _ _ _ _ hk))
      refine ⟨hk, 0, some v, .pointer p2, Or.inl ⟨v, unhide HRD, rfl, rfl⟩, rfl, (ho S hSg).trans ((unhide S2).set3 _), (unhide HREP).move fun k h1 h2 => ⟨(ho k (by omega)).trans (Below.heap_setCell _ _ _ _ (by show k ≠ S; omega)), Or.inr (by omega)⟩, read_bd (unhide HRD) top⟩


set_option maxHeartbeats 2000000 in
theorem ask_any {S : Nat} {d e n k : Int} {p : Value} {v : Sp.V} {w : World} {F : Nat → Prop} (s t : ByteArray) (hk3 : k ≠ 3) (hk4 : k ≠ 4) (h : SB w S d e n p) (hd : DocF w F p (some v)) (hT : Laid w) :
    Calls Tryz.prog 35 #[.pointer (some ⟨S, 0, none⟩), .agg #[.int .i64 k, .string s, .string t]] w fun x w' => x = .returned (if k = 2 then ansV 0 (Sp.can top v) else ansV 1 []) ∧ Below w.heap.size w w' := by
  have hlt := h.lt
  have hba : Below w.heap.size w ((w.alloc (.cells #[.int .i64 k, .string s, .string t] 50)).alloc (.cells #[.int .i64 0, .int .i64 0, .string ⟨#[]⟩] 46)) := ((Below.refl _ _).alloc (Nat.le_refl _) _).alloc (by simp) _
  have hTa := hT.below (hba.mono hT.ng)
  have h0 := h.low hba
  have hd0 : DocF _ F p (some v) := hd.move fun k h1 h2 => ⟨hba.block k h2, h1⟩
  have a0 := AB.new (w.alloc (.cells #[.int .i64 k, .string s, .string t] 50))
  have c3 := h0.c3
  have hz : (w.alloc (.cells #[.int .i64 k, .string s, .string t] 50)).heap.size = w.heap.size + 1 := by simp
  rw [hz] at a0
  have HA := hide a0
  have HD := hide hd0
  have HT := hide hTa
  clear h hd hT h0 hd0 hTa a0
  by_cases h2 : k = 2
  · rw [if_pos h2]
    subst h2
    go_enter Tryz.func35, Tryz.ntmps35
    go_wp2_with (fail)
    refine (Canonical_any (unhide HD).1 (unhide HT) (Nat.le_trans (unhide HD).2 (by omega))).mono ?_
    rintro x w1 ⟨rfl, hb1⟩
    have a1 := (unhide HA).low hb1
    have g0 := a1.c0
    have g1 := a1.c1
    have g2 := a1.c2
    have z := a1.fz
    have hb01 : Below w.heap.size w w1 := hba.trans (hb1.mono (by simp; omega))
    have HB := hide hb01
    clear a1 hb1 hb01
    go_wp2_with (fail)
    refine bodyPost_ret (v := ansV 0 (Sp.can top v)) (by simp [results, Tryz.results35, go_sem, ansV, g0, g1, g2]) rfl ⟨rfl, ?_⟩
    exact below_set (below_set (below_set (unhide HB) _ 0 (by omega) _) _ 1 (by omega) _) _ 2 (by omega) _
  · have e2 : (k == 2) = false := by simpa using h2
    have e3 : (k == 3) = false := by simpa using hk3
    have e4 : (k == 4) = false := by simpa using hk4
    rw [if_neg h2]
    go_enter Tryz.func35, Tryz.ntmps35
    go_wp2_with (fail)
    refine (failed_any 1 _).mono ?_
    rintro x w1 ⟨rfl, hb1⟩
    have a1 := (unhide HA).low hb1
    have g0 := a1.c0
    have g1 := a1.c1
    have g2 := a1.c2
    have z := a1.fz
    have hb01 : Below w.heap.size w w1 := hba.trans (hb1.mono (by simp; omega))
    have HB := hide hb01
    clear a1 hb1 hb01
    unfold ansV
    go_wp2_with (fail)
    refine bodyPost_ret (v := ansV 1 []) (by simp [results, Tryz.results35, go_sem, ansV, g0, g1, g2]) rfl ⟨rfl, ?_⟩
    exact below_set (below_set (below_set (unhide HB) _ 0 (by omega) _) _ 1 (by omega) _) _ 2 (by omega) _

end Go.Proofs.YtmegcejgjdkpfaaGreatDoor
