/-
  Plain facts on the functions of Sp: the spellings that the statement on spellings makes, of numbers and of strings, read as the same.
  Plain facts on the functions of Sp: values spelled with blanks between their parts.
  Plain facts on the functions of Sp: two spellings of one value.
-/
import Derived.Test.YtmegcejgjdkpfaaGreatDoorPart21
import Derived.Test.YtmegcejgjdkpfaaGreatDoorPart23
namespace Go.Proofs.YtmegcejgjdkpfaaGreatDoor

/-- what stands between parts -/
def Sp.blks : List Sp.By := [[], [32], [10], [9, 13]]
def Sp.Bl (b : Sp.By) : Prop := b ∈ Sp.blks
theorem bl_all {b : Sp.By} (h : Sp.Bl b) : ∀ c ∈ b, Sp.isB c = true := by
  unfold Sp.Bl Sp.blks at h
  simp only [List.mem_cons, List.not_mem_nil, or_false] at h
  rcases h with rfl | rfl | rfl | rfl
  all_goals decide
theorem skB_all {b : Sp.By} (h : ∀ c ∈ b, Sp.isB c = true) (l : Sp.By) : Sp.skB (b ++ l) = Sp.skB l := by
  induction b with
  | nil => rfl
  | cons c r ih =>
    rw [List.cons_append, Sp.skB, if_pos (h c (by simp)), ih fun c hc => h c (by simp [hc])]
theorem Sp.Bl.sk {b : Sp.By} (h : Sp.Bl b) (l : Sp.By) : Sp.skB (b ++ l) = Sp.skB l := skB_all (bl_all h) l
/-- blanks, then what may stand behind a number: may stand behind a number -/
theorem Sp.Bl.nd {b : Sp.By} (h : Sp.Bl b) {r : Sp.By} (hr : Sp.Nd r) : Sp.Nd (b ++ r) := by
  cases b with
  | nil => exact hr
  | cons c t =>
    intro c' t' e
    injection e with e1 e2
    subst e1
    have := bl_all h c (by simp)
    unfold Sp.isB at this
    simp only [Bool.or_eq_true, beq_iff_eq] at this
    rcases this with ((rfl | rfl) | rfl) | rfl
    all_goals exact ⟨by decide, by decide, by decide, by decide⟩

/-! numbers -/
def Sp.num7 : List Sp.By := [[55], [55, 46, 48], [55, 48, 101, 45, 49], [48, 46, 55, 69, 49], [55, 101, 48], [55, 46, 48, 48, 101, 43, 48], [55, 48, 48, 69, 45, 50], [48, 46, 48, 48, 55, 101, 51]]
def Sp.num0 : List Sp.By := [[45, 48], [48], [48, 46, 48], [48, 101, 57, 57], [45, 48, 46, 48, 69, 45, 53]]
theorem nd_facts {r : Sp.By} (h : Sp.Nd r) : Sp.dg r = [] ∧ Sp.dgR r = r ∧ Sp.tk r 46 = false ∧ Sp.tk r 101 = false ∧ Sp.tk r 69 = false := by
  cases r with
  | nil => exact ⟨rfl, rfl, rfl, rfl, rfl⟩
  | cons c t =>
    obtain ⟨h1, h2, h3, h4⟩ := h c t rfl
    simp [Sp.dg, Sp.dgR, Sp.tk, h1, h2, h3, h4]
theorem numB7 (ng : Bool) {l : Sp.By} (hl : l ∈ Sp.num7) {r : Sp.By} (h : Sp.Nd r) : Sp.numB ng (l ++ r) = some ((ng, [55], 0), r) := by
  obtain ⟨h1, h2, h3, h4, h5⟩ := nd_facts h
  unfold Sp.num7 at hl
  simp only [List.mem_cons, List.not_mem_nil, or_false] at hl
  rcases hl with rfl | rfl | rfl | rfl | rfl | rfl | rfl | rfl
  all_goals simp [Sp.numB, Sp.dg, Sp.dgR, Sp.frac, Sp.expo, Sp.isD, Sp.exNum, h1, h2, h3, h4, h5, tk_hd]
  all_goals rfl
theorem num0_read {l : Sp.By} (hl : l ∈ Sp.num0) {r : Sp.By} (h : Sp.Nd r) : Sp.num (l ++ r) = some ((false, [], 0), r) := by
  obtain ⟨h1, h2, h3, h4, h5⟩ := nd_facts h
  unfold Sp.num0 at hl
  simp only [List.mem_cons, List.not_mem_nil, or_false] at hl
  rcases hl with rfl | rfl | rfl | rfl | rfl
  all_goals simp [Sp.num, Sp.numB, Sp.dg, Sp.dgR, Sp.frac, Sp.expo, Sp.isD, Sp.exNum, h1, h2, h3, h4, h5, tk_hd]
  all_goals rfl

/-! strings -/
def Sp.chrC : List Nat := [97, 233, 128512, 34, 10, 47, 92, 8364]
def Sp.plain : List Sp.By := [[97], [195, 169], [240, 159, 152, 128], [92, 34], [92, 110], [47], [92, 92], [226, 130, 172]]
def Sp.other : List Sp.By := [[92, 117, 48, 48, 54, 49], [92, 117, 48, 48, 69, 57], [92, 117, 100, 56, 51, 68, 92, 117, 68, 101, 48, 48], [92, 117, 48, 48, 50, 50], [92, 117, 48, 48, 48, 65], [92, 47], [92, 117, 48, 48, 53, 99], [92, 117, 50, 48, 97, 67]]
/-- a spelling of a character -/
def Sp.Ch (p : Sp.By) (c : Nat) : Prop := ∀ l, Sp.chr (p ++ l) = some (c, l) ∧ Sp.tk (p ++ l) 34 = false
theorem ch_plain (k : Nat) (hk : k < 8) : Sp.Ch (Sp.plain.getD k []) (Sp.chrC.getD k 0) := by
  have he : ∀ (c : Nat) (p : Sp.By), Sp.Sc c → Sp.escS (Lib.encodeRune (c : Int)) = p → Sp.Ch p c := fun c p hc e l => e ▸ chr_esc c hc l
  match k, hk with
  | 0, _ => exact he 97 _ (by unfold Sp.Sc; omega) (by decide)
  | 1, _ => exact he 233 _ (by unfold Sp.Sc; omega) (by decide)
  | 2, _ => exact he 128512 _ (by unfold Sp.Sc; omega) (by decide)
  | 3, _ => exact fun l => ⟨rfl, rfl⟩
  | 4, _ => exact fun l => ⟨rfl, rfl⟩
  | 5, _ => exact he 47 _ (by unfold Sp.Sc; omega) (by decide)
  | 6, _ => exact fun l => ⟨rfl, rfl⟩
  | 7, _ => exact he 8364 _ (by unfold Sp.Sc; omega) (by decide)
theorem hexs_four {d1 d2 d3 d4 : UInt8} {n1 n2 n3 n4 : Nat} (h1 : Sp.hexd d1.toNat = some n1) (h2 : Sp.hexd d2.toNat = some n2) (h3 : Sp.hexd d3.toNat = some n3) (h4 : Sp.hexd d4.toNat = some n4) (l : Sp.By) :
    Sp.hexs 4 0 (d1 :: d2 :: d3 :: d4 :: l) = some ((((0 * 16 + n1) * 16 + n2) * 16 + n3) * 16 + n4, l) := by
  simp only [Sp.hexs, pk_cons, List.tail_cons, h1, h2, h3, h4]
theorem ch_u {d1 d2 d3 d4 : UInt8} {n1 n2 n3 n4 m : Nat} (h1 : Sp.hexd d1.toNat = some n1) (h2 : Sp.hexd d2.toNat = some n2) (h3 : Sp.hexd d3.toNat = some n3) (h4 : Sp.hexd d4.toNat = some n4)
    (hm : (((0 * 16 + n1) * 16 + n2) * 16 + n3) * 16 + n4 = m) (hs : m < 55296) : Sp.Ch [92, 117, d1, d2, d3, d4] m := by
  intro l
  refine ⟨?_, rfl⟩
  simp only [List.cons_append, List.nil_append]
  unfold Sp.chr
  rw [if_pos (show Sp.tk (92 :: _) 92 = true from rfl), List.tail_cons]
  unfold Sp.esc
  rw [if_pos (show Sp.tk (117 :: _) 117 = true from rfl), List.tail_cons]
  unfold Sp.scal
  rw [hexs_four h1 h2 h3 h4, hm]
  simp only
  rw [if_pos (Or.inl hs)]
theorem ch_pair : Sp.Ch [92, 117, 100, 56, 51, 68, 92, 117, 68, 101, 48, 48] 128512 := by
  intro l
  refine ⟨?_, rfl⟩
  simp only [List.cons_append, List.nil_append]
  unfold Sp.chr
  rw [if_pos (show Sp.tk (92 :: _) 92 = true from rfl), List.tail_cons]
  unfold Sp.esc
  rw [if_pos (show Sp.tk (117 :: _) 117 = true from rfl), List.tail_cons]
  unfold Sp.scal
  rw [hexs_four (n1 := 13) (n2 := 8) (n3 := 3) (n4 := 13) (by decide) (by decide) (by decide) (by decide)]
  simp only
  rw [if_neg (by omega), if_neg (by omega), if_pos (show Sp.tk (92 :: _) 92 = true from rfl), List.tail_cons, if_pos (show Sp.tk (117 :: _) 117 = true from rfl), List.tail_cons,
    hexs_four (n1 := 13) (n2 := 14) (n3 := 0) (n4 := 0) (by decide) (by decide) (by decide) (by decide)]
  simp only
  rw [if_neg (by omega)]
theorem ch_other (k : Nat) (hk : k < 8) : Sp.Ch (Sp.other.getD k []) (Sp.chrC.getD k 0) := by
  match k, hk with
  | 0, _ => exact ch_u (n1 := 0) (n2 := 0) (n3 := 6) (n4 := 1) (by decide) (by decide) (by decide) (by decide) (by decide) (by decide)
  | 1, _ => exact ch_u (n1 := 0) (n2 := 0) (n3 := 14) (n4 := 9) (by decide) (by decide) (by decide) (by decide) (by decide) (by decide)
  | 2, _ => exact ch_pair
  | 3, _ => exact ch_u (n1 := 0) (n2 := 0) (n3 := 2) (n4 := 2) (by decide) (by decide) (by decide) (by decide) (by decide) (by decide)
  | 4, _ => exact ch_u (n1 := 0) (n2 := 0) (n3 := 0) (n4 := 10) (by decide) (by decide) (by decide) (by decide) (by decide) (by decide)
  | 5, _ => exact fun l => ⟨rfl, rfl⟩
  | 6, _ => exact ch_u (n1 := 0) (n2 := 0) (n3 := 5) (n4 := 12) (by decide) (by decide) (by decide) (by decide) (by decide) (by decide)
  | 7, _ => exact ch_u (n1 := 2) (n2 := 0) (n3 := 10) (n4 := 12) (by decide) (by decide) (by decide) (by decide) (by decide) (by decide)
/-- spellings of characters, one behind the other -/
inductive Sp.Chs : Sp.By → List Nat → Prop
  | nil : Sp.Chs [] []
  | snoc {a : Sp.By} {cs : List Nat} {p : Sp.By} {c : Nat} : Sp.Chs a cs → Sp.Ch p c → Sp.Chs (a ++ p) (cs ++ [c])
theorem chs_read {a : Sp.By} {cs : List Nat} (h : Sp.Chs a cs) : ∀ (l s r : Sp.By) (f : Nat), Sp.chrs f l = some (s, r) → Sp.chrs (f + cs.length) (a ++ l) = some (cs.flatMap Sp.encN ++ s, r) := by
  induction h with
  | nil => intro l s r f h; exact h
  | snoc ha hp ih =>
    rename_i a cs p c
    intro l s r f h
    obtain ⟨h1, h2⟩ := hp l
    have h3 : Sp.chrs (f + 1) (p ++ l) = some (Sp.encN c ++ s, r) := by
      rw [Sp.chrs, h2, if_neg (by decide), h1]
      simp only
      rw [h]
    have h4 := ih (p ++ l) _ r (f + 1) h3
    rw [List.append_assoc]
    have e1 : f + 1 + cs.length = f + (cs ++ [c]).length := by simp; omega
    have e2 : cs.flatMap Sp.encN ++ (Sp.encN c ++ s) = (cs ++ [c]).flatMap Sp.encN ++ s := by simp
    rw [← e1, ← e2]
    exact h4
theorem chrs_more (f : Nat) : ∀ (g : Nat) (l s r : Sp.By), f ≤ g → Sp.chrs f l = some (s, r) → Sp.chrs g l = some (s, r) := by
  induction f with
  | zero => intro g l s r _ h; cases h
  | succ f ih =>
    intro g l s r hg h
    match g, hg with
    | g + 1, hg =>
      rw [Sp.chrs] at h ⊢
      split
      · rename_i hk; rw [if_pos hk] at h; exact h
      · rename_i hk
        rw [if_neg hk] at h
        cases hc : Sp.chr l with
        | none => rw [hc] at h; cases h
        | some x =>
          obtain ⟨c, r1⟩ := x
          rw [hc] at h
          simp only at h ⊢
          cases hx : Sp.chrs f r1 with
          | none => rw [hx] at h; cases h
          | some y =>
            obtain ⟨s1, r2⟩ := y
            rw [hx] at h
            rw [ih g r1 s1 r2 (by omega) hx]
            exact h
theorem chs_len {a : Sp.By} {cs : List Nat} (h : Sp.Chs a cs) : cs.length ≤ a.length := by
  induction h with
  | nil => simp
  | snoc ha hp ih =>
    rename_i a cs p c
    have : 1 ≤ p.length := by
      cases p with
      | nil =>
        have := (hp []).1
        rw [List.append_nil] at this
        have h2 := chr_len this
        simp at h2
      | cons x y => simp
    simp; omega
theorem chs_quo {a : Sp.By} {cs : List Nat} (h : Sp.Chs a cs) (r : Sp.By) : Sp.quo (34 :: (a ++ 34 :: r)) = some (cs.flatMap Sp.encN, r) := by
  unfold Sp.quo
  rw [if_pos (by rfl), List.tail_cons]
  have h1 := chs_read h (34 :: r) [] r 1 rfl
  rw [List.append_nil] at h1
  have := chs_len h
  exact chrs_more _ _ _ _ _ (by simp; omega) h1

end Go.Proofs.YtmegcejgjdkpfaaGreatDoor

namespace Go.Proofs.YtmegcejgjdkpfaaGreatDoor
open Go.Maps

/-- The text l reads as the value v, which is at most k levels deeper than its first. -/
def Sp.RdV (k : Nat) (l : Sp.By) (v : Sp.V) : Prop := Sp.Hd l ∧ ∀ (f : Nat) (lv : Int) (fl : Sp.Fl) (r : Sp.By), k < f → Sp.Nd r → ∃ fl', Sp.val f lv (l ++ r) fl = some (v, r, fl') ∧ ∀ d, lv + k ≤ d → Sp.OkF d 2 fl → Sp.OkF d 2 fl'
theorem Sp.RdV.mono {k k' : Nat} {l : Sp.By} {v : Sp.V} (h : Sp.RdV k l v) (hk : k ≤ k') : Sp.RdV k' l v :=
  ⟨h.1, fun f lv fl r hf hr => let ⟨fl', h1, h2⟩ := h.2 f lv fl r (by omega) hr; ⟨fl', h1, fun d hd => h2 d (by omega)⟩⟩

theorem rdV_num {l : Sp.By} {n : Sp.Nm} (hh : ∃ c t, l = c :: t ∧ (c = 45 ∨ Sp.isD c = true)) (hn : ∀ r, Sp.Nd r → Sp.num (l ++ r) = some (n, r)) (he : -2 ≤ n.2.2 ∧ n.2.2 ≤ 2) : Sp.RdV 0 l (Sp.vNum n) := by
  obtain ⟨c, t, e, hc⟩ := hh
  refine ⟨⟨c, t, e, ?_⟩, fun f lv fl r hf hr => ?_⟩
  · rcases hc with rfl | hc
    · exact ⟨by decide, by decide, by decide⟩
    · exact isD_hd hc
  · match f, hf with
    | f + 1, _ =>
      refine ⟨(fl.1, (max fl.2.1 lv, max (max fl.2.2 n.2.2) (-n.2.2))), ?_, fun d hd ho => ok_lift (by omega) ho (by have := ho.2.2; omega)⟩
      have hq := hn r hr
      have hpk : Sp.pk (l ++ r) = c.toNat := by rw [e]; rfl
      have hcc : c.toNat = 45 ∨ (48 ≤ c.toNat ∧ c.toNat ≤ 57) := by
        rcases hc with rfl | hc
        · exact Or.inl rfl
        · unfold Sp.isD at hc; simp at hc; exact Or.inr hc
      unfold Sp.val
      rw [hpk, if_neg (by omega), if_neg (by omega), if_neg (by omega), if_pos hcc, hq]
theorem rdV_word (k : Nat) (hk : k < 3) : Sp.RdV 0 (Sp.words.getD k []) (Sp.vWord k) := by
  refine ⟨?_, fun f lv fl r hf hr => ?_⟩
  · match k, hk with
    | 0, _ => exact ⟨110, _, rfl, by decide, by decide, by decide⟩
    | 1, _ => exact ⟨116, _, rfl, by decide, by decide, by decide⟩
    | 2, _ => exact ⟨102, _, rfl, by decide, by decide, by decide⟩
  · match f, hf with
    | f + 1, _ =>
      refine ⟨(fl.1, (max fl.2.1 lv, fl.2.2)), ?_, fun d hd ho => ok_lift (by omega) ho ho.2.2⟩
      match k, hk with
      | 0, _ => rfl
      | 1, _ => rfl
      | 2, _ => rfl
theorem rdV_str {a : Sp.By} {cs : List Nat} (h : Sp.Chs a cs) : Sp.RdV 0 (34 :: (a ++ [34])) (Sp.vStr (cs.flatMap Sp.encN)) := by
  refine ⟨⟨34, _, rfl, by decide, by decide, by decide⟩, fun f lv fl r hf hr => ?_⟩
  match f, hf with
  | f + 1, _ =>
    refine ⟨(fl.1, (max fl.2.1 lv, fl.2.2)), ?_, fun d hd ho => ok_lift (by omega) ho ho.2.2⟩
    have e : 34 :: (a ++ [34]) ++ r = 34 :: (a ++ 34 :: r) := by simp
    rw [e]
    unfold Sp.val
    rw [show Sp.pk (34 :: (a ++ 34 :: r)) = 34 from rfl, if_neg (by decide), if_neg (by decide), if_pos rfl, chs_quo h r]

/-! items with blanks round them -/
def Sp.pad (y : Sp.By × Sp.By × Sp.By) : Sp.By := y.1 ++ (y.2.1 ++ y.2.2)
theorem skB_Bl_close {z : Sp.By} (hz : Sp.Bl z) {cl : UInt8} (hcl : cl = 93 ∨ cl = 125) (r : Sp.By) : Sp.skB (z ++ cl :: r) = cl :: r := by rw [hz.sk, skB_close hcl]
theorem lst_sp {σ : Type} (cl : UInt8) (hcl : cl = 93 ∨ cl = 125) (item : Sp.By → σ → Option (Sp.By × σ)) (P : Nat → σ → Prop) (z : Sp.By) (hz : Sp.Bl z) (r : Sp.By) : ∀ (ys : List (Sp.By × Sp.By × Sp.By)) (k : Nat) (s : σ) (n : Nat),
    (∀ i (h : i < ys.length) s rest, P (k + i) s → Sp.Nd rest → ∃ s', item (ys[i].2.1 ++ rest) s = some (rest, s') ∧ P (k + i + 1) s') → (∀ y ∈ ys, Sp.Bl y.1 ∧ Sp.Hd y.2.1 ∧ Sp.Bl y.2.2) → ys ≠ [] → ys.length ≤ n → P k s →
    ∃ s', Sp.lst cl item n (Sp.joinC (ys.map Sp.pad) ++ (z ++ cl :: r)) s = some (r, s') ∧ P (k + ys.length) s' := by
  intro ys
  induction ys with
  | nil => intro k s n _ _ h; exact absurd rfl h
  | cons y ys ih =>
    intro k s n hit hhd _ hn hP
    match n, hn with
    | n + 1, hn =>
      obtain ⟨hp, hy, hq⟩ := hhd y (by simp)
      have e1 : Sp.joinC ((y :: ys).map Sp.pad) ++ (z ++ cl :: r) = y.1 ++ (y.2.1 ++ (y.2.2 ++ (Sp.joinR (ys.map Sp.pad) ++ (z ++ cl :: r)))) := by simp [Sp.joinC, Sp.pad]
      rw [e1]
      unfold Sp.lst
      rw [hp.sk, hy.skB]
      cases ys with
      | nil =>
        obtain ⟨s', h1, h2⟩ := hit 0 (by simp) s (y.2.2 ++ (z ++ cl :: r)) hP (hq.nd (hz.nd (nd_close hcl r)))
        simp only [List.getElem_cons_zero] at h1
        simp only [List.map_nil, Sp.joinR, List.nil_append]
        rw [h1]
        simp only
        rw [hq.sk, skB_Bl_close hz hcl, if_pos (by rw [tk_hd]; simp)]
        exact ⟨s', rfl, h2⟩
      | cons x xs =>
        have e2 : Sp.joinR ((x :: xs).map Sp.pad) ++ (z ++ cl :: r) = 44 :: (Sp.joinC ((x :: xs).map Sp.pad) ++ (z ++ cl :: r)) := by simp [Sp.joinR, Sp.joinC]
        rw [e2]
        obtain ⟨s', h1, h2⟩ := hit 0 (by simp) s (y.2.2 ++ 44 :: (Sp.joinC ((x :: xs).map Sp.pad) ++ (z ++ cl :: r))) hP (hq.nd (nd_comma _))
        simp only [List.getElem_cons_zero] at h1
        rw [h1]
        simp only
        have e3 : Sp.skB (44 :: (Sp.joinC ((x :: xs).map Sp.pad) ++ (z ++ cl :: r))) = 44 :: (Sp.joinC ((x :: xs).map Sp.pad) ++ (z ++ cl :: r)) := rfl
        have e4 : Sp.tk (44 :: (Sp.joinC ((x :: xs).map Sp.pad) ++ (z ++ cl :: r))) cl = false := by
          rw [tk_hd]
          rcases hcl with rfl | rfl
          · rfl
          · rfl
        rw [hq.sk, e3, e4, if_neg (by decide), if_pos (by rfl), List.tail_cons]
        obtain ⟨s2, h3, h4⟩ := ih (k + 1) s' n (fun i hi s rest hp hr => by
          have := hit (i + 1) (by simpa using hi) s rest (by rw [show k + (i + 1) = k + 1 + i by omega]; exact hp) hr
          simp only [List.getElem_cons_succ] at this
          rw [show k + 1 + i = k + (i + 1) by omega]
          exact this) (fun y hy => hhd y (by simp [hy])) (by simp) (by simp at hn ⊢; omega) h2
        exact ⟨s2, h3, by rw [show k + (y :: x :: xs).length = k + 1 + (x :: xs).length by simp; omega]; exact h4⟩
theorem pad_ge (ys : List (Sp.By × Sp.By × Sp.By)) (h : ∀ y ∈ ys, Sp.Hd y.2.1) : ys.length ≤ (Sp.joinC (ys.map Sp.pad)).length := by
  have hr : ∀ xs : List Sp.By, xs.length ≤ (Sp.joinR xs).length := by
    intro xs
    induction xs with
    | nil => simp
    | cons y r ih => simp [Sp.joinR]; omega
  cases ys with
  | nil => simp
  | cons y r =>
    obtain ⟨c, t, e, _⟩ := h y (by simp)
    have := hr (r.map Sp.pad)
    rw [List.length_map] at this
    simp [Sp.joinC, Sp.pad, e]; omega
theorem lstAll_sp {σ : Type} (op cl : UInt8) (hcl : cl = 93 ∨ cl = 125) (item : Sp.By → σ → Option (Sp.By × σ)) (P : Nat → σ → Prop) (z : Sp.By) (hz : Sp.Bl z) (r : Sp.By) (ys : List (Sp.By × Sp.By × Sp.By)) (s : σ)
    (hit : ∀ i (h : i < ys.length) s rest, P i s → Sp.Nd rest → ∃ s', item (ys[i].2.1 ++ rest) s = some (rest, s') ∧ P (i + 1) s') (hhd : ∀ y ∈ ys, Sp.Bl y.1 ∧ Sp.Hd y.2.1 ∧ Sp.Bl y.2.2) (hP : P 0 s) :
    ∃ s', Sp.lstAll op cl item (op :: (Sp.joinC (ys.map Sp.pad) ++ (z ++ cl :: r))) s = some (r, s') ∧ P ys.length s' := by
  unfold Sp.lstAll
  rw [if_pos (by rw [tk_hd]; simp), List.tail_cons]
  cases ys with
  | nil =>
    rw [show Sp.joinC (([] : List (Sp.By × Sp.By × Sp.By)).map Sp.pad) ++ (z ++ cl :: r) = z ++ cl :: r from rfl, skB_Bl_close hz hcl, if_pos (by rw [tk_hd]; simp), List.tail_cons]
    exact ⟨s, rfl, hP⟩
  | cons y ys =>
    obtain ⟨hp, hy, hq⟩ := hhd y (by simp)
    have e1 : Sp.joinC ((y :: ys).map Sp.pad) ++ (z ++ cl :: r) = y.1 ++ (y.2.1 ++ (y.2.2 ++ (Sp.joinR (ys.map Sp.pad) ++ (z ++ cl :: r)))) := by simp [Sp.joinC, Sp.pad]
    have e2 : Sp.skB (Sp.joinC ((y :: ys).map Sp.pad) ++ (z ++ cl :: r)) = y.2.1 ++ (y.2.2 ++ (Sp.joinR (ys.map Sp.pad) ++ (z ++ cl :: r))) := by rw [e1, hp.sk, hy.skB]
    have e3 : Sp.tk (y.2.1 ++ (y.2.2 ++ (Sp.joinR (ys.map Sp.pad) ++ (z ++ cl :: r)))) cl = false := hy.tk _ hcl
    have e5 : y.2.1 ++ (y.2.2 ++ (Sp.joinR (ys.map Sp.pad) ++ (z ++ cl :: r))) = Sp.joinC ((([], y.2.1, y.2.2) :: ys).map Sp.pad) ++ (z ++ cl :: r) := by simp [Sp.joinC, Sp.pad]
    rw [e2, e3, if_neg (by decide)]
    have hj := pad_ge (([], y.2.1, y.2.2) :: ys) (by
      intro x hx
      rcases List.mem_cons.1 hx with rfl | hx
      · exact hy
      · exact (hhd x (by simp [hx])).2.1)
    obtain ⟨s', h1, h2⟩ := lst_sp cl hcl item P z hz r (([], y.2.1, y.2.2) :: ys) 0 s ((y.2.1 ++ (y.2.2 ++ (Sp.joinR (ys.map Sp.pad) ++ (z ++ cl :: r)))).length + 1) (fun i hi s rest hp hr => by
      rw [Nat.zero_add] at hp ⊢
      have := hit i (by simpa using hi) s rest hp hr
      cases i with
      | zero => exact this
      | succ i => exact this) (by
      intro x hx
      rcases List.mem_cons.1 hx with rfl | hx
      · exact ⟨by unfold Sp.Bl Sp.blks; simp, hy, hq⟩
      · exact hhd x (by simp [hx])) (by simp) (by rw [e5, List.length_append]; omega) hP
    rw [Nat.zero_add] at h2
    rw [← e5] at h1
    exact ⟨s', h1, h2⟩

/-- an item: a value with blanks round it -/
def Sp.ItV (k : Nat) (y : Sp.By × Sp.By × Sp.By) (v : Sp.V) : Prop := Sp.Bl y.1 ∧ Sp.RdV k y.2.1 v ∧ Sp.Bl y.2.2
theorem rdV_arr {k : Nat} {ys : List (Sp.By × Sp.By × Sp.By)} {vs : List Sp.V} (hl : ys.length = vs.length) (h : ∀ i (h1 : i < ys.length) (h2 : i < vs.length), Sp.ItV k ys[i] vs[i]) {z : Sp.By} (hz : Sp.Bl z) :
    Sp.RdV (k + 1) (91 :: (Sp.joinC (ys.map Sp.pad) ++ (z ++ [93]))) (Sp.vArr vs) := by
  refine ⟨⟨91, _, rfl, by decide, by decide, by decide⟩, fun f lv fl r hf hr => ?_⟩
  match f, hf with
  | f + 1, hf =>
    obtain ⟨⟨es', fl'⟩, h1, h2, h3⟩ := lstAll_sp (σ := List Sp.V × Sp.Fl) 91 93 (Or.inl rfl) (Sp.elem (Sp.val f (lv + 1))) (fun i s => s.1 = vs.take i ∧ ∀ d, lv + 1 + k ≤ d → Sp.OkF d 2 fl → Sp.OkF d 2 s.2) z hz r ys ([], (fl.1, (max fl.2.1 lv, fl.2.2))) (by
      rintro i hi ⟨a, fl1⟩ rest ⟨ha, hfl⟩ hrest
      simp only at ha hfl
      subst ha
      obtain ⟨_, hrd, _⟩ := h i hi (by omega)
      obtain ⟨fl2, k1, k2⟩ := hrd.2 f (lv + 1) fl1 rest (by omega) hrest
      unfold Sp.elem
      simp only
      rw [k1]
      exact ⟨_, rfl, (List.take_succ_eq_append_getElem (by omega)).symm, fun d hd ho => k2 d hd (hfl d hd ho)⟩) (by
      intro y hy
      obtain ⟨i, hi, rfl⟩ := List.getElem_of_mem hy
      obtain ⟨a, b, c⟩ := h i hi (by omega)
      exact ⟨a, b.1, c⟩) ⟨by simp, fun d hd ho => ok_lift (by omega) ho ho.2.2⟩
    rw [hl, List.take_length] at h2
    simp only at h2 h3
    subst h2
    refine ⟨fl', ?_, fun d hd ho => h3 d (by omega) ho⟩
    have e1 : 91 :: (Sp.joinC (ys.map Sp.pad) ++ (z ++ [93])) ++ r = 91 :: (Sp.joinC (ys.map Sp.pad) ++ (z ++ 93 :: r)) := by simp
    rw [e1]
    unfold Sp.val
    rw [show Sp.pk (91 :: (Sp.joinC (ys.map Sp.pad) ++ (z ++ 93 :: r))) = 91 from rfl, if_neg (by decide), if_pos rfl, h1]

/-- a member: blanks, its key's spelling, blanks, blanks, its value, blanks -/
structure Sp.Mb where
  p : Sp.By
  kq : Sp.By
  p1 : Sp.By
  p2 : Sp.By
  x : Sp.By
  q : Sp.By
  key : Sp.By
  v : Sp.V
def Sp.Mb.core (m : Sp.Mb) : Sp.By := m.kq ++ (m.p1 ++ 58 :: (m.p2 ++ m.x))
def Sp.Mb.y (m : Sp.Mb) : Sp.By × Sp.By × Sp.By := (m.p, m.core, m.q)
def Sp.Mb.ok (k : Nat) (m : Sp.Mb) : Prop := Sp.Bl m.p ∧ (∃ t, m.kq = 34 :: t) ∧ (∀ l, Sp.quo (m.kq ++ l) = some (m.key, l)) ∧ Sp.Bl m.p1 ∧ Sp.Bl m.p2 ∧ Sp.RdV k m.x m.v ∧ Sp.Bl m.q
def Sp.putAll (ms : List Sp.Mb) : Sp.V := ms.foldl (fun d m => DataW.put d (.string m.key) m.v) (Sp.vObj [])
theorem putAll_snoc (ms : List Sp.Mb) (m : Sp.Mb) : Sp.putAll (ms ++ [m]) = DataW.put (Sp.putAll ms) (.string m.key) m.v := by
  unfold Sp.putAll
  rw [List.foldl_append]; rfl
theorem rdV_obj {k : Nat} {ms : List Sp.Mb} (h : ∀ m ∈ ms, m.ok k) (hd : ∀ i (hi : i < ms.length), Maps.has (Sp.putAll (ms.take i)) (.string ms[i].key) = false) {z : Sp.By} (hz : Sp.Bl z) :
    Sp.RdV (k + 1) (123 :: (Sp.joinC ((ms.map Sp.Mb.y).map Sp.pad) ++ (z ++ [125]))) (Sp.putAll ms) := by
  refine ⟨⟨123, _, rfl, by decide, by decide, by decide⟩, fun f lv fl r hf hr => ?_⟩
  match f, hf with
  | f + 1, hf =>
    obtain ⟨⟨v', fl'⟩, h1, h2, h3⟩ := lstAll_sp (σ := Sp.V × Sp.Fl) 123 125 (Or.inr rfl) (Sp.memb (Sp.val f (lv + 1))) (fun i s => s.1 = Sp.putAll (ms.take i) ∧ ∀ d, lv + 1 + k ≤ d → Sp.OkF d 2 fl → Sp.OkF d 2 s.2) z hz r (ms.map Sp.Mb.y) (Sp.vObj [], (fl.1, (max fl.2.1 lv, fl.2.2))) (by
      rintro i hi ⟨a, fl1⟩ rest ⟨ha, hfl⟩ hrest
      rw [List.length_map] at hi
      simp only at ha hfl
      subst ha
      rw [List.getElem_map]
      obtain ⟨_, _, hkq, hp1, hp2, hrd, _⟩ := h ms[i] (List.getElem_mem hi)
      have hno := hd i hi
      obtain ⟨fl2, k1, k2⟩ := hrd.2 f (lv + 1) fl1 rest (by omega) hrest
      have e1 : (Sp.Mb.y ms[i]).2.1 ++ rest = ms[i].kq ++ (ms[i].p1 ++ 58 :: (ms[i].p2 ++ (ms[i].x ++ rest))) := by simp [Sp.Mb.y, Sp.Mb.core]
      rw [e1]
      unfold Sp.memb
      rw [hkq]
      simp only
      rw [hp1.sk, show Sp.skB (58 :: (ms[i].p2 ++ (ms[i].x ++ rest))) = 58 :: (ms[i].p2 ++ (ms[i].x ++ rest)) from rfl, if_pos (by rfl), List.tail_cons, hp2.sk, hrd.1.skB, k1]
      simp only
      rw [hno, Bool.or_false]
      refine ⟨_, rfl, ?_, fun d hd ho => k2 d hd (hfl d hd ho)⟩
      rw [List.take_succ_eq_append_getElem hi, putAll_snoc]) (by
      intro y hy
      obtain ⟨m, hm, rfl⟩ := List.mem_map.1 hy
      obtain ⟨a, ⟨t, ht⟩, _, _, _, _, b⟩ := h m hm
      refine ⟨a, ⟨34, t ++ (m.p1 ++ 58 :: (m.p2 ++ m.x)), ?_, by decide, by decide, by decide⟩, b⟩
      simp [Sp.Mb.y, Sp.Mb.core, ht]) ⟨rfl, fun d hd ho => ok_lift (by omega) ho ho.2.2⟩
    rw [List.length_map, List.take_length] at h2
    simp only at h2 h3
    subst h2
    refine ⟨fl', ?_, fun d hd ho => h3 d (by omega) ho⟩
    have e1 : 123 :: (Sp.joinC ((ms.map Sp.Mb.y).map Sp.pad) ++ (z ++ [125])) ++ r = 123 :: (Sp.joinC ((ms.map Sp.Mb.y).map Sp.pad) ++ (z ++ 125 :: r)) := by simp
    rw [e1]
    unfold Sp.val
    rw [show Sp.pk (123 :: (Sp.joinC ((ms.map Sp.Mb.y).map Sp.pad) ++ (z ++ 125 :: r))) = 123 from rfl, if_pos rfl, h1]

end Go.Proofs.YtmegcejgjdkpfaaGreatDoor

namespace Go.Proofs.YtmegcejgjdkpfaaGreatDoor
open Go.Maps

/-- two spellings of one value, at most k levels deeper than its first -/
def Sp.Two (k : Nat) (a b : Sp.By) : Prop := ∃ v, Sp.RdV k a v ∧ Sp.RdV k b v
theorem Sp.Two.mono {k k' : Nat} {a b : Sp.By} (h : Sp.Two k a b) (hk : k ≤ k') : Sp.Two k' a b := let ⟨v, h1, h2⟩ := h; ⟨v, h1.mono hk, h2.mono hk⟩

def Sp.sgn (ng : Bool) : Sp.By := if ng then [45] else []
theorem num7_hd : ∀ l ∈ Sp.num7, ∃ c t, l = c :: t ∧ Sp.isD c = true := by
  intro l hl
  unfold Sp.num7 at hl
  simp only [List.mem_cons, List.not_mem_nil, or_false] at hl
  rcases hl with rfl | rfl | rfl | rfl | rfl | rfl | rfl | rfl
  all_goals exact ⟨_, _, rfl, by decide⟩
theorem rdV_num7 (ng : Bool) {l : Sp.By} (hl : l ∈ Sp.num7) : Sp.RdV 0 (Sp.sgn ng ++ l) (Sp.vNum (ng, [55], 0)) := by
  obtain ⟨c, t, e, hc⟩ := num7_hd l hl
  cases ng with
  | true =>
    refine rdV_num ⟨45, l, rfl, Or.inl rfl⟩ (fun r hr => ?_) (by simp)
    show Sp.num (45 :: (l ++ r)) = _
    unfold Sp.num
    rw [if_pos (by rfl), List.tail_cons, numB7 true hl hr]
  | false =>
    refine rdV_num ⟨c, t, e, Or.inr hc⟩ (fun r hr => ?_) (by simp)
    show Sp.num (l ++ r) = _
    unfold Sp.num
    have hk : Sp.tk (l ++ r) 45 = false := by
      rw [e, List.cons_append, tk_hd, beq_eq_false_iff_ne]
      exact (isD_ne hc).1
    rw [hk, if_neg (by decide), numB7 false hl hr]
theorem rdV_num0 {l : Sp.By} (hl : l ∈ Sp.num0) : Sp.RdV 0 l (Sp.vNum (false, [], 0)) := by
  have hh : ∃ c t, l = c :: t ∧ (c = 45 ∨ Sp.isD c = true) := by
    unfold Sp.num0 at hl
    simp only [List.mem_cons, List.not_mem_nil, or_false] at hl
    rcases hl with rfl | rfl | rfl | rfl | rfl
    · exact ⟨_, _, rfl, Or.inl rfl⟩
    · exact ⟨_, _, rfl, Or.inr (by decide)⟩
    · exact ⟨_, _, rfl, Or.inr (by decide)⟩
    · exact ⟨_, _, rfl, Or.inr (by decide)⟩
    · exact ⟨_, _, rfl, Or.inl rfl⟩
  exact rdV_num hh (fun r hr => num0_read hl hr) (by simp)

/-- an element in its two spellings -/
structure Sp.El where
  x : Sp.By
  p : Sp.By
  y : Sp.By
  q : Sp.By
  v : Sp.V
def Sp.El.ok (k : Nat) (e : Sp.El) : Prop := Sp.RdV k e.x e.v ∧ Sp.RdV k e.y e.v ∧ Sp.Bl e.p ∧ Sp.Bl e.q
def Sp.El.b (e : Sp.El) : Sp.By := e.p ++ (e.y ++ e.q)
theorem bl_nil : Sp.Bl [] := by unfold Sp.Bl Sp.blks; simp
theorem two_arr {k : Nat} {es : List Sp.El} (h : ∀ e ∈ es, e.ok k) {z : Sp.By} (hz : Sp.Bl z) : Sp.Two (k + 1) (91 :: (Sp.joinC (es.map Sp.El.x) ++ [93])) (91 :: (Sp.joinC (es.map Sp.El.b) ++ (z ++ [93]))) := by
  refine ⟨Sp.vArr (es.map Sp.El.v), ?_, ?_⟩
  · have := rdV_arr (k := k) (ys := es.map fun e => ([], e.x, [])) (vs := es.map Sp.El.v) (by simp) (fun i h1 h2 => by
      simp only [List.getElem_map]
      obtain ⟨a, _, _, _⟩ := h (es[i]'(by simpa using h1)) (List.getElem_mem _)
      exact ⟨bl_nil, a, bl_nil⟩) bl_nil
    have e1 : (es.map fun e => (([], e.x, []) : Sp.By × Sp.By × Sp.By)).map Sp.pad = es.map Sp.El.x := by
      rw [List.map_map]
      apply List.map_congr_left
      intro e _
      simp [Sp.pad]
    rw [e1, List.nil_append] at this
    exact this
  · have := rdV_arr (k := k) (ys := es.map fun e => (e.p, e.y, e.q)) (vs := es.map Sp.El.v) (by simp) (fun i h1 h2 => by
      simp only [List.getElem_map]
      obtain ⟨_, a, b, c⟩ := h (es[i]'(by simpa using h1)) (List.getElem_mem _)
      exact ⟨b, a, c⟩) hz
    have e1 : (es.map fun e => (e.p, e.y, e.q)).map Sp.pad = es.map Sp.El.b := by
      rw [List.map_map]
      rfl
    rw [e1] at this
    exact this
/-- what stands ahead of the next item -/
def Sp.pre (xs : List Sp.By) : Sp.By := xs.flatMap fun t => t ++ [44]
theorem joinC_pre (xs : List Sp.By) (t : Sp.By) : Sp.joinC (xs ++ [t]) = Sp.pre xs ++ t := by
  have hr : ∀ ys : List Sp.By, Sp.joinR (ys ++ [t]) = 44 :: (Sp.pre ys ++ t) := by
    intro ys
    induction ys with
    | nil => simp [Sp.joinR, Sp.pre]
    | cons y r ih => simp only [List.cons_append, Sp.joinR, ih]; simp [Sp.pre]
  cases xs with
  | nil => simp [Sp.joinC, Sp.joinR, Sp.pre]
  | cons y r =>
    simp only [List.cons_append, Sp.joinC, hr]
    simp [Sp.pre]
theorem pre_snoc (xs : List Sp.By) (t : Sp.By) : Sp.pre (xs ++ [t]) = Sp.pre xs ++ (t ++ [44]) := by simp [Sp.pre]

/-! objects -/
def Sp.kA : List Sp.By := [[], [34, 107, 34], [34, 92, 117, 48, 48, 54, 98, 92, 117, 48, 48, 54, 66, 34], [34, 126, 47, 34]]
def Sp.kB : List Sp.By := [[], [34, 92, 117, 48, 48, 54, 98, 34], [34, 107, 107, 34], [34, 92, 117, 48, 48, 55, 101, 92, 47, 34]]
def Sp.kK : List Sp.By := [[], [107], [107, 107], [126, 47]]
theorem ch_a (c : Nat) (p : Sp.By) (hc : c < 55296) (e : Sp.escS (Lib.encodeRune (c : Int)) = p) : Sp.Ch p c := fun l => e ▸ chr_esc c (Or.inl hc) l
theorem quo_key {a : Sp.By} {cs : List Nat} {s : Sp.By} (h : Sp.Chs a cs) (e : cs.flatMap Sp.encN = s) (l : Sp.By) : Sp.quo (34 :: (a ++ [34]) ++ l) = some (s, l) := by
  have : 34 :: (a ++ [34]) ++ l = 34 :: (a ++ 34 :: l) := by simp
  rw [this, chs_quo h l, e]
theorem kA_quo (i : Nat) (h : 1 ≤ i ∧ i ≤ 3) (l : Sp.By) : Sp.quo (Sp.kA.getD i [] ++ l) = some (Sp.kK.getD i [], l) := by
  have k1 : Sp.Ch [107] 107 := ch_a _ _ (by omega) (by decide)
  have u1 : Sp.Ch [92, 117, 48, 48, 54, 98] 107 := ch_u (n1 := 0) (n2 := 0) (n3 := 6) (n4 := 11) (by decide) (by decide) (by decide) (by decide) (by decide) (by decide)
  have u2 : Sp.Ch [92, 117, 48, 48, 54, 66] 107 := ch_u (n1 := 0) (n2 := 0) (n3 := 6) (n4 := 11) (by decide) (by decide) (by decide) (by decide) (by decide) (by decide)
  have t1 : Sp.Ch [126] 126 := ch_a _ _ (by omega) (by decide)
  have s1 : Sp.Ch [47] 47 := ch_a _ _ (by omega) (by decide)
  match i, h with
  | 1, _ => exact quo_key (a := [107]) (Sp.Chs.snoc Sp.Chs.nil k1) (by decide) l
  | 2, _ => exact quo_key (a := [92, 117, 48, 48, 54, 98, 92, 117, 48, 48, 54, 66]) (Sp.Chs.snoc (Sp.Chs.snoc Sp.Chs.nil u1) u2) (by decide) l
  | 3, _ => exact quo_key (a := [126, 47]) (Sp.Chs.snoc (Sp.Chs.snoc Sp.Chs.nil t1) s1) (by decide) l
theorem kB_quo (i : Nat) (h : 1 ≤ i ∧ i ≤ 3) (l : Sp.By) : Sp.quo (Sp.kB.getD i [] ++ l) = some (Sp.kK.getD i [], l) := by
  have k1 : Sp.Ch [107] 107 := ch_a _ _ (by omega) (by decide)
  have u1 : Sp.Ch [92, 117, 48, 48, 54, 98] 107 := ch_u (n1 := 0) (n2 := 0) (n3 := 6) (n4 := 11) (by decide) (by decide) (by decide) (by decide) (by decide) (by decide)
  have u2 : Sp.Ch [92, 117, 48, 48, 55, 101] 126 := ch_u (n1 := 0) (n2 := 0) (n3 := 7) (n4 := 14) (by decide) (by decide) (by decide) (by decide) (by decide) (by decide)
  have s1 : Sp.Ch [92, 47] 47 := fun l => ⟨rfl, rfl⟩
  match i, h with
  | 1, _ => exact quo_key (a := [92, 117, 48, 48, 54, 98]) (Sp.Chs.snoc Sp.Chs.nil u1) (by decide) l
  | 2, _ => exact quo_key (a := [107, 107]) (Sp.Chs.snoc (Sp.Chs.snoc Sp.Chs.nil k1) k1) (by decide) l
  | 3, _ => exact quo_key (a := [92, 117, 48, 48, 55, 101, 92, 47]) (Sp.Chs.snoc (Sp.Chs.snoc Sp.Chs.nil u2) s1) (by decide) l
/-- a member in its two spellings -/
structure Sp.Om where
  i : Nat
  x : Sp.By
  y : Sp.By
  p : Sp.By
  p1 : Sp.By
  p2 : Sp.By
  q : Sp.By
  v : Sp.V
def Sp.Om.ok (k : Nat) (m : Sp.Om) : Prop := Sp.RdV k m.x m.v ∧ Sp.RdV k m.y m.v ∧ Sp.Bl m.p ∧ Sp.Bl m.p1 ∧ Sp.Bl m.p2 ∧ Sp.Bl m.q
def Sp.Om.at (m : Sp.Om) : Sp.By := Sp.kA.getD m.i [] ++ 58 :: m.x
def Sp.Om.bt (m : Sp.Om) : Sp.By := m.p ++ (Sp.kB.getD m.i [] ++ (m.p1 ++ 58 :: (m.p2 ++ (m.y ++ m.q))))
def Sp.Om.mA (m : Sp.Om) : Sp.Mb := ⟨[], Sp.kA.getD m.i [], [], [], m.x, [], Sp.kK.getD m.i [], m.v⟩
def Sp.Om.mB (m : Sp.Om) : Sp.Mb := ⟨m.p, Sp.kB.getD m.i [], m.p1, m.p2, m.y, m.q, Sp.kK.getD m.i [], m.v⟩
theorem Sp.Om.okA {k : Nat} {m : Sp.Om} (h : m.ok k) (hi : 1 ≤ m.i ∧ m.i ≤ 3) : m.mA.ok k := by
  refine ⟨bl_nil, ?_, kA_quo m.i hi, bl_nil, bl_nil, h.1, bl_nil⟩
  obtain ⟨i, x, y, p, p1, p2, q, v⟩ := m
  simp only at hi
  match i, hi with
  | 1, _ => exact ⟨_, rfl⟩
  | 2, _ => exact ⟨_, rfl⟩
  | 3, _ => exact ⟨_, rfl⟩
theorem Sp.Om.okB {k : Nat} {m : Sp.Om} (h : m.ok k) (hi : 1 ≤ m.i ∧ m.i ≤ 3) : m.mB.ok k := by
  refine ⟨h.2.2.1, ?_, kB_quo m.i hi, h.2.2.2.1, h.2.2.2.2.1, h.2.1, h.2.2.2.2.2⟩
  obtain ⟨i, x, y, p, p1, p2, q, v⟩ := m
  simp only at hi
  match i, hi with
  | 1, _ => exact ⟨_, rfl⟩
  | 2, _ => exact ⟨_, rfl⟩
  | 3, _ => exact ⟨_, rfl⟩
/-- the members' numbers, as they come -/
def Sp.idxs (n : Nat) : List Nat := match n with
  | 0 => []
  | n + 1 => (n + 1) :: Sp.idxs n
theorem two_obj {k : Nat} {ms : List Sp.Om} {n : Nat} (hn : n ≤ 3) (hidx : ms.map Sp.Om.i = Sp.idxs n) (h : ∀ m ∈ ms, m.ok k) :
    Sp.Two (k + 1) (123 :: (Sp.joinC (ms.map Sp.Om.at) ++ [125])) (123 :: (Sp.joinC (ms.reverse.map Sp.Om.bt) ++ [125])) := by
  have hi : ∀ m ∈ ms, 1 ≤ m.i ∧ m.i ≤ 3 := by
    have hx : ∀ n, ∀ i ∈ Sp.idxs n, 1 ≤ i ∧ i ≤ n := by
      intro n
      induction n with
      | zero => intro i h; cases h
      | succ n ih =>
        intro i h
        rcases List.mem_cons.1 h with rfl | h
        · omega
        · have := ih i h; omega
    intro m hm
    have := hx n m.i (by rw [← hidx]; exact List.mem_map_of_mem hm)
    omega
  have eA : ((ms.map Sp.Om.mA).map Sp.Mb.y).map Sp.pad = ms.map Sp.Om.at := by
    rw [List.map_map, List.map_map]
    apply List.map_congr_left
    intro m _
    simp [Sp.pad, Sp.Mb.y, Sp.Mb.core, Sp.Om.mA, Sp.Om.at]
  have eB : ((ms.reverse.map Sp.Om.mB).map Sp.Mb.y).map Sp.pad = ms.reverse.map Sp.Om.bt := by
    rw [List.map_map, List.map_map]
    apply List.map_congr_left
    intro m _
    simp [Sp.pad, Sp.Mb.y, Sp.Mb.core, Sp.Om.mB, Sp.Om.bt]
  have hA := fun hd => rdV_obj (k := k) (ms := ms.map Sp.Om.mA) (fun m hm => by
    obtain ⟨o, ho, rfl⟩ := List.mem_map.1 hm
    exact Sp.Om.okA (h o ho) (hi o ho)) hd bl_nil
  have hB := fun hd => rdV_obj (k := k) (ms := ms.reverse.map Sp.Om.mB) (fun m hm => by
    obtain ⟨o, ho, rfl⟩ := List.mem_map.1 hm
    rw [List.mem_reverse] at ho
    exact Sp.Om.okB (h o ho) (hi o ho)) hd bl_nil
  rw [eA, List.nil_append] at hA
  rw [eB, List.nil_append] at hB
  suffices hs : (∀ i (hi : i < (ms.map Sp.Om.mA).length), Maps.has (Sp.putAll ((ms.map Sp.Om.mA).take i)) (.string (ms.map Sp.Om.mA)[i].key) = false) ∧
      (∀ i (hi : i < (ms.reverse.map Sp.Om.mB).length), Maps.has (Sp.putAll ((ms.reverse.map Sp.Om.mB).take i)) (.string (ms.reverse.map Sp.Om.mB)[i].key) = false) ∧
      Sp.putAll (ms.map Sp.Om.mA) = Sp.putAll (ms.reverse.map Sp.Om.mB) by
    obtain ⟨h1, h2, h3⟩ := hs
    exact ⟨_, hA h1, h3 ▸ hB h2⟩
  clear hA hB eA eB hi h
  have hlen : ∀ n, (Sp.idxs n).length = n := by
    intro n
    induction n with
    | zero => rfl
    | succ n ih => simp [Sp.idxs, ih]
  obtain rfl : n = ms.length := by rw [← hlen n, ← hidx, List.length_map]
  match ms, hn, hidx with
  | _ :: _ :: _ :: _ :: _, hn, _ => simp at hn
  | [], _, _ => exact ⟨fun i hi => absurd hi (by simp), fun i hi => absurd hi (by simp), rfl⟩
  | [m1], _, hidx =>
    obtain ⟨i1, x1, y1, a1, b1, c1, d1, v1⟩ := m1
    obtain rfl : i1 = 1 := by simpa [Sp.idxs] using hidx
    refine ⟨fun i hi => ?_, fun i hi => ?_, rfl⟩
    · match i, hi with
      | 0, _ => rfl
    · match i, hi with
      | 0, _ => rfl
  | [m2, m1], _, hidx =>
    obtain ⟨i1, x1, y1, a1, b1, c1, d1, v1⟩ := m1
    obtain ⟨i2, x2, y2, a2, b2, c2, d2, v2⟩ := m2
    obtain ⟨rfl, rfl⟩ : i2 = 2 ∧ i1 = 1 := by simpa [Sp.idxs] using hidx
    refine ⟨fun i hi => ?_, fun i hi => ?_, rfl⟩
    · match i, hi with
      | 0, _ => rfl
      | 1, _ => rfl
    · match i, hi with
      | 0, _ => rfl
      | 1, _ => rfl
  | [m3, m2, m1], _, hidx =>
    obtain ⟨i1, x1, y1, a1, b1, c1, d1, v1⟩ := m1
    obtain ⟨i2, x2, y2, a2, b2, c2, d2, v2⟩ := m2
    obtain ⟨i3, x3, y3, a3, b3, c3, d3, v3⟩ := m3
    obtain ⟨rfl, rfl, rfl⟩ : i3 = 3 ∧ i2 = 2 ∧ i1 = 1 := by simpa [Sp.idxs] using hidx
    refine ⟨fun i hi => ?_, fun i hi => ?_, rfl⟩
    · match i, hi with
      | 0, _ => rfl
      | 1, _ => rfl
      | 2, _ => rfl
    · match i, hi with
      | 0, _ => rfl
      | 1, _ => rfl
      | 2, _ => rfl

/-- both spellings, loaded, say the same -/
theorem two_dmp {a b z1 z2 : Sp.By} (h : Sp.Two 3 a b) (ha : a.length ≤ 1996) (hb : b.length ≤ 1996) (h1 : Sp.Bl z1) (h2 : Sp.Bl z2) : ∃ s, s ≠ [] ∧ Sp.dmp 4 2 a = (0, s) ∧ Sp.dmp 4 2 (z1 ++ (b ++ z2)) = (0, s) := by
  obtain ⟨v, hva, hvb⟩ := h
  have hzl : ∀ {z : Sp.By}, Sp.Bl z → z.length ≤ 2 := by
    intro z hz
    unfold Sp.Bl Sp.blks at hz
    simp only [List.mem_cons, List.not_mem_nil, or_false] at hz
    rcases hz with rfl | rfl | rfl | rfl
    all_goals simp
  have hread : ∀ {l p q : Sp.By}, Sp.RdV 3 l v → Sp.Bl p → Sp.Bl q → (p ++ (l ++ q)).length ≤ 2000 → Sp.readTo (p ++ (l ++ q)) 4 2 = (0, some v) := by
    intro l p q hl hp hq hlen
    have hnd : Sp.Nd q := by
      have := hq.nd (r := []) (by intro c t e; cases e)
      rwa [List.append_nil] at this
    obtain ⟨fl', k1, k2⟩ := hl.2 top 1 (false, (0, 0)) q (by rw [top_eq]; omega) hnd
    obtain ⟨o1, o2, o3⟩ := k2 4 (by omega) ⟨rfl, by simp, by simp⟩
    have hsk : Sp.skB q = [] := by
      have := hq.sk []
      rwa [List.append_nil] at this
    rw [readTo_some (by omega) (by rw [hp.sk, hl.1.skB]; exact k1), hsk, if_pos (show ([] : Sp.By).isEmpty = true from rfl), o1, if_neg (by decide), if_neg (by omega), if_neg (by omega)]
  have r1 := hread (p := []) (q := []) hva bl_nil bl_nil (by simp; omega)
  have z1l := hzl h1
  have z2l := hzl h2
  have r2 := hread (p := z1) (q := z2) hvb h1 h2 (by simp; omega)
  rw [List.nil_append, List.append_nil] at r1
  refine ⟨Sp.can top v, ?_, by unfold Sp.dmp; rw [r1], by unfold Sp.dmp; rw [r2]⟩
  obtain ⟨c, t, e, _⟩ := gd_hd (read_gd r1)
  rw [e]; simp

end Go.Proofs.YtmegcejgjdkpfaaGreatDoor
