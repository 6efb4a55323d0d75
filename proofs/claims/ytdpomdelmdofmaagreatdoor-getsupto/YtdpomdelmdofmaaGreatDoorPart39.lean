/-
  The program's exponents and the reference's own are the same, or both too far; what is read, by the reference's reader.
-/
import Derived.Test.YtdpomdelmdofmaaGreatDoorPart38
namespace Go.Proofs.YtdpomdelmdofmaaGreatDoor
open Go.RowKit
def Near (e x : Int) : Prop := e = x ∨ ((e < -900000 ∨ 900000 < e) ∧ (x < -900000 ∨ 900000 < x))
theorem trim_cnt (ds : Sp.By) (h : Lib.trimRightB (Lib.trimLeftB ds 48) 48 ≠ []) : (Lib.trimLeftB ds 48).length + (Lib.trimRightB ds 48).length = ds.length + (Lib.trimRightB (Lib.trimLeftB ds 48) 48).length := by
 induction ds with
 | nil => rfl
 | cons a r ih =>
  by_cases ha : a = 48
  ·subst ha
   have e1 : Lib.trimLeftB (48 :: r) 48 = Lib.trimLeftB r 48 := trimL_zero rfl
   rw [e1] at h ⊢
   have h2 := ih h
   have hne : Lib.trimRightB r 48 ≠ [] := by
    intro e
    rw [← trim_comm, e] at h
    exact h rfl
   rw [trimR_cons, if_neg hne]
   simp only [List.length_cons]
   omega
  ·have e1 : Lib.trimLeftB (a :: r) 48 = a :: r := trimL_id (by simpa using ha)
   rw [e1]
theorem expo_near {l r : Sp.By} {ev : Int} (h : Sp.expo l = some (ev, r)) : ev = Sp.rexp l ∨ (ev = 1000000 ∧ 1000000 ≤ Sp.rexp l) ∨ (ev = -1000000 ∧ Sp.rexp l ≤ -1000000) := by
 have hg : ∀ l : Sp.By, Sp.grt (Sp.dg l) 0 = Sp.exNum (Sp.dg l) 0 ∧ Sp.exNum (Sp.dg l) 0 < 1000000 ∨ 1000000 ≤ Sp.grt (Sp.dg l) 0 ∧ Sp.exNum (Sp.dg l) 0 = 1000000 := fun l =>
  grt_ex (Sp.dg l) (fun c hc => (isD_iff c).2 (dg_all _ c hc)) 0 0 (by omega) (by omega) (by omega)
 have h1 := hg l.tail.tail
 have h2 := hg l.tail
 unfold Sp.expo at h
 unfold Sp.rexp
 split at h
 ·rename_i k
  rw [if_pos k]
  split at h
  ·rename_i k2
   rw [if_pos k2]
   split at h
   ·cases h
   ·have h3 := (Prod.mk.inj (Option.some.inj h)).1
    omega
  ·rename_i k2
   rw [if_neg k2]
   split at h
   ·rename_i k3
    rw [if_pos k3]
    split at h
    ·cases h
    ·have h3 := (Prod.mk.inj (Option.some.inj h)).1
     omega
   ·rename_i k3
    rw [if_neg k3]
    split at h
    ·cases h
    ·have h3 := (Prod.mk.inj (Option.some.inj h)).1
     omega
 ·rename_i k
  rw [if_neg k]
  exact Or.inl (Prod.mk.inj (Option.some.inj h)).1.symm
theorem numB_near {ng : Bool} {l r : Sp.By} {n : Sp.Nm} (hl : l.length ≤ 2000) (h : Sp.numB ng l = some (n, r)) : Near n.2.2 (Sp.rexB l) := by
 have hdl := dg_len l
 unfold Sp.numB at h
 split at h
 ·cases h
 ·split at h
  ·cases h
  ·rename_i f r1 hf
   have hfl := frac_len hf
   split at h
   ·cases h
   ·rename_i e r2 he
    have h1 := (Prod.mk.inj (Option.some.inj h)).1
    subst h1
    unfold Sp.rexB
    rw [hf]
    simp only
    unfold Sp.rmk Sp.mkNm
    simp only
    rw [trim_comm]
    by_cases hw : Lib.trimRightB (Lib.trimLeftB (Sp.dg l ++ f) 48) 48 = []
    ·rw [if_pos hw, if_pos hw]; exact Or.inl rfl
    ·rw [if_neg hw, if_neg hw]
     have hc := trim_cnt _ hw
     have hz := trimR_len (Sp.dg l ++ f) 48
     have hlen : (Sp.dg l ++ f).length ≤ 4000 := by rw [List.length_append]; omega
     have hfl2 : f.length ≤ 2000 := by omega
     have hn := expo_near he
     unfold Near
     simp only
     omega
theorem num_near {l r : Sp.By} {n : Sp.Nm} (hl : l.length ≤ 2000) (h : Sp.num l = some (n, r)) : Near n.2.2 (Sp.rex l) := by
 unfold Sp.num at h
 unfold Sp.rex
 split at h
 ·rename_i k
  rw [if_pos k]
  exact numB_near (by have := List.length_tail (l := l); omega) h
 ·rename_i k
  rw [if_neg k]
  exact numB_near hl h
def Sp.nrO : Nat → Sp.O → Prop
 | 0, _ => False
 | f + 1, o => (∃ k, k < 3 ∧ o = Sp.oWord k) ∨ (∃ n x, o = Sp.oNum n x ∧ Near n.2.2 x) ∨ (∃ s, o = Sp.oStr s) ∨ (∃ es, o = Sp.oArr es ∧ ∀ e ∈ es, Sp.nrO f e) ∨ (∃ es : Sp.Ms, o = Sp.oObj es ∧ ∀ p ∈ es, Sp.nrO f p.2)
theorem rval_near (f : Nat) : ∀ (l : Sp.By) (o : Sp.O) (r : Sp.By), l.length ≤ 2000 → Sp.rval f l = some (o, r) → Sp.nrO f o := by
 induction f with
 | zero => intro l o r hl h; cases h
 | succ f ih =>
  intro l o r hl h
  unfold Sp.rval at h
  split at h
  ·split at h
   ·cases h
   ·rename_i r1 es h1
    have ho := (Prod.mk.inj (Option.some.inj h)).1
    subst ho
    obtain ⟨hI, _⟩ := lstAll_inv (σ := Sp.Ms) (fun l s => l.length ≤ 2000 ∧ ∀ p ∈ s, Sp.nrO f p.2) (fun a b s h hl => ⟨by omega, h.2⟩) (by
     rintro a s a' s' ⟨hla, hs⟩ hm
     unfold Sp.rmemb at hm
     split at hm
     ·cases hm
     ·rename_i k l1 hq
      have q1 := Sp.quo_len hq
      have q2 := Sp.skB_len l1
      have q3 := Sp.skB_len (Sp.skB l1).tail
      have q4 := List.length_tail (l := Sp.skB l1)
      split at hm
      ·split at hm
       ·cases hm
       ·rename_i o r hv
        have q5 := rval_len _ _ _ _ hv
        obtain ⟨h1, h2⟩ := Prod.mk.inj (Option.some.inj hm)
        subst h1; subst h2
        refine ⟨by omega, fun p hp => ?_⟩
        rcases List.mem_append.1 hp with hp | hp
        ·exact hs p hp
        ·obtain rfl := List.mem_singleton.1 hp
         exact ih _ _ _ (by omega) hv
      ·cases hm) ⟨by rw [List.length_tail]; omega, fun p hp => absurd hp (by simp)⟩ h1
    exact Or.inr (Or.inr (Or.inr (Or.inr ⟨es, rfl, hI.2⟩)))
  ·split at h
   ·split at h
    ·cases h
    ·rename_i r1 es h1
     have ho := (Prod.mk.inj (Option.some.inj h)).1
     subst ho
     obtain ⟨hI, _⟩ := lstAll_inv (σ := List Sp.O) (fun l s => l.length ≤ 2000 ∧ ∀ p ∈ s, Sp.nrO f p) (fun a b s h hl => ⟨by omega, h.2⟩) (by
      rintro a s a' s' ⟨hla, hs⟩ hm
      unfold Sp.relem at hm
      split at hm
      ·cases hm
      ·rename_i o r hv
       have q5 := rval_len _ _ _ _ hv
       obtain ⟨h1, h2⟩ := Prod.mk.inj (Option.some.inj hm)
       subst h1; subst h2
       refine ⟨by omega, fun p hp => ?_⟩
       rcases List.mem_append.1 hp with hp | hp
       ·exact hs p hp
       ·obtain rfl := List.mem_singleton.1 hp
        exact ih _ _ _ hla hv) ⟨by rw [List.length_tail]; omega, fun p hp => absurd hp (by simp)⟩ h1
     exact Or.inr (Or.inr (Or.inr (Or.inl ⟨es, rfl, hI.2⟩)))
   ·split at h
    ·split at h
     ·cases h
     ·rename_i s r1 h1
      have ho := (Prod.mk.inj (Option.some.inj h)).1
      subst ho
      exact Or.inr (Or.inr (Or.inl ⟨s, rfl⟩))
    ·split at h
     ·split at h
      ·cases h
      ·rename_i n r1 h1
       have ho := (Prod.mk.inj (Option.some.inj h)).1
       subst ho
       exact Or.inr (Or.inl ⟨n, _, rfl, num_near hl h1⟩)
     ·split at h
      ·cases h
      ·rename_i k r1 h1
       have ho := (Prod.mk.inj (Option.some.inj h)).1
       subst ho
       refine Or.inl ⟨k, ?_, rfl⟩
       unfold Sp.wordIn Sp.words at h1
       simp only [Sp.wordIn] at h1
       repeat' split at h1
       all_goals first | (have h2 := (Prod.mk.inj (Option.some.inj h1)).1; omega) | cases h1
end Go.Proofs.YtdpomdelmdofmaaGreatDoor

namespace Go.Proofs.YtdpomdelmdofmaaGreatDoor
open Go.RowKit
theorem maxs_lt (b : Int) (l : List Int) : ∀ a, decide (b < Sp.maxs a l) = (decide (b < a) || l.any (fun x => decide (b < x))) := by
 induction l with
 | nil => intro a; show decide (b < a) = (decide (b < a) || false); rw [Bool.or_false]
 | cons x r ih =>
  intro a
  show decide (b < Sp.maxs (max a x) r) = _
  rw [ih, List.any_cons, ← Bool.or_assoc]
  congr 1
  rw [Bool.eq_iff_iff]
  simp only [decide_eq_true_eq, Bool.or_eq_true]
  omega
theorem any_congr' {α : Type} {p q : α → Bool} {l : List α} (h : ∀ x ∈ l, p x = q x) : l.any p = l.any q := by
 induction l with
 | nil => rfl
 | cons a r ih => rw [List.any_cons, List.any_cons, h a (by simp), ih fun x hx => h x (by simp [hx])]
theorem fao_exo (mo : Int) (hmo : 0 ≤ mo ∧ mo ≤ 400) (f : Nat) : ∀ o, Sp.nrO f o → Sp.faO mo f o = decide (mo < Sp.exO f o) := by
 induction f with
 | zero => intro o h; exact h.elim
 | succ f ih =>
  intro o h
  have h0 : decide (mo < 0) = false := decide_eq_false (by omega)
  rcases h with ⟨k, _, rfl⟩ | ⟨n, x, rfl, hn⟩ | ⟨s, rfl⟩ | ⟨es, rfl, hes⟩ | ⟨es, rfl, hes⟩
  ·exact h0.symm
  ·show (decide (x < -mo) || decide (mo < x)) = decide (mo < max n.2.2 (-n.2.2))
   rw [Bool.eq_iff_iff]
   simp only [decide_eq_true_eq, Bool.or_eq_true]
   unfold Near at hn
   omega
  ·exact h0.symm
  ·show es.any (Sp.faO mo f) = decide (mo < Sp.maxs 0 (es.map (Sp.exO f)))
   rw [maxs_lt, h0, Bool.false_or, List.any_map]
   exact any_congr' fun x hx => ih x (hes x hx)
  ·show (Sp.lits es).any (fun p => Sp.faO mo f p.2) = decide (mo < Sp.maxs 0 ((Sp.lits es).map fun p => Sp.exO f p.2))
   rw [maxs_lt, h0, Bool.false_or, List.any_map]
   unfold Sp.lits
   rw [List.any_map, List.any_map]
   exact any_congr' fun p hp => ih p.2 (hes p hp)
theorem readTo_r (t : Sp.By) (d x : Int) (hx : 0 ≤ x ∧ x ≤ 400) : Sp.readTo t d x = if 2000 < t.length then (4, none) else match Sp.rval top (Sp.skB t) with
  | none => (5, none)
  | some (o, r) => if (Sp.skB r).isEmpty then (if Sp.twO top o then (6, none) else if d < Sp.dpO top o then (7, none) else if Sp.faO x top o then (8, none) else (0, some (Sp.nrm top o))) else (5, none) := by
 unfold Sp.readTo
 by_cases h1 : 2000 < t.length
 ·rw [if_pos h1, if_pos h1]
 ·rw [if_neg h1, if_neg h1, val_rval top 1 (Sp.skB t) (false, (0, 0)) (Int.le_refl _)]
  cases h : Sp.rval top (Sp.skB t) with
  | none => rfl
  | some y =>
   obtain ⟨o, r⟩ := y
   have hnr := rval_near top _ _ _ (by have := Sp.skB_len t; omega) h
   have hd := (dpO_bd top o).1
   have e1 : (Sp.flO top 1 (false, (0, 0)) o).1 = Sp.twO top o := by unfold Sp.flO; simp
   have e2 : (d < (Sp.flO top 1 (false, (0, 0)) o).2.1) ↔ (d < Sp.dpO top o) := by unfold Sp.flO; simp only; omega
   have e3 : (x < (Sp.flO top 1 (false, (0, 0)) o).2.2) ↔ (Sp.faO x top o = true) := by
    rw [fao_exo x hx top o hnr, decide_eq_true_eq]
    unfold Sp.flO; simp only; omega
   simp only [Option.map_some, e1, e2, e3]
def Sp.goO : Nat → Sp.O → Prop
 | 0, _ => False
 | f + 1, o => (∃ k, k < 3 ∧ o = Sp.oWord k) ∨ (∃ n : Sp.Nm, o = Sp.oNum n n.2.2 ∧ -400 ≤ n.2.2 ∧ n.2.2 ≤ 400) ∨ (∃ s, o = Sp.oStr s) ∨ (∃ es, o = Sp.oArr es ∧ ∀ e ∈ es, Sp.goO f e) ∨
   (∃ es : Sp.Ms, o = Sp.oObj es ∧ (es.map (·.1)).Nodup ∧ ∀ p ∈ es, Sp.goO f p.2)
theorem dup_no (l : List Sp.By) : ∀ seen : List Sp.By, Sp.dup (seen.map fun k => Lit.string k) (l.map fun k => Lit.string k) = false → l.Nodup ∧ ∀ k ∈ l, k ∉ seen := by
 induction l with
 | nil => intro seen _; exact ⟨List.nodup_nil, fun k hk => absurd hk (by simp)⟩
 | cons a r ih =>
  intro seen h
  rw [List.map_cons, Sp.dup, Bool.or_eq_false_iff] at h
  obtain ⟨h1, h2⟩ := h
  have h3 := ih (seen ++ [a]) (by rw [List.map_append]; exact h2)
  have ha : a ∉ seen := by
   intro hm
   have : (seen.map fun k => Lit.string k).any (fun p => p.sameKey (.string a)) = true := List.any_eq_true.2 ⟨.string a, List.mem_map.2 ⟨a, hm, rfl⟩, by simp [Lit.sameKey]⟩
   rw [this] at h1; cases h1
  refine ⟨List.nodup_cons.2 ⟨fun hm => h3.2 a hm (by simp), h3.1⟩, fun k hk => ?_⟩
  rcases List.mem_cons.1 hk with rfl | hk
  ·exact ha
  ·exact fun hm => h3.2 k hk (by simp [hm])
theorem go_of (mo : Int) (hmo : 0 ≤ mo ∧ mo ≤ 400) (f : Nat) : ∀ o, Sp.nrO f o → Sp.twO f o = false → Sp.faO mo f o = false → Sp.goO f o := by
 induction f with
 | zero => intro o h; exact h.elim
 | succ f ih =>
  intro o h ht hf
  rcases h with ⟨k, hk, rfl⟩ | ⟨n, x, rfl, hn⟩ | ⟨s, rfl⟩ | ⟨es, rfl, hes⟩ | ⟨es, rfl, hes⟩
  ·exact Or.inl ⟨k, hk, rfl⟩
  ·have h2 : (decide (x < -mo) || decide (mo < x)) = false := hf
   rw [Bool.or_eq_false_iff, decide_eq_false_iff_not, decide_eq_false_iff_not] at h2
   unfold Near at hn
   have : n.2.2 = x := by omega
   subst this
   exact Or.inr (Or.inl ⟨n, rfl, by omega, by omega⟩)
  ·exact Or.inr (Or.inr (Or.inl ⟨s, rfl⟩))
  ·have t2 : es.any (Sp.twO f) = false := ht
   have f2 : es.any (Sp.faO mo f) = false := hf
   rw [List.any_eq_false] at t2 f2
   exact Or.inr (Or.inr (Or.inr (Or.inl ⟨es, rfl, fun e he => ih e (hes e he) (by simpa using t2 e he) (by simpa using f2 e he)⟩)))
  ·have t2 : ((Sp.lits es).any (fun p => Sp.twO f p.2) || Sp.dup [] ((Sp.lits es).map (·.1))) = false := ht
   have f2 : (Sp.lits es).any (fun p => Sp.faO mo f p.2) = false := hf
   rw [Bool.or_eq_false_iff] at t2
   obtain ⟨t2, t3⟩ := t2
   unfold Sp.lits at t2 f2 t3
   rw [List.any_map, List.any_eq_false] at t2 f2
   have t4 : (Sp.lits es).map (·.1) = (es.map (·.1)).map fun k => Lit.string k := by unfold Sp.lits; rw [List.map_map, List.map_map]; rfl
   have t5 := (dup_no (es.map (·.1)) [] (by rw [← t4]; exact t3)).1
   exact Or.inr (Or.inr (Or.inr (Or.inr ⟨es, rfl, t5, fun p hp => ih p.2 (hes p hp) (by simpa using t2 p hp) (by simpa using f2 p hp)⟩)))
end Go.Proofs.YtdpomdelmdofmaaGreatDoor

namespace Go.Proofs.YtdpomdelmdofmaaGreatDoor
open Go.RowKit
def RfEnd (s : Sp.By) (d x : Int) (w : World) (e : Ending) (w' : World) : Prop :=
 Below w.heap.size w w' ∧ ((∃ c : Nat, 0 < c ∧ Sp.readTo s d x = (c, none) ∧ e = .returned (.tuple #[.pointer none, .int .i64 c])) ∨
  (∃ (p : Addr) (o : Sp.O), Sp.readTo s d x = (0, some (Sp.nrm top o)) ∧ e = .returned (.tuple #[.pointer (some p), .int .i64 0]) ∧ ORep top (fun k => w.heap.size ≤ k) w' (.pointer (some p)) o ∧ Sp.goO top o))
theorem RfEnd.err {s : Sp.By} {d x : Int} {w w' : World} {c : Nat} (h : Sp.readTo s d x = (c, none)) (hc : 0 < c) (hb : Below w.heap.size w w') : RfEnd s d x w (.returned (.tuple #[.pointer none, .int .i64 c])) w' := ⟨hb, Or.inl ⟨c, hc, h, rfl⟩⟩
set_option maxRecDepth 100000 in
set_option maxHeartbeats 8000000 in
theorem rRead_any (s : Sp.By) (d x : Int) (hx : 0 ≤ x ∧ x ≤ 400) (w : World) :
  Calls Tryz.prog 64 #[.string ⟨s.toArray⟩, .int .i64 d, .int .i64 x, .int .i64 2000] w fun e w' => RfEnd s d x w e w' := by
 have hrt := readTo_r s d x hx
 have hbs : (⟨s.toArray⟩ : ByteArray).size = s.length := bs_size s
 by_cases hl : 2000 < s.length
 ·rw [if_pos hl] at hrt
  have HRT := hide hrt
  have e0 : decide ((2000 : Int) < (s.length : Int)) = true := decide_eq_true (by omega)
  clear hrt
  go_enter Tryz.func64, Tryz.ntmps64
  go_wp2_with (fail)
  go_ret2
  exact RfEnd.err (unhide HRT) (Nat.succ_pos _) (Below.refl _ _)
 ·rw [if_neg hl] at hrt
  have HRT := hide hrt
  have e0 : decide ((2000 : Int) < (s.length : Int)) = false := decide_eq_false (by omega)
  have hsl : s.length ≤ 2000 := by omega
  have HU := hide (fun w => rUtf8_any ⟨s.toArray⟩ (by rw [hbs]; exact hsl) w)
  have HAT := hide (show At ⟨s.toArray⟩ 0 s from ⟨by rw [hbs]; exact hsl, Nat.zero_le _, by simp⟩)
  have hsk := Sp.skB_len s
  have htop : top ≤ 2001 ∧ 2001 ≤ top := by rw [top_eq]; omega
  have HBS := hide hbs
  clear hrt hl hbs
  go_enter Tryz.func64, Tryz.ntmps64
  go_wp2_with (fail)
  refine (unhide HU _).mono ?_
  rintro e w1 ⟨rfl, hb1⟩
  obtain ⟨w2, hw2⟩ : ∃ w2, w2 = w1.alloc (.cells #[.string ⟨s.toArray⟩, .int .i64 x, .bool false, .bool false] 139) := ⟨_, rfl⟩
  have hr2 : RB w2 w1.heap.size ⟨s.toArray⟩ x false false := by rw [hw2]; exact heap_new _ _ _ rfl
  have hb2 : Below w.heap.size w w2 := by rw [hw2]; exact hb1.alloc hb1.size _
  have hs1 := hb1.size
  have HR2 := hide hr2
  have HB2 := hide hb2
  have HW2 := hide hw2
  clear hb1 hr2 hb2 hw2 HU
  go_wp2_with (fail)
  rw [← unhide HW2]
  refine (rOver_any (unhide HR2).rs (unhide HAT)).mono ?_
  rintro e w3 ⟨⟨q, rfl, hq⟩, rfl⟩
  have HQ := hide hq
  clear hq
  go_wp2_with (fail)
  refine (oValue_ok top _ _ _ _ _ _ _ _ (unhide HR2) (unhide HQ) hx (by omega)).mono ?_
  rintro e w4 ⟨hk4, hc⟩
  have hb4 : Below w.heap.size w w4 := (unhide HB2).trans (hk4.below hs1 (unhide HB2).size)
  have HB4 := hide hb4
  rcases hc with ⟨o, r, V, q2, hs, rfl, hat2, hrep, hrb⟩ | ⟨hs, rfl, tw', far', hrb⟩
  ·have hut := u8_of_rval (f := top) (s := s) (r := r) (o := o) hs
   have hnr := rval_near top _ _ _ (by omega) hs
   have HRT2 := hide (show Sp.readTo s d x = if (Sp.skB r).isEmpty then (if Sp.twO top o then (6, none) else if d < Sp.dpO top o then (7, none) else if Sp.faO x top o then (8, none) else (0, some (Sp.nrm top o))) else (5, none) by rw [unhide HRT, hs])
   have HREP := hide (hrep.move (F' := fun k => w.heap.size ≤ k) (w' := w4) fun k h1 _ => ⟨rfl, by have := (unhide HB2).size; omega⟩)
   have HRB := hide hrb
   have HAT2 := hide hat2
   have HNR := hide hnr
   clear hs hat2 hrep hrb hnr hk4 hb4
   cases hu : Sp.u8 s with
   | false =>
    have hem : (Sp.skB r).isEmpty = false := by
     cases h : (Sp.skB r).isEmpty with
     | false => rfl
     | true => rw [hut h] at hu; cases hu
    have HF := hide (show Sp.readTo s d x = (5, none) by rw [unhide HRT2, if_neg (by rw [hem]; decide)])
    clear hut hem
    simp only
    clear hu
    go_wp2_with (fail)
    go_ret2
    exact RfEnd.err (unhide HF) (Nat.succ_pos _) (unhide HB4)
   | true =>
    clear hut
    simp only
    clear hu
    go_wp2_with (fail)
    refine (rOver_any (unhide HRB).rs (unhide HAT2)).mono ?_
    rintro e w5 ⟨⟨q3, rfl, hq3⟩, rfl⟩
    cases hem : (Sp.skB r).isEmpty with
    | false =>
     have hq3l := hq3.len
     have hq3e := hq3.le
     have hne : (Sp.skB r).length ≠ 0 := by
      intro h; rw [List.length_eq_zero_iff.1 h] at hem; cases hem
     rw [unhide HBS] at hq3l hq3e
     have e1 : ((q3 : Int) == (s.length : Int)) = false := by rw [beq_eq_false_iff_ne]; omega
     have HF := hide (show Sp.readTo s d x = (5, none) by rw [unhide HRT2, if_neg (by rw [hem]; decide)])
     clear hem hq3
     go_wp2_with (fail)
     go_ret2
     exact RfEnd.err (unhide HF) (Nat.succ_pos _) (unhide HB4)
    | true =>
     have hq3l := hq3.len
     have hq3e := hq3.le
     have hne : (Sp.skB r).length = 0 := by rw [List.isEmpty_iff.1 hem]; rfl
     rw [unhide HBS] at hq3l hq3e
     have hqs : q3 = s.length := by omega
     subst hqs
     have HRT3 := hide (show Sp.readTo s d x = (if Sp.twO top o then (6, none) else if d < Sp.dpO top o then (7, none) else if Sp.faO x top o then (8, none) else (0, some (Sp.nrm top o))) by rw [unhide HRT2, if_pos hem])
     clear hem hq3 hne hq3l hq3e
     go_wp2_with (fail)
     refine (depth_ok top _ _ _ _ (unhide HREP) (by omega)).mono ?_
     rintro e w6 ⟨rfl, rfl⟩
     have k2 := (unhide HRB).c2
     have k3 := (unhide HRB).c3
     cases ht : Sp.twO top o with
     | true =>
      have HF := hide (show Sp.readTo s d x = (6, none) by rw [unhide HRT3, if_pos ht])
      rw [ht] at k2
      clear ht k3
      go_wp2_with (fail)
      go_ret2
      exact RfEnd.err (unhide HF) (Nat.succ_pos _) (unhide HB4)
     | false =>
      rw [ht] at k2
      by_cases hd : d < Sp.dpO top o
      ·have HF := hide (show Sp.readTo s d x = (7, none) by rw [unhide HRT3, if_neg (by rw [ht]; decide), if_pos hd])
       have e1 : decide (d < Sp.dpO top o) = true := decide_eq_true hd
       clear ht k3 hd
       go_wp2_with (fail)
       go_ret2
       exact RfEnd.err (unhide HF) (Nat.succ_pos _) (unhide HB4)
      ·have e1 : decide (d < Sp.dpO top o) = false := decide_eq_false hd
       cases hf : Sp.faO x top o with
       | true =>
        have HF := hide (show Sp.readTo s d x = (8, none) by rw [unhide HRT3, if_neg (by rw [ht]; decide), if_neg hd, if_pos hf])
        rw [hf] at k3
        clear ht hd hf
        go_wp2_with (fail)
        go_ret2
        exact RfEnd.err (unhide HF) (Nat.succ_pos _) (unhide HB4)
       | false =>
        have HF := hide (show Sp.readTo s d x = (0, some (Sp.nrm top o)) by rw [unhide HRT3, if_neg (by rw [ht]; decide), if_neg hd, if_neg (by rw [hf]; decide)])
        have HG := hide (go_of x hx top o (unhide HNR) ht hf)
        rw [hf] at k3
        clear ht hd hf
        go_wp2_with (fail)
        go_ret2
        exact ⟨unhide HB4, Or.inr ⟨_, o, unhide HF, rfl, unhide HREP, unhide HG⟩⟩
  ·have HF := hide (show Sp.readTo s d x = (5, none) by rw [unhide HRT, hs])
   clear hs hrb hk4 hb4
   cases hu : Sp.u8 s with
   | false =>
    simp only
    clear hu
    go_wp2_with (fail)
    go_ret2
    exact RfEnd.err (unhide HF) (Nat.succ_pos _) (unhide HB4)
   | true =>
    simp only
    clear hu
    go_wp2_with (fail)
    go_ret2
    exact RfEnd.err (unhide HF) (Nat.succ_pos _) (unhide HB4)
end Go.Proofs.YtdpomdelmdofmaaGreatDoor
