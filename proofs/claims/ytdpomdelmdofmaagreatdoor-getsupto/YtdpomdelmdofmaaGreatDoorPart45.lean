/-
  Walk of maps.EqualFunc at the program's Same: what is of no walk.
-/
import Derived.Test.YtdpomdelmdofmaaGreatDoorPart44
import Derived.Maps.RangeWalk
import Derived.Maps.Ext
import Derived.Sort.MapsRangeIn
namespace Go.Proofs.YtdpomdelmdofmaaGreatDoor
open Go.RowKit Go.Maps
theorem sub_turn {α : Type} : ∀ {l m : List α}, l.Pairwise (· ≠ ·) → (∀ x ∈ l, x ∈ m) → m.length ≤ l.length → ∀ x ∈ m, x ∈ l
 | [], m, _, _, h, x, hx => by
  have : m = [] := List.eq_nil_of_length_eq_zero (by simpa using h)
  rw [this] at hx; exact hx
 | a :: l, m, hp, hs, h, x, hx => by
  obtain ⟨h1, h2⟩ := List.pairwise_cons.1 hp
  obtain ⟨m1, m2, rfl⟩ := List.append_of_mem (hs a (List.mem_cons_self ..))
  have ih := sub_turn (l := l) (m := m1 ++ m2) h2 (fun y hy => by
   have h3 := hs y (List.mem_cons_of_mem _ hy)
   have h4 := h1 y hy
   simp only [List.mem_append, List.mem_cons] at h3 ⊢
   rcases h3 with h3 | h3 | h3
   ·exact Or.inl h3
   ·exact absurd h3.symm h4
   ·exact Or.inr h3) (by simp only [List.length_append, List.length_cons] at h ⊢; omega)
  simp only [List.mem_append, List.mem_cons] at hx ⊢
  rcases hx with hx | hx | hx
  ·exact Or.inr (ih x (by simp [hx]))
  ·exact Or.inl hx
  ·exact Or.inr (ih x (by simp [hx]))
theorem Pt.fsts {P : Value → Sp.V → Prop} : ∀ {l : List (Lit × DataW Value)} {m : List (Lit × Sp.V)}, Pt P l m → l.map Prod.fst = m.map Prod.fst
 | [], [], _ => rfl
 | a :: _, b :: _, ⟨⟨k, _⟩, t⟩ => by
  have := Pt.fsts t
  simp only [List.map_cons]
  rw [k, this]
theorem Pt.size {P : Value → Sp.V → Prop} {l : List (Lit × DataW Value)} {m : List (Lit × Sp.V)} (h : Pt P l m) : l.length = m.length := by
 have := congrArg List.length h.fsts
 simpa using this
theorem atKey_def {H : Type} (es : List (Lit × DataW H)) (k : Lit) (z : DataW H) : (DataW.map es).atKey k z = (match es.find? (fun p => p.1.sameKey k) with | some p => p.2 | none => z) := rfl
theorem find_yes {α : Type} {p : Lit × α → Bool} {a : Lit × α} {l : List (Lit × α)} (h : p a = true) : (a :: l).find? p = some a := List.find?_cons_of_pos h
theorem find_no {α : Type} {p : Lit × α → Bool} {a : Lit × α} {l : List (Lit × α)} (h : ¬ p a = true) : (a :: l).find? p = l.find? p := List.find?_cons_of_neg h
theorem Pt.at {P : Value → Sp.V → Prop} (k : Lit) : ∀ {l : List (Lit × DataW Value)} {m : List (Lit × Sp.V)}, Pt P l m → Maps.has (.map l) k = true → ∃ x, (∀ z, (DataW.map l).atKey k z = .held x) ∧ P x ((DataW.map m).atKey k .nil)
 | [], [], _, h => by cases h
 | a :: r, b :: s, ⟨⟨kk, x, e, g⟩, t⟩, h => by
  by_cases hk : a.1.sameKey k = true
  ·refine ⟨x, fun z => ?_, ?_⟩
   ·rw [atKey_def, find_yes (p := fun p => p.1.sameKey k) hk]; exact e
   ·rw [atKey_def, find_yes (p := fun p => p.1.sameKey k) (by rw [← kk]; exact hk)]; exact g
  ·have h2 : Maps.has (.map r) k = true := by
    have h3 : (a.1.sameKey k || r.any fun p => p.1.sameKey k) = true := h
    rw [Bool.eq_false_iff.2 hk, Bool.false_or] at h3
    exact h3
   obtain ⟨x', e1, e2⟩ := Pt.at k t h2
   refine ⟨x', fun z => ?_, ?_⟩
   ·rw [atKey_def, find_no (p := fun p => p.1.sameKey k) hk]; exact e1 z
   ·rw [atKey_def, find_no (p := fun p => p.1.sameKey k) (by rw [← kk]; exact hk)]; exact e2
theorem Pt.canon {P : Value → Sp.V → Prop} {l : List (Lit × DataW Value)} {m : List (Lit × Sp.V)} (h : Pt P l m) (c : Maps.Canon (.map l : DataW Value)) : Maps.Canon (.map m : DataW Unit) := by
 obtain ⟨es, he, hp, hk⟩ := c
 injection he with he
 subst he
 refine ⟨m, rfl, ?_, ?_⟩
 ·have h1 : (l.map Prod.fst).Pairwise (fun a b => a.before b = true) := List.pairwise_map.2 hp
  rw [h.fsts] at h1
  exact List.pairwise_map.1 h1
 ·intro p hp2
  have h1 : p.1 ∈ l.map Prod.fst := by rw [h.fsts]; exact List.mem_map.2 ⟨p, hp2, rfl⟩
  obtain ⟨q, hq, e⟩ := List.mem_map.1 h1
  rw [← e]; exact hk q hq
theorem obj_same {es es' : List (Lit × Sp.V)} (c : Maps.Canon (.map es : DataW Unit)) (c' : Maps.Canon (.map es' : DataW Unit)) (hl : es.length = es'.length)
  (h : ∀ k, Maps.has (.map es : DataW Unit) k = true → Maps.has (.map es' : DataW Unit) k = true ∧ (DataW.map es).atKey k .nil = (DataW.map es').atKey k .nil) : Sp.vObj es = Sp.vObj es' := by
 obtain ⟨_, he, hp, hk⟩ := c
 injection he with he
 subst he
 obtain ⟨_, he, hp', hk'⟩ := c'
 injection he with he
 subst he
 have hap := apart_of_rising hp
 have hap' := apart_of_rising hp'
 have hsub : ∀ p ∈ es, p ∈ es' := fun p hpm => by
  have h1 : Maps.has (.map es : DataW Unit) p.1 = true := List.any_eq_true.2 ⟨p, hpm, WideAt.sameKey_self (hk p hpm)⟩
  obtain ⟨h2, h3⟩ := h p.1 h1
  obtain ⟨q, hq, hs⟩ := List.any_eq_true.1 (show es'.any (fun q => q.1.sameKey p.1) = true from h2)
  have e1 : q.1 = p.1 := WideAt.sameKey_eq hs
  have e2 := WideAt.atKey_mem .nil (hk p hpm) hap (show (p.1, p.2) ∈ es from hpm)
  have e3 := WideAt.atKey_mem .nil (hk' q hq) hap' (show (q.1, q.2) ∈ es' from hq)
  rw [e1] at e3
  rw [e2, e3] at h3
  have : p = q := Prod.ext e1.symm h3
  rw [this]; exact hq
 have hne : es.Pairwise (· ≠ ·) := hap.imp (fun h e => h (congrArg Prod.fst e))
 have hback := sub_turn hne hsub (by omega)
 unfold Sp.vObj
 rw [eq_of_mem_rising hp hp' (fun p => ⟨hsub p, hback p⟩)]
theorem obj_ne {es es' : List (Lit × Sp.V)} {k : Lit} (h1 : Maps.has (.map es : DataW Unit) k = true) (h : Maps.has (.map es' : DataW Unit) k = true → (DataW.map es).atKey k .nil ≠ (DataW.map es').atKey k .nil) : Sp.vObj es ≠ Sp.vObj es' := by
 intro e
 unfold Sp.vObj at e
 injection e with e
 subst e
 exact h h1 rfl
end Go.Proofs.YtdpomdelmdofmaaGreatDoor

namespace Go.Proofs.YtdpomdelmdofmaaGreatDoor
open Go.RowKit Go.Maps
def Came (es es' : List (Lit × Sp.V)) (left : Lit → Bool) : Prop :=
 ∀ k, Maps.has (.map es : DataW Unit) k = true → left k = false → Maps.has (.map es' : DataW Unit) k = true ∧ (DataW.map es).atKey k .nil = (DataW.map es').atKey k .nil
theorem Came.step {es es' : List (Lit × Sp.V)} {left : Lit → Bool} {kl : Lit} (h : Came es es' left) (h2 : Maps.has (.map es' : DataW Unit) kl = true) (h3 : (DataW.map es).atKey kl .nil = (DataW.map es').atKey kl .nil) : Came es es' (fun z => left z && !z.sameKey kl) := by
 intro k hk hl
 cases h4 : left k
 ·exact h k hk h4
 ·have h5 : (left k && !k.sameKey kl) = false := hl
  rw [h4] at h5
  have : k = kl := WideAt.sameKey_eq (by simpa using h5)
  subst this
  exact ⟨h2, h3⟩
theorem below_of_grown {w w' : World} (h : w.grownBy w' none) : Below w.heap.size w w' := (Below.refl _ _).grown h (Nat.le_refl _) (fun j hj => by cases hj)
theorem grown_of_below {w w' : World} (h : Below w.heap.size w w') : w.grownBy w' none := ⟨h.os, h.tape, h.output, h.size, fun i hi _ => h.block i hi⟩
theorem rv_held {v x : Value} {d : DataW Value} {ps : List MemPlace} (h : RV v = some (d, ps)) (e : d = .held x) : v = x ∧ ps = [] := by
 have h1 := Option.some.inj h
 have h2 : DataW.held v = d := congrArg Prod.fst h1
 rw [e] at h2
 exact ⟨by injection h2, (congrArg Prod.snd h1).symm⟩
set_option maxRecDepth 100000 in
set_option maxHeartbeats 8000000 in
theorem eqM_any {f : Nat} (hS : SameOk f) {w : World} {F F' : Nat → Prop} {m m' n n' : Nat} {D D' : List (Lit × DataW Value)} {es es' : List (Lit × Sp.V)} (ho : w.ownsMap Tryz.prog 9 RV m n (.map D)) (ho' : w.ownsMap Tryz.prog 9 RV m' n' (.map D'))
  (hp : Pt (Rep f F w) D es) (hp' : Pt (Rep f F' w) D' es') :
  Calls Tryz.prog 113 #[.map (some m), .map (some m'), .func (.func 82) #[] #[]] w fun e w' => e = .returned (.bool (veq (Sp.vObj es) (Sp.vObj es'))) ∧ Below w.heap.size w w' := by
 have hml := mlaw
 have hmz := mzero
 have l1 := fun ty => ho.len (t := 109) Tryz.underlying109 ty
 have l2 := fun ty => ho'.len (t := 109) Tryz.underlying109 ty
 have hmb := ho'.lt
 have C1 := hide (hp.canon (ho.canon hml))
 have C2 := hide (hp'.canon (ho'.canon hml))
 have HP := hide hp
 have HP' := hide hp'
 have HS := hide hS
 have L1 := hide hp.size
 have L2 := hide hp'.size
 clear hp hp' hS
 by_cases hsz : Maps.size (.map D : DataW Value) = Maps.size (.map D' : DataW Value)
 ·have HZ := hide hsz
  go_enter Tryz.func113, Tryz.ntmps113
  go_wp2_with (first
   | (at_range; refine wpList_range_own _ rfl _ 109 rfl 9 80 hml Tryz.underlying109 RV m n _ rfl ho ?_; intro w0 hrg0 hg0 hs0)
   | go_in)
  go_frame
  go_loopw [18] (fun _ wr => ∃ (left : Lit → Bool) (cnt : Nat), wr.ranges Tryz.prog 9 RV m w.heap.size n (.map D) left cnt ∧ wr.ownsMap Tryz.prog 9 RV m' n' (.map D') ∧ w.grownBy wr none ∧ Hid (Came es es' left))
   (fun _ wr => wr.rangeLeft m w.heap.size)
  case atStart =>
   refine ⟨_, _, hrg0, ho'.kept hg0 (by simp), hg0, ?_⟩
   intro k hk hl
   rw [(unhide HP).has k, hk] at hl
   cases hl
  case round =>
   obtain ⟨left, cnt, hrg, h2r, hgw, G⟩ := hrel
   go_wp2_with (first
    | (at_next; refine wpList_next_ranges _ rfl _ rfl 9 hml RV id id (fun key _ _ => ⟨key, rfl⟩) (fun v _ _ => ⟨v, rfl⟩) m w.heap.size n _ _ _ rfl hrg ?_ ?_)
    | go_in)
   ·intro _ hl0
    have HV := hide (veq_t (obj_same (unhide C1) (unhide C2) (by
     have h1 := unhide L1; have h2 := unhide L2; have h3 : D.length = D'.length := unhide HZ; omega) (fun k hk => unhide G k hk (hl0 k))))
    go_wp2_with (fail)
    go_ret
    exact ⟨by rw [unhide HV]; rfl, below_of_grown hgw⟩
   ·intro x c kl yd yp w1 cnt1 hkey hlx hv hat hrg1 hlt hg1 hs1 hen
    have hgw1 : w.grownBy w1 none := hgw.andThen hg1 (fun j hj => by cases hj; exact Or.inl (Nat.le_refl _))
    have h2w1 := h2r.kept hg1 (fun e => by have := Option.some.inj e; omega)
    have hv2 : DataW.held c = yd := congrArg Prod.fst (Option.some.inj hv)
    subst hv2
    have hasD : Maps.has (.map D) kl = true := has_true_of_atKey hat
    obtain ⟨c', e1, hrep⟩ := (unhide HP).at kl hasD
    have e2 : c' = c := by
     have e3 := (e1 .nil).symm.trans (hat .nil)
     injection e3
    subst e2
    have hasE : Maps.has (.map es : DataW Unit) kl = true := by rw [← (unhide HP).has kl]; exact hasD
    have HAT := hide hat
    have HREP := hide hrep
    have HHE := hide hasE
    have HE1 := hide e1
    clear hat hrep hasE e1 hasD hv
    cases hh : Maps.has (.map D' : DataW Value) kl
    ·have hbad := hide (veq_f (obj_ne (unhide HHE) (fun h => by
      rw [← (unhide HP').has kl, hh] at h; cases h)))
     go_wp2_with (first
      | (at_lookup; refine wpList_lookup_own_ok _ rfl _ _ 109 rfl 9 80 hml Tryz.underlying109 RV (hmz _) (.held (.pointer none)) [] rfl m' n' (.map D') rfl h2w1 _ kl rfl hkey ?_; intro v2 ps2 hv2; rw [hh]; go_frame)
      | go_in)
     go_ret
     exact ⟨by rw [unhide hbad]; rfl, below_of_grown hgw1⟩
    ·obtain ⟨c2, e4, hrep2⟩ := (unhide HP').at kl hh
     have hcall := hide (unhide HS F F' w1 c' c2 _ _ ((unhide HREP).bel (below_of_grown hgw1)) (hrep2.bel (below_of_grown hgw1)))
     have hhE : Maps.has (.map es' : DataW Unit) kl = true := by rw [← (unhide HP').has kl]; exact hh
     have HHE' := hide hhE
     clear hhE hrep2
     by_cases hee : (DataW.map es).atKey kl .nil = (DataW.map es').atKey kl .nil
     ·have hvt := hide (veq_t hee)
      have HEE := hide hee
      clear hee
      go_wp2_with (first
       | (at_lookup; refine wpList_lookup_own_ok _ rfl _ _ 109 rfl 9 80 hml Tryz.underlying109 RV (hmz _) (.held (.pointer none)) [] rfl m' n' (.map D') rfl h2w1 _ kl rfl hkey ?_; intro v2 ps2 hv2; rw [hh]; obtain ⟨rfl, _⟩ := rv_held hv2 (e4 _); go_frame; have hc := unhide hcall; rw [unhide hvt] at hc)
       )
      refine hc.mono ?_
      rintro e w2 ⟨rfl, hb2⟩
      go_wp2_with (fail)
      have hrg2 := hrg1.kept (grown_of_below hb2) (by simp) (by simp)
      have hgw2 := hgw1.andThen (grown_of_below hb2) (fun j hj => by cases hj)
      have h2w2 := h2w1.kept (grown_of_below hb2) (by simp)
      go_roundw
      case rel => exact ⟨_, cnt1, hrg2, h2w2, hgw2, (unhide G).step (unhide HHE') (unhide HEE)⟩
      case measure => rw [hrg2.left_eq, hrg.left_eq]; exact hlt
     ·have hvf := hide (veq_f hee)
      have hbad := hide (veq_f (obj_ne (es' := es') (unhide HHE) (fun _ => hee)))
      clear hee
      go_wp2_with (first
       | (at_lookup; refine wpList_lookup_own_ok _ rfl _ _ 109 rfl 9 80 hml Tryz.underlying109 RV (hmz _) (.held (.pointer none)) [] rfl m' n' (.map D') rfl h2w1 _ kl rfl hkey ?_; intro v2 ps2 hv2; rw [hh]; obtain ⟨rfl, _⟩ := rv_held hv2 (e4 _); go_frame; have hc := unhide hcall; rw [unhide hvf] at hc)
       )
      refine hc.mono ?_
      rintro e w2 ⟨rfl, hb2⟩
      go_wp2_with (fail)
      go_ret
      exact ⟨by rw [unhide hbad]; rfl, below_of_grown (hgw1.andThen (grown_of_below hb2) (fun j hj => by cases hj))⟩
 ·have hne : ¬ ((Maps.size (.map D : DataW Value) : Int) = (Maps.size (.map D' : DataW Value) : Int)) := fun e => hsz (by exact_mod_cast e)
  have HV := hide (veq_f (a := Sp.vObj es) (b := Sp.vObj es') (fun e => by
   unfold Sp.vObj at e
   injection e with e
   have h1 := unhide L1; have h2 := unhide L2
   rw [e] at h1
   exact hsz (show D.length = D'.length by omega)))
  go_enter Tryz.func113, Tryz.ntmps113
  go_wp2_with (fail)
  go_ret
  exact ⟨by rw [unhide HV]; rfl, Below.refl _ _⟩
end Go.Proofs.YtdpomdelmdofmaaGreatDoor

namespace Go.Proofs.YtdpomdelmdofmaaGreatDoor
open Go.RowKit Go.Maps
theorem owns_max {w : World} {B e n : Nat} {v : Value} {xs : List Value} (h : w.ownsRow B e 1 v n xs) : n ≤ maxLen := by
 rcases h.2 with ⟨_, h0⟩ | ⟨g, cap, cur, _, _, _, h4, h5, _⟩
 ·rw [h0]; exact Nat.zero_le _
 ·omega
section
variable {w : World} {b b' : Nat}
set_option maxHeartbeats 4000000 in
theorem same_arr {f : Nat} (hS : SameOk f) {F F' : Nat → Prop} {sl sl' : Value} {ps ps' : List Value} {es es' : List Sp.V} (h : VB w b 5 n0 [] sl (.map none)) (h' : VB w b' 5 n0 [] sl' (.map none))
  (ho : w.ownsRow 0 80 1 sl ps.length ps) (ho' : w.ownsRow 0 80 1 sl' ps'.length ps') (ha : Al (Rep f F w) ps es) (ha' : Al (Rep f F' w) ps' es') :
  Calls Tryz.prog 82 #[.pointer (some ⟨b, 0, none⟩), .pointer (some ⟨b', 0, none⟩)] w fun e w' => e = .returned (.bool (veq (Sp.vArr es) (Sp.vArr es'))) ∧ Below w.heap.size w w' := by
 have c0 := h.c0
 have d0 := h'.c0
 have c5 := h.c5
 have d5 := h'.c5
 have hc := hide (show ∀ w1 : World, Below w.heap.size w w1 → Calls Tryz.prog 112 #[sl, sl', .func (.func 82) #[] #[]] w1 fun e w' => e = .returned (.bool (veq (Sp.vArr es) (Sp.vArr es'))) ∧ Below w1.heap.size w1 w' from fun w1 hb =>
  eqS_any hS (owns_kept ho (fun g hg => hb.block g (owns_lt ho g hg).1)) (owns_kept ho' (fun g hg => hb.block g (owns_lt ho' g hg).1)) (ha.mono fun _ _ h => h.bel hb) (ha'.mono fun _ _ h => h.bel hb) (owns_max ho) (owns_max ho'))
 clear h h' ho ho' ha ha' hS
 generalize veq (Sp.vArr es) (Sp.vArr es') = r at *
 go_enter Tryz.func82, Tryz.ntmps82
 go_wp2_with (fail)
 go_quiet (fail)
 go_wp2_with (fail)
 go_region_with (go_at_call 112; refine (unhide hc _ ?_).mono ?_; exact ⟨rfl, rfl, rfl, Nat.le_refl _, fun _ _ => rfl⟩; rintro e w2 ⟨rfl, hb⟩)
 all_goals (
  replace hb : Below w.heap.size w w2 := ⟨hb.os, hb.tape, hb.output, hb.size, hb.block⟩
  go_wp2_with (fail)
  go_ret
  exact ⟨rfl, hb⟩)
set_option maxHeartbeats 4000000 in
theorem same_obj {f : Nat} (hS : SameOk f) {F F' : Nat → Prop} {m m' n n' : Nat} {D D' : List (Lit × DataW Value)} {es es' : List (Lit × Sp.V)} (h : VB w b 6 n0 [] (.slice none 0 0) (.map (some m))) (h' : VB w b' 6 n0 [] (.slice none 0 0) (.map (some m')))
  (ho : w.ownsMap Tryz.prog 9 RV m n (.map D)) (ho' : w.ownsMap Tryz.prog 9 RV m' n' (.map D')) (hp : Pt (Rep f F w) D es) (hp' : Pt (Rep f F' w) D' es') :
  Calls Tryz.prog 82 #[.pointer (some ⟨b, 0, none⟩), .pointer (some ⟨b', 0, none⟩)] w fun e w' => e = .returned (.bool (veq (Sp.vObj es) (Sp.vObj es'))) ∧ Below w.heap.size w w' := by
 have c0 := h.c0
 have d0 := h'.c0
 have c6 := h.c6
 have d6 := h'.c6
 have hc := hide (show ∀ w1 : World, Below w.heap.size w w1 → Calls Tryz.prog 113 #[.map (some m), .map (some m'), .func (.func 82) #[] #[]] w1 fun e w' => e = .returned (.bool (veq (Sp.vObj es) (Sp.vObj es'))) ∧ Below w1.heap.size w1 w' from fun w1 hb =>
  eqM_any hS (map_kept ho (hb.block m (map_lt ho))) (map_kept ho' (hb.block m' (map_lt ho'))) (hp.mono fun _ _ h => h.bel hb) (hp'.mono fun _ _ h => h.bel hb))
 clear h h' ho ho' hp hp' hS
 generalize veq (Sp.vObj es) (Sp.vObj es') = r at *
 go_enter Tryz.func82, Tryz.ntmps82
 go_wp2_with (fail)
 go_quiet (fail)
 go_wp2_with (fail)
 go_region_with (go_at_call 113; refine (unhide hc _ ?_).mono ?_; exact ⟨rfl, rfl, rfl, Nat.le_refl _, fun _ _ => rfl⟩; rintro e w2 ⟨rfl, hb⟩)
 all_goals (
  replace hb : Below w.heap.size w w2 := ⟨hb.os, hb.tape, hb.output, hb.size, hb.block⟩
  go_wp2_with (fail)
  go_ret
  exact ⟨rfl, hb⟩)
end
theorem vNum_inj {n n' : Sp.Nm} (h : Sp.vNum n = Sp.vNum n') : n = n' := by
 obtain ⟨a, b, c⟩ := n
 obtain ⟨a', b', c'⟩ := n'
 simp only [Sp.vNum, DataW.agg.injEq, List.cons.injEq, DataW.lit.injEq, Lit.bool.injEq, Lit.string.injEq, Lit.int.injEq] at h
 obtain ⟨h1, h2, h3, _⟩ := h
 rw [h1, h2, h3.2]
theorem veq_num (n n' : Sp.Nm) : veq (Sp.vNum n) (Sp.vNum n') = decide (n = n') := by
 by_cases h : n = n'
 ·rw [veq_t (by rw [h]), decide_eq_true h]
 ·rw [veq_f (fun e => h (vNum_inj e)), decide_eq_false h]
theorem veq_str (s s' : Sp.By) : veq (Sp.vStr s) (Sp.vStr s') = (s == s') := by
 by_cases h : s = s'
 ·rw [veq_t (by rw [h]), beq_iff_eq.2 h]
 ·rw [veq_f (fun e => h (by unfold Sp.vStr at e; injection e with e; injection e)), beq_eq_false_iff_ne.2 h]
theorem same_step {f : Nat} (hS : SameOk f) : SameOk (f + 1) := by
 intro F F' w v v' a b ha hb
 obtain ⟨p, rfl, _, ha⟩ := ha
 obtain ⟨p', rfl, _, hb⟩ := hb
 rcases ha with ⟨k, hk, rfl, h⟩ | ⟨n, rfl, h, _⟩ | ⟨s, rfl, h⟩ | ⟨es, sl, ps, rfl, h, ho, _, hal⟩ | ⟨es, m, n, D, rfl, h, _, ho, hp⟩ <;>
  rcases hb with ⟨k', hk', rfl, h'⟩ | ⟨n', rfl, h', _⟩ | ⟨s', rfl, h'⟩ | ⟨es', sl', ps', rfl, h', ho', _, hal'⟩ | ⟨es', m', n', D', rfl, h', _, ho', hp'⟩
 case inl.inl =>
  by_cases e : k = k'
  ·subst e
   rw [veq_t rfl]
   exact same_word hk h h'
  ·rw [veq_f (fun e1 => e (by unfold Sp.vWord at e1; injection e1 with e1; injection e1 with _ e1; omega))]
   exact same_diff h h' (by omega)
 case inr.inl.inr.inl => rw [veq_num]; exact same_num h h'
 case inr.inr.inl.inr.inr.inl => rw [veq_str]; exact same_str h h'
 case inr.inr.inr.inl.inr.inr.inr.inl => exact same_arr hS h h' ho ho' hal hal'
 case inr.inr.inr.inr.inr.inr.inr.inr => exact same_obj hS h h' ho ho' hp hp'
 all_goals (
  rw [veq_f (by intro e; simp [Sp.vWord, Sp.vNum, Sp.vStr, Sp.vArr, Sp.vObj] at e)]
  exact same_diff h h' (by omega))
theorem Same_any : ∀ f, SameOk f
 | 0 => fun _ _ _ _ _ _ _ h => h.elim
 | f + 1 => same_step (Same_any f)
end Go.Proofs.YtdpomdelmdofmaaGreatDoor
/-
  Pointers: an index as a number; what the library tells of digits.
-/
namespace Go.Proofs.YtdpomdelmdofmaaGreatDoor
open Go.RowKit
theorem dropW_nil {α : Type} (p : α → Bool) : ∀ {l : List α}, l.dropWhile p = [] ↔ l.all p = true
 | [] => by simp
 | a :: r => by
  rw [List.dropWhile_cons, List.all_cons]
  cases h : p a
  ·simp
  ·simp only [if_true, Bool.true_and]
   exact dropW_nil p
theorem dropW_head {α : Type} (p : α → Bool) : ∀ {l : List α} {a : α} {r : List α}, l.dropWhile p = a :: r → p a = false
 | [], _, _, h => by cases h
 | b :: s, a, r, h => by
  rw [List.dropWhile_cons] at h
  cases hb : p b
  ·rw [hb] at h
   simp at h
   rw [← h.1]; exact hb
  ·rw [hb] at h
   simp only [if_true] at h
   exact dropW_head p h
theorem trimS_nil (l cs : List UInt8) : Lib.trimS l cs = [] ↔ l.all (cs.contains ·) = true := by
 have h1 : Lib.trimS l cs = ((l.reverse.dropWhile (cs.contains ·)).reverse).dropWhile (cs.contains ·) := rfl
 rw [h1]
 constructor
 ·intro h
  have h2 := (dropW_nil _).1 h
  cases hd : l.reverse.dropWhile (cs.contains ·) with
  | nil =>
   have h3 := (dropW_nil _).1 hd
   simpa using h3
  | cons a r =>
   have h4 := dropW_head _ hd
   rw [hd] at h2
   simp only [List.all_reverse, List.all_cons, Bool.and_eq_true] at h2
   rw [h4] at h2
   cases h2.1
 ·intro h
  have h3 : l.reverse.dropWhile (cs.contains ·) = [] := (dropW_nil _).2 (by simpa using h)
  rw [h3]; rfl
theorem pu_digits : ∀ (l : Sp.By) (acc : Nat), acc < 18446744073709551616 → l.all (Sp.dgs.contains ·) = true →
  (Lib.parseUint10 acc l = .ok (Sp.ixf acc l) ∧ Sp.ixf acc l < 18446744073709551616) ∨ (Lib.parseUint10 acc l = .range ∧ 18446744073709551616 ≤ Sp.ixf acc l)
 | [], acc, ha, _ => Or.inl ⟨rfl, ha⟩
 | c :: r, acc, ha, h => by
  rw [List.all_cons, Bool.and_eq_true] at h
  obtain ⟨hc, hr⟩ := h
  obtain ⟨c1, c2⟩ := Sp.dgs_iff c hc
  have hstep : Sp.ixf acc (c :: r) = Sp.ixf (acc * 10 + (c.toNat - 48)) r := rfl
  rw [hstep]
  have hge : ∀ (l : Sp.By) (a : Nat), a ≤ Sp.ixf a l := by
   intro l
   induction l with
   | nil => intro a; exact Nat.le_refl _
   | cons d s ih => intro a; exact Nat.le_trans (by omega) (ih (a * 10 + (d.toNat - 48)))
  have h0 := hge r (acc * 10 + (c.toNat - 48))
  simp only [Lib.parseUint10]
  rw [if_pos (by omega)]
  split
  ·exact Or.inr ⟨rfl, by omega⟩
  ·split
   ·exact Or.inr ⟨rfl, by omega⟩
   ·exact pu_digits r _ (by omega) hr
theorem atoi_digits {t : Sp.By} (hne : t ≠ []) (h : t.all (Sp.dgs.contains ·) = true) :
  (Lib.atoiAll t = .ok (Sp.ixf 0 t : Nat) ∧ Sp.ixf 0 t < 9223372036854775808) ∨ (Lib.atoiAll t = .range ∧ Lib.atoiSat t = 9223372036854775807 ∧ 9223372036854775808 ≤ Sp.ixf 0 t) := by
 cases t with
 | nil => exact absurd rfl hne
 | cons c r =>
  have hc : Sp.dgs.contains c = true := by rw [List.all_cons, Bool.and_eq_true] at h; exact h.1
  obtain ⟨c1, c2⟩ := Sp.dgs_iff c hc
  have n1 : ¬ (c.toNat = 43 ∨ c.toNat = 45) := by omega
  have n2 : ¬ (c.toNat = 45) := by omega
  have hs : Lib.atoiSat (c :: r) = 9223372036854775807 := by
   unfold Lib.atoiSat
   rw [if_neg (by simp; omega)]
  have hp := pu_digits (c :: r) 0 (by omega) h
  unfold Lib.atoiAll
  simp only [if_neg n1, Lib.parseMag, if_neg (List.cons_ne_nil c r)]
  rcases hp with ⟨e, hl⟩ | ⟨e, hl⟩
  ·rw [e]
   simp only
   by_cases hb : 9223372036854775808 ≤ Sp.ixf 0 (c :: r)
   ·rw [if_pos ⟨n2, hb⟩]
    exact Or.inr ⟨rfl, hs, hb⟩
   ·rw [if_neg (fun h => hb h.2), if_neg (fun h => n2 h.1), if_neg n2]
    exact Or.inl ⟨rfl, by omega⟩
  ·rw [e]
   exact Or.inr ⟨rfl, hs, by omega⟩
end Go.Proofs.YtdpomdelmdofmaaGreatDoor

namespace Go.Proofs.YtdpomdelmdofmaaGreatDoor
open Go.RowKit
theorem trim_any (t : Sp.By) (w : World) (h : t.length ≤ 1048576) :
  Calls Tryz.prog 195 #[.string ⟨t.toArray⟩, .string ⟨#[48, 49, 50, 51, 52, 53, 54, 55, 56, 57]⟩] w fun e w' => e = .returned (.string ⟨(Lib.trimS t Sp.dgs).toArray⟩) ∧ Below w.heap.size w w' :=
 Any.strings_Trim_laid Tryz.lays160 (by kernel_rfl) ⟨t.toArray⟩ ⟨#[48, 49, 50, 51, 52, 53, 54, 55, 56, 57]⟩ w (by rw [bs_size]; omega) (by decide) (ascii_of_all (by decide))
theorem Rng.kept {w w' : World} (h : Rng w) (hb : Below w.heap.size w w') : Rng w' := by
 obtain ⟨ev, h1, h2⟩ := h
 refine ⟨ev, ?_, h2⟩
 have : 9 < w.heap.size := Lib.lt_of_cell h1
 exact (hb.cell (p := ⟨9, 0, none⟩) this).trans h1
theorem atoi_any (t : Sp.By) (w : World) (h : t.length ≤ 1048576) (hne : t ≠ []) (hd : t.all (Sp.dgs.contains ·) = true) (hr : Rng w) :
  Calls Tryz.prog 196 #[.string ⟨t.toArray⟩] w fun e w' => ∃ x, e = .returned (.tuple #[.int .i64 (min (Sp.ixf 0 t) 9223372036854775807 : Nat), x]) ∧ Below w.heap.size w w' := by
 obtain ⟨ev, hv, hev⟩ := hr
 rcases atoi_digits hne hd with ⟨h1, h2⟩ | ⟨h1, h2, h3⟩
 ·have hm : min (Sp.ixf 0 t) 9223372036854775807 = Sp.ixf 0 t := by omega
  rw [hm]
  refine Calls.mono (Any.strconv_Atoi_ok Tryz.laysC172 ⟨t.toArray⟩ (by rw [bs_size]; omega) (Sp.ixf 0 t : Nat) h1 w) ?_
  rintro e w' ⟨rfl, hw⟩
  refine ⟨_, rfl, ?_⟩
  rcases hw with rfl | ⟨x, rfl⟩
  ·exact Below.refl _ _
  ·exact Lib.bytesWorld_below _ _ _
 ·have hm : min (Sp.ixf 0 t) 9223372036854775807 = 9223372036854775807 := by omega
  rw [hm]
  refine Calls.mono (Any.strconv_Atoi_range Tryz.laysC172 ⟨t.toArray⟩ (by rw [bs_size]; omega) h1 ev w hv hev) ?_
  rintro e w' ⟨N, rfl, _, _, hb⟩
  rw [show Lib.atoiSat (⟨t.toArray⟩ : ByteArray).data.toList = 9223372036854775807 from h2]
  exact ⟨_, rfl, hb⟩
theorem isE_t {X : ByteArray} (h : X.size = 0) : X.toList.isEmpty = true := by
 rw [ByteArray.toList_eq, List.isEmpty_iff]; exact List.eq_nil_of_length_eq_zero (by rw [← Lib.size_eq]; exact h)
theorem isE_f {X : ByteArray} (h : 0 < X.size) : X.toList.isEmpty = false := by
 rw [ByteArray.toList_eq]
 have := Lib.size_eq X
 cases hl : X.data.toList with
 | nil => rw [hl, List.length_nil] at this; omega
 | cons a r => rfl
def idxV (o : Option Nat) : Value := match o with
 | none => .tuple #[.int .i64 0, .bool false]
 | some n => .tuple #[.int .i64 n, .bool true]
set_option maxRecDepth 100000 in
set_option maxHeartbeats 8000000 in
theorem Index_any (t : Sp.By) (w : World) (h : t.length ≤ 1048576) (hr : Rng w) :
  Calls Tryz.prog 147 #[.string ⟨t.toArray⟩] w fun e w' => e = .returned (idxV (Sp.idx t)) ∧ Below w.heap.size w w' := by
 match t, h with
 | [], _ =>
  rw [Sp.idx_none (Or.inl rfl)]
  have e1 := isE_t (X := ⟨([] : Sp.By).toArray⟩) rfl
  have e2 : ¬ (1 : Int) < ((⟨([] : Sp.By).toArray⟩ : ByteArray).size : Int) := by decide
  go_enter Tryz.func147, Tryz.ntmps147
  go_wp2_with (fail)
  go_ret2
  exact ⟨rfl, Below.refl _ _⟩
 | c :: r, h =>
  have hsz : (⟨(c :: r).toArray⟩ : ByteArray).size = r.length + 1 := by rw [bs_size]; rfl
  obtain ⟨X, hX⟩ : ∃ X : ByteArray, X = ⟨(c :: r).toArray⟩ := ⟨_, rfl⟩
  have e1 := isE_f (X := X) (by rw [hX, hsz]; omega)
  have hlt0 : 0 < X.size := by rw [hX, hsz]; omega
  have hg : X[0]'hlt0 = c := by subst hX; rfl
  rw [← hX]
  rw [← hX] at hsz
  by_cases hn : 1 < (c :: r).length ∧ c = 48
  ·rw [Sp.idx_none (Or.inr (Or.inl ⟨hn.1, by rw [hn.2]; rfl⟩))]
   have e2 : (1 : Int) < (X.size : Int) := by have := hn.1; simp only [List.length_cons] at this; omega
   have e3 : X[0]'hlt0 = 48 := by rw [hg]; exact hn.2
   clear h hX hg
   go_enter Tryz.func147, Tryz.ntmps147
   go_wp2_with (fail)
   go_ret2
   exact ⟨rfl, Below.refl _ _⟩
  ·have hno : ((decide ((1 : Int) < (X.size : Int))) && (decide (X[0]'hlt0 = 48))) = false := by
    rw [hg, hsz]
    cases r with
    | nil => rfl
    | cons d q =>
     have : c ≠ 48 := fun e => hn ⟨by simp, e⟩
     simp [this]
   have ht := hide (trim_any (c :: r) w h)
   have hx : ¬ (1 : Int) < (X.size : Int) ∨ ((1 : Int) < (X.size : Int) ∧ ¬ ((X[0]'hlt0).toNat : Int) = 48) := by
    by_cases h1 : (1 : Int) < (X.size : Int)
    ·refine Or.inr ⟨h1, fun e => ?_⟩
     have e9 : X[0]'hlt0 = 48 := UInt8.toNat_inj.1 (by have : (48 : UInt8).toNat = 48 := rfl; omega)
     simp [h1, e9] at hno
    ·exact Or.inl h1
   clear hno hg
   by_cases hd : (c :: r).all (Sp.dgs.contains ·) = true
   ·have hne : c :: r ≠ [] := List.cons_ne_nil _ _
    have hi : Sp.idx (c :: r) = some (min (Sp.ixf 0 (c :: r)) 9223372036854775807) := Sp.idx_some (by
     rintro (e | ⟨e1, e2⟩ | e)
     ·cases e
     ·exact hn ⟨e1, by simpa using e2⟩
     ·rw [hd] at e; cases e)
    rw [hi]
    have hat := hide (fun w2 (hb : Below w.heap.size w w2) => atoi_any (c :: r) w2 h hne hd (hr.kept hb))
    rw [(trimS_nil _ _).2 hd] at ht
    have e4 := isE_t (X := ⟨([] : Sp.By).toArray⟩) rfl
    generalize min (Sp.ixf 0 (c :: r)) 9223372036854775807 = nn at *
    rw [← hX] at ht hat
    clear hX hd hne h hn hsz hi hr
    rcases hx with h1 | ⟨h1, h2⟩
    all_goals (
     go_enter Tryz.func147, Tryz.ntmps147
     go_wp2_with (fail)
     refine (unhide ht).mono ?_
     rintro e w2 ⟨rfl, hb⟩
     have HAT := hide (unhide hat w2 hb)
     have HB := hide hb
     clear hat hb
     go_wp2_with (fail)
     refine (unhide HAT).mono ?_
     rintro e w3 ⟨x, rfl, hb3⟩
     go_wp2_with (fail)
     go_ret2
     exact ⟨rfl, (unhide HB).trans (hb3.mono (unhide HB).size)⟩)
   ·have hd2 : (c :: r).all (Sp.dgs.contains ·) = false := by simpa using hd
    rw [Sp.idx_none (Or.inr (Or.inr hd2))]
    have hne : Lib.trimS (c :: r) Sp.dgs ≠ [] := fun e => hd ((trimS_nil _ _).1 e)
    generalize Lib.trimS (c :: r) Sp.dgs = Y at *
    have e4 : Y.isEmpty = false := by cases Y with
     | nil => exact absurd rfl hne
     | cons _ _ => rfl
    rw [← hX] at ht
    clear hX hd hd2 hne h hn hsz hr
    rcases hx with h1 | ⟨h1, h2⟩
    all_goals (
     go_enter Tryz.func147, Tryz.ntmps147
     go_wp2_with (fail)
     refine (unhide ht).mono ?_
     rintro e w2 ⟨rfl, hb⟩
     go_wp2_with (fail)
     go_ret2
     exact ⟨rfl, hb⟩)
end Go.Proofs.YtdpomdelmdofmaaGreatDoor

namespace Go.Proofs.YtdpomdelmdofmaaGreatDoor
open Go.RowKit Go.Maps
def RepE (F : Nat → Prop) (w : World) (v : Value) (d : Sp.V) : Prop := ∃ f, Rep f F w v d
theorem RepE.bel {F : Nat → Prop} {w w' : World} {v : Value} {d : Sp.V} (h : RepE F w v d) (hb : Below w.heap.size w w') : RepE F w' v d := h.imp fun _ h => h.bel hb
def Out (F : Nat → Prop) (r : Except Nat Sp.V) (e : Ending) (w' : World) : Prop := match r with
 | .ok d => ∃ v, e = .returned (.tuple #[v, .int .i64 0]) ∧ RepE F w' v d
 | .error c => e = .returned (.tuple #[.pointer none, .int .i64 c])
theorem tkey (s : Sp.By) (h : s.length ≤ 1048576) : keyOf Tryz.prog 9 (.string ⟨s.toArray⟩) = some (.string s) := by
 have := Go.WideMaps.keyOf_string_mk Tryz.underlying9 (s := ⟨s.toArray⟩) (by rw [bs_size]; unfold maxLen; omega)
 simpa using this
section
variable {w : World} {b : Nat} {F : Nat → Prop} {t : Sp.By}
set_option maxHeartbeats 4000000 in
theorem child_leaf {k : Nat} (hk : k < 5) {n : Sp.Nm} {s : Sp.By} {sl mp : Value} (h : VB w b k n s sl mp) :
  Calls Tryz.prog 111 #[.pointer (some ⟨b, 0, none⟩), .string ⟨t.toArray⟩] w fun e w' => e = .returned (.tuple #[.pointer none, .int .i64 11]) ∧ Below w.heap.size w w' := by
 have c0 := h.c0
 clear h
 have e5 : ((k : Int) == 5) = false := by rw [beq_eq_false_iff_ne]; omega
 have e6 : ((k : Int) == 6) = false := by rw [beq_eq_false_iff_ne]; omega
 go_enter Tryz.func111, Tryz.ntmps111
 go_wp2_with (fail)
 go_ret2
 exact ⟨rfl, Below.refl _ _⟩
set_option maxRecDepth 100000 in
set_option maxHeartbeats 8000000 in
theorem child_obj {f : Nat} {m n : Nat} {D : List (Lit × DataW Value)} {es : List (Lit × Sp.V)} (ht : t.length ≤ 1048576) (h : VB w b 6 n0 [] (.slice none 0 0) (.map (some m))) (ho : w.ownsMap Tryz.prog 9 RV m n (.map D)) (hp : Pt (Rep f F w) D es) :
  Calls Tryz.prog 111 #[.pointer (some ⟨b, 0, none⟩), .string ⟨t.toArray⟩] w fun e w' => Out F (Sp.child (Sp.vObj es) t) e w' ∧ Below w.heap.size w w' := by
 have hml := hide mlaw
 have hmz := hide (fun w => mzero w)
 have c0 := h.c0
 have c6 := h.c6
 have hkl := hide (tkey t ht)
 have HH := hp.has (.string t)
 obtain ⟨R, hR⟩ : ∃ R, R = Sp.child (Sp.vObj es) t := ⟨_, rfl⟩
 rw [← hR]
 unfold Sp.child Sp.vObj at hR
 simp only at hR
 cases hh : Maps.has (.map D : DataW Value) (.string t) with
 | false =>
  rw [hh] at HH
  rw [← HH, if_neg (by decide)] at hR
  have HOUT := hide (show Out F R (.returned (.tuple #[.pointer none, .int .i64 11])) w by rw [hR]; rfl)
  have HO := hide ho
  have HHH := hide hh
  clear hp h hR ho hh HH
  go_enter Tryz.func111, Tryz.ntmps111
  go_wp2_with (first | (at_lookup; refine wpList_lookup_own_ok _ rfl _ _ 109 rfl 9 80 (unhide hml) Tryz.underlying109 RV (unhide hmz _) (.held (.pointer none)) [] rfl m n (.map D) rfl (unhide HO) _ _ rfl (unhide hkl) ?_; intro v2 ps2 hv2; rw [unhide HHH]))
  go_ret2
  exact ⟨unhide HOUT, Below.refl _ _⟩
 | true =>
  rw [hh] at HH
  rw [← HH, if_pos rfl] at hR
  obtain ⟨x, e4, hrep⟩ := hp.at (.string t) hh
  have HOUT := hide (show Out F R (.returned (.tuple #[x, .int .i64 0])) w by rw [hR]; exact ⟨_, rfl, _, hrep⟩)
  have HO := hide ho
  have HHH := hide hh
  clear hp h hR ho hh HH
  go_enter Tryz.func111, Tryz.ntmps111
  go_wp2_with (first | (at_lookup; refine wpList_lookup_own_ok _ rfl _ _ 109 rfl 9 80 (unhide hml) Tryz.underlying109 RV (unhide hmz _) (.held (.pointer none)) [] rfl m n (.map D) rfl (unhide HO) _ _ rfl (unhide hkl) ?_; intro v2 ps2 hv2; rw [unhide HHH]; obtain ⟨rfl, _⟩ := rv_held hv2 (e4 _)))
  go_ret2
  exact ⟨unhide HOUT, Below.refl _ _⟩
theorem child_arr_none {es : List Sp.V} (h : Sp.idx t = none) : Sp.child (Sp.vArr es) t = .error 12 := by unfold Sp.child Sp.vArr; simp only [h]
theorem child_arr_in {es : List Sp.V} {i : Nat} (h : Sp.idx t = some i) (hi : i < es.length) : Sp.child (Sp.vArr es) t = .ok es[i] := by unfold Sp.child Sp.vArr; simp only [h, List.getElem?_eq_getElem hi]
theorem child_arr_out {es : List Sp.V} {i : Nat} (h : Sp.idx t = some i) (hi : ¬ i < es.length) : Sp.child (Sp.vArr es) t = .error 11 := by unfold Sp.child Sp.vArr; simp only [h, List.getElem?_eq_none (Nat.le_of_not_lt hi)]
set_option maxRecDepth 100000 in
set_option maxHeartbeats 8000000 in
theorem child_arr {f : Nat} {sl : Value} {ps : List Value} {es : List Sp.V} (ht : t.length ≤ 1048576) (hr : Rng w) (h : VB w b 5 n0 [] sl (.map none)) (ho : w.ownsRow 0 80 1 sl ps.length ps) (ha : Al (Rep f F w) ps es) :
  Calls Tryz.prog 111 #[.pointer (some ⟨b, 0, none⟩), .string ⟨t.toArray⟩] w fun e w' => Out F (Sp.child (Sp.vArr es) t) e w' ∧ Below w.heap.size w w' := by
 have c0 := h.c0
 have c5 := h.c5
 have hbl := h.lt
 have hal := ha.length
 have hI := hide (Index_any t w ht hr)
 obtain ⟨N, hN⟩ : ∃ N, N = ps.length := ⟨_, rfl⟩
 obtain ⟨R, hR⟩ : ∃ R, R = Sp.child (Sp.vArr es) t := ⟨_, rfl⟩
 rw [← hR]
 have hmx := owns_max ho
 cases hi : Sp.idx t with
 | none =>
  have HOUT := hide (fun w' => show Out F R (.returned (.tuple #[.pointer none, .int .i64 12])) w' by rw [hR, child_arr_none hi]; rfl)
  rw [hi] at hI
  clear ho ha h hR hal hr hi hmx c5
  go_enter Tryz.func111, Tryz.ntmps111
  go_wp2_with (fail)
  refine (unhide hI).mono ?_
  rintro e w2 ⟨rfl, hb⟩
  unfold idxV
  go_wp2_with (fail)
  go_ret2
  exact ⟨unhide HOUT _, hb⟩
 | some i =>
  rw [hi] at hI
  by_cases hin : i < ps.length
  ·obtain ⟨g, cap, rfl, a1, a2, a3, hc⟩ := owns_cell1 ho (by omega)
   have HOUT := hide (fun w' (hb : Below w.heap.size w w') => show Out F R (.returned (.tuple #[ps[i], .int .i64 0])) w' by
    rw [hR, child_arr_in hi (by omega)]
    exact ⟨_, rfl, f, (ha.get i hin (by omega)).bel hb⟩)
   have hci := hc i hin
   have hn1 : (N : Int) ≤ 9223372036854775807 := by unfold maxLen at hmx; omega
   have hlt : (i : Int) < (N : Int) := by omega
   generalize ps[i] = pv at *
   have HC := hide hci
   have HC5 := hide c5
   rw [← hN] at c5 a1
   have HC5 := hide c5
   clear ho ha hR hal hr hi hmx hc hci c5
   go_enter Tryz.func111, Tryz.ntmps111
   go_wp2_with (fail)
   refine (unhide hI).mono ?_
   rintro e w2 ⟨rfl, hb⟩
   have q5 := (hb.cell (p := ⟨b, 5, none⟩) hbl).trans (unhide HC5)
   have qi := (hb.cell (p := ⟨g, i, none⟩) a3).trans (unhide HC)
   have HB := hide hb
   clear hb hN hin h
   unfold idxV
   go_wp2_with (fail)
   go_ret2
   exact ⟨unhide HOUT _ (unhide HB), unhide HB⟩
  ·have HOUT := hide (fun w' => show Out F R (.returned (.tuple #[.pointer none, .int .i64 11])) w' by rw [hR, child_arr_out hi (by omega)]; rfl)
   obtain ⟨g, cap, rfl⟩ := slice_form ho
   have hlt : ¬ (i : Int) < (N : Int) := by omega
   rw [← hN] at c5
   have HC5 := hide c5
   clear ho ha hR hal hr hi hmx c5
   go_enter Tryz.func111, Tryz.ntmps111
   go_wp2_with (fail)
   refine (unhide hI).mono ?_
   rintro e w2 ⟨rfl, hb⟩
   have q5 := (hb.cell (p := ⟨b, 5, none⟩) hbl).trans (unhide HC5)
   have HB := hide hb
   clear hb hN hin h
   unfold idxV
   go_wp2_with (fail)
   go_ret2
   exact ⟨unhide HOUT _, unhide HB⟩
end
theorem Child_any {F : Nat → Prop} {w : World} {v : Value} {d : Sp.V} {t : Sp.By} (ht : t.length ≤ 1048576) (hr : Rng w) (h : RepE F w v d) :
  Calls Tryz.prog 111 #[v, .string ⟨t.toArray⟩] w fun e w' => Out F (Sp.child d t) e w' ∧ Below w.heap.size w w' := by
 obtain ⟨f, h⟩ := h
 cases f with
 | zero => exact h.elim
 | succ f =>
  obtain ⟨p, rfl, _, h⟩ := h
  rcases h with ⟨k, hk, rfl, h⟩ | ⟨n, rfl, h, _⟩ | ⟨s, rfl, h⟩ | ⟨es, sl, ps, rfl, h, ho, _, hal⟩ | ⟨es, m, n, D, rfl, h, _, ho, hp⟩
  ·exact child_leaf (k := k) (by omega) h
  ·exact child_leaf (k := 3) (by omega) h
  ·exact child_leaf (k := 4) (by omega) h
  ·exact child_arr ht hr h ho hal
  ·exact child_obj ht h ho hp
end Go.Proofs.YtdpomdelmdofmaaGreatDoor
