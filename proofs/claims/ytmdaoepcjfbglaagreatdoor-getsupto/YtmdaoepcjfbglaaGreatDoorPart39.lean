/-
  Walk of the program's Same, but for arrays and objects.
  Walk of slices.EqualFunc at the program's Same.
  Walk of maps.EqualFunc at the program's Same: what is of no walk.
-/
import Derived.Test.YtmdaoepcjfbglaaGreatDoorPart18
import Derived.Maps.Range
import Derived.Maps.RangeWalk
import Derived.Maps.Ext
import Derived.Sort.MapsRangeIn
namespace Go.Proofs.YtmdaoepcjfbglaaGreatDoor
open Go.RowKit

/-- cells of a row that is owned -/
theorem owns_cell1 {w : World} {B e n : Nat} {v : Value} {xs : List Value} (h : w.ownsRow B e 1 v n xs) (hpos : 0 < n) : ∃ g cap, v = .slice (some ⟨g, 0, none⟩) n cap ∧ n ≤ cap ∧ cap ≤ maxLen ∧ g < w.heap.size ∧ ∀ k (hk : k < xs.length), w.cell? ⟨g, k, none⟩ = some xs[k] := by
  obtain ⟨hlen, h⟩ := h
  rcases h with ⟨_, h0⟩ | ⟨g, cap, cur, h1, _, h3, h4, h5, h6, h7⟩
  · omega
  · refine ⟨g, cap, h1, h4, h5, (Array.getElem?_eq_some_iff.1 h3).1, fun k hk => ?_⟩
    have hkc : k < cur.size := by rw [h6]; omega
    have e : w.cell? ⟨g, k, none⟩ = cur[k]? := by simp [World.cell?, h3]
    rw [e, Array.getElem?_eq_getElem hkc]
    congr 1
    have h8 : xs[k]? = some cur[k] := by
      rw [← h7, List.getElem?_take, if_pos (by omega)]
      simp
    rw [List.getElem?_eq_getElem hk] at h8
    exact (Option.some.inj h8).symm

section
variable {w : World} {b b' : Nat}

set_option maxHeartbeats 4000000 in
theorem same_diff {k k' : Int} {n n' : Sp.Nm} {s s' : Sp.By} {sl sl' mp mp' : Value} (h : VB w b k n s sl mp) (h' : VB w b' k' n' s' sl' mp') (hk : k ≠ k') :
    Calls Tryz.prog 73 #[.pointer (some ⟨b, 0, none⟩), .pointer (some ⟨b', 0, none⟩)] w fun e w' => e = .returned (.bool false) ∧ Below w.heap.size w w' := by
  have c0 := h.c0
  have d0 := h'.c0
  have e0 : (k == k') = false := beq_eq_false_iff_ne.2 hk
  have e1 : (k != k') = true := by simpa using hk
  clear h h' hk
  go_enter Tryz.func73, Tryz.ntmps73
  go_wp2_with (fail)
  go_quiet (fail)
  go_wp2_with (fail)
  go_ret
  exact ⟨rfl, ⟨rfl, rfl, rfl, Nat.le_refl _, fun _ _ => rfl⟩⟩

set_option maxHeartbeats 4000000 in
theorem same_word {k : Nat} (hk : k < 3) {n n' : Sp.Nm} {s s' : Sp.By} {sl sl' mp mp' : Value} (h : VB w b k n s sl mp) (h' : VB w b' k n' s' sl' mp') :
    Calls Tryz.prog 73 #[.pointer (some ⟨b, 0, none⟩), .pointer (some ⟨b', 0, none⟩)] w fun e w' => e = .returned (.bool true) ∧ Below w.heap.size w w' := by
  have c0 := h.c0
  have d0 := h'.c0
  clear h h'
  have e3 : ((k : Int) == 3) = false := by rw [beq_eq_false_iff_ne]; omega
  have e4 : ((k : Int) == 4) = false := by rw [beq_eq_false_iff_ne]; omega
  have e5 : ((k : Int) == 5) = false := by rw [beq_eq_false_iff_ne]; omega
  have e6 : ((k : Int) == 6) = false := by rw [beq_eq_false_iff_ne]; omega
  go_enter Tryz.func73, Tryz.ntmps73
  go_wp2_with (fail)
  go_quiet (fail)
  go_wp2_with (fail)
  go_ret
  exact ⟨rfl, ⟨rfl, rfl, rfl, Nat.le_refl _, fun _ _ => rfl⟩⟩

set_option maxHeartbeats 4000000 in
theorem same_str {n n' : Sp.Nm} {s s' : Sp.By} {sl sl' mp mp' : Value} (h : VB w b 4 n s sl mp) (h' : VB w b' 4 n' s' sl' mp') :
    Calls Tryz.prog 73 #[.pointer (some ⟨b, 0, none⟩), .pointer (some ⟨b', 0, none⟩)] w fun e w' => e = .returned (.bool (s == s')) ∧ Below w.heap.size w w' := by
  have c0 := h.c0
  have d0 := h'.c0
  have c4 := h.c4
  have d4 := h'.c4
  clear h h'
  go_enter Tryz.func73, Tryz.ntmps73
  go_wp2_with (fail)
  go_quiet (fail)
  go_wp2_with (fail)
  go_quiet (fail)
  go_wp2_with (fail)
  go_ret
  exact ⟨by first | rfl | simp, ⟨rfl, rfl, rfl, Nat.le_refl _, fun _ _ => rfl⟩⟩

set_option maxHeartbeats 4000000 in
theorem same_num {n n' : Sp.Nm} {s s' : Sp.By} {sl sl' mp mp' : Value} (h : VB w b 3 n s sl mp) (h' : VB w b' 3 n' s' sl' mp') :
    Calls Tryz.prog 73 #[.pointer (some ⟨b, 0, none⟩), .pointer (some ⟨b', 0, none⟩)] w fun e w' => e = .returned (.bool (decide (n = n'))) ∧ Below w.heap.size w w' := by
  have c0 := h.c0
  have d0 := h'.c0
  have c1 := h.c1
  have d1 := h'.c1
  have c2 := h.c2
  have d2 := h'.c2
  have c3 := h.c3
  have d3 := h'.c3
  clear h h'
  obtain ⟨na, nb, nc⟩ := n
  obtain ⟨na', nb', nc'⟩ := n'
  simp only at c1 c2 c3 d1 d2 d3
  by_cases h2 : nb = nb'
  · have f2 : (nb == nb') = true := beq_iff_eq.2 h2
    by_cases h3 : nc = nc'
    · have f3 : (nc == nc') = true := beq_iff_eq.2 h3
      subst h2
      subst h3
      cases na <;> cases na'
      all_goals (
        go_enter Tryz.func73, Tryz.ntmps73
        go_wp2_with (fail)
        go_quiet (fail)
        go_wp2_with (fail)
        go_quiet (fail)
        go_wp2_with (fail)
        go_ret
        exact ⟨by simp, ⟨rfl, rfl, rfl, Nat.le_refl _, fun _ _ => rfl⟩⟩)
    · have f3 : (nc == nc') = false := beq_eq_false_iff_ne.2 h3
      subst h2
      have H3 := hide h3
      clear h3
      cases na <;> cases na'
      all_goals (
        go_enter Tryz.func73, Tryz.ntmps73
        go_wp2_with (fail)
        go_quiet (fail)
        go_wp2_with (fail)
        go_quiet (fail)
        go_wp2_with (fail)
        go_ret
        exact ⟨by have := unhide H3; simp [this], ⟨rfl, rfl, rfl, Nat.le_refl _, fun _ _ => rfl⟩⟩)
  · have f2 : (nb == nb') = false := beq_eq_false_iff_ne.2 h2
    have H2 := hide h2
    clear h2
    cases na <;> cases na'
    all_goals (
      go_enter Tryz.func73, Tryz.ntmps73
      go_wp2_with (fail)
      go_quiet (fail)
      go_wp2_with (fail)
      go_quiet (fail)
      go_wp2_with (fail)
      go_ret
      exact ⟨by have := unhide H2; simp [this], ⟨rfl, rfl, rfl, Nat.le_refl _, fun _ _ => rfl⟩⟩)
end

end Go.Proofs.YtmdaoepcjfbglaaGreatDoor

namespace Go.Proofs.YtmdaoepcjfbglaaGreatDoor
open Go.RowKit

/-- Same, f levels deep. -/
def SameOk (f : Nat) : Prop := ∀ (F F' : Nat → Prop) (w : World) (v v' : Value) (a b : Sp.V), Rep f F w v a → Rep f F' w v' b → Calls Tryz.prog 73 #[v, v'] w fun e w' => e = .returned (.bool (veq a b)) ∧ Below w.heap.size w w'
theorem Rep.bel {f : Nat} {F : Nat → Prop} {w w' : World} {v : Value} {d : Sp.V} (h : Rep f F w v d) (hb : Below w.heap.size w w') : Rep f F w' v d := h.move fun k h1 h2 => ⟨hb.block k h2, h1⟩

theorem slice_nil {w : World} {B e n : Nat} {v : Value} {xs : List Value} (h : w.ownsRow B e 1 v n xs) (h0 : n = 0) : ∃ a c, v = .slice a 0 c := by
  rcases h.2 with ⟨e, _⟩ | ⟨g, cap, cur, e, _⟩
  · exact ⟨none, 0, e⟩
  · exact ⟨_, cap, by rw [e, h0]⟩
theorem slice_form {w : World} {B e n : Nat} {v : Value} {xs : List Value} (h : w.ownsRow B e 1 v n xs) : ∃ a c, v = .slice a n c := by
  rcases h.2 with ⟨e, h0⟩ | ⟨g, cap, cur, e, _⟩
  · exact ⟨none, 0, by rw [e, h0]⟩
  · exact ⟨_, cap, e⟩

set_option maxRecDepth 100000 in
set_option maxHeartbeats 8000000 in
theorem eqS_any {f : Nat} (hS : SameOk f) {w : World} {F F' : Nat → Prop} {B B' : Nat} {sl sl' : Value} {ps ps' : List Value} {es es' : List Sp.V} (ho : w.ownsRow B 76 1 sl ps.length ps) (ho' : w.ownsRow B' 76 1 sl' ps'.length ps')
    (ha : Al (Rep f F w) ps es) (ha' : Al (Rep f F' w) ps' es') (hmx : ps.length ≤ maxLen) (hmx' : ps'.length ≤ maxLen) :
    Calls Tryz.prog 100 #[sl, sl', .func (.func 73) #[] #[]] w fun e w' => e = .returned (.bool (veq (Sp.vArr es) (Sp.vArr es'))) ∧ Below w.heap.size w w' := by
  have hl := ha.length
  have hl' := ha'.length
  obtain ⟨N, hN⟩ : ∃ N, N = ps.length := ⟨_, rfl⟩
  obtain ⟨N', hN'⟩ : ∃ N', N' = ps'.length := ⟨_, rfl⟩
  have hn1 : (N : Int) ≤ 9223372036854775807 := by unfold maxLen at hmx; omega
  have hn2 : (N' : Int) ≤ 9223372036854775807 := by unfold maxLen at hmx'; omega
  by_cases hne : N = N'
  · by_cases h0 : N = 0
    · obtain ⟨a, c, rfl⟩ := slice_nil ho (by omega)
      obtain ⟨a', c', rfl⟩ := slice_nil ho' (by omega)
      have e1 : es = [] := List.eq_nil_of_length_eq_zero (by omega)
      have e2 : es' = [] := List.eq_nil_of_length_eq_zero (by omega)
      have HV := hide (veq_t (show Sp.vArr es = Sp.vArr es' by rw [e1, e2]))
      rw [← hN, h0] at ho
      rw [← hN', ← hne, h0] at ho'
      clear ho ho' ha ha' hl hl' e1 e2 hS hN hN' hne
      go_enter Tryz.func100, Tryz.ntmps100
      go_wp2_with (fail)
      refine wp_loop_rounds 1 ?_
      rw [rounds_succ]
      go_wp2_with (fail)
      go_ret
      exact ⟨by rw [unhide HV]; rfl, Below.refl _ _⟩
    · obtain ⟨g1, p1, rfl, a1, b1, l1, hc1⟩ := owns_cell1 ho (by omega)
      obtain ⟨g2, p2, rfl, a2, b2, l2, hc2⟩ := owns_cell1 ho' (by omega)
      have HC1 := hide hc1
      have HC2 := hide hc2
      have HA := hide ha
      have HA' := hide ha'
      have HS := hide hS
      have HN := hide hN
      have HN' := hide hN'
      have HL := hide hl
      have HL' := hide hl'
      rw [← hN] at a1 ⊢
      rw [← hN'] at a2 ⊢
      subst hne
      clear ho ho' ha ha' hl hl' hS hN hN' hc1 hc2 h0
      go_enter Tryz.func100, Tryz.ntmps100
      go_wp2_with (fail)
      go_loopw [17] (fun i wr => ∃ k : Nat, k ≤ N ∧ i = .int .i64 k ∧ es.take k = es'.take k ∧ Below w.heap.size w wr) (fun i _ => N - (intOf i).toNat)
      case atStart => exact ⟨0, by omega, rfl, by simp, Below.refl _ _⟩
      case round =>
        obtain ⟨k, hk, rfl, heq, hb⟩ := hrel
        have HEQ := hide heq
        have HB := hide hb
        clear heq
        by_cases hlt : k < N
        · have h1 : k < ps.length := by have := unhide HN; omega
          have h2 : k < ps'.length := by have := unhide HN'; omega
          have h3 : k < es.length := by have := unhide HL; omega
          have h4 : k < es'.length := by have := unhide HL'; omega
          have q1 := (hb.cell (p := ⟨g1, k, none⟩) l1).trans (unhide HC1 k h1)
          have q2 := (hb.cell (p := ⟨g2, k, none⟩) l2).trans (unhide HC2 k h2)
          have hcall := hide (unhide HS F F' wr ps[k] ps'[k] es[k] es'[k] (((unhide HA).get k h1 h3).bel hb) (((unhide HA').get k h2 h4).bel hb))
          have hst : es.take (k + 1) = es'.take (k + 1) ↔ es[k] = es'[k] := by
            rw [List.take_succ_eq_append_getElem h3, List.take_succ_eq_append_getElem h4, unhide HEQ]
            exact ⟨fun h => List.singleton_inj.1 (List.append_cancel_left h), fun h => by rw [h]⟩
          have HST := hide hst
          generalize ps[k] = pk at *
          generalize ps'[k] = pk' at *
          clear hst hb
          go_wp2_with (fail)
          refine (unhide hcall).mono ?_
          rintro e w2 ⟨rfl, hb2⟩
          have HB2 := hide ((unhide HB).trans (hb2.mono (unhide HB).size))
          clear hb2 hcall
          by_cases hee : es[k] = es'[k]
          · rw [veq_t hee]
            have HST2 := hide ((unhide HST).2 hee)
            clear hee
            go_wp2_with (fail)
            exact ⟨⟨k + 1, by omega, by go_num, unhide HST2, unhide HB2⟩, by simp only [intOf]; omega⟩
          · rw [veq_f hee]
            have HV := hide (veq_f (a := Sp.vArr es) (b := Sp.vArr es') (fun h => by
              have h5 : es = es' := by unfold Sp.vArr at h; injection h
              exact hee (by subst h5; rfl)))
            clear hee
            go_wp2_with (fail)
            go_ret
            exact ⟨by rw [unhide HV]; rfl, unhide HB2⟩
        · have HV := hide (veq_t (show Sp.vArr es = Sp.vArr es' by
            have h5 := unhide HEQ
            rw [List.take_of_length_le (by have := unhide HN; have := unhide HL; omega), List.take_of_length_le (by have := unhide HN'; have := unhide HL'; omega)] at h5
            rw [h5]))
          go_wp2_with (fail)
          go_ret
          exact ⟨by rw [unhide HV]; rfl, hb⟩
  · obtain ⟨a, c, rfl⟩ := slice_form ho
    obtain ⟨a', c', rfl⟩ := slice_form ho'
    have HV := hide (veq_f (a := Sp.vArr es) (b := Sp.vArr es') (fun h => by
      have h5 : es = es' := by unfold Sp.vArr at h; injection h
      rw [h5] at hl
      omega))
    have e0 : ((N : Int) == (N' : Int)) = false := by rw [beq_eq_false_iff_ne]; omega
    have e1 : ((N : Int) != (N' : Int)) = true := by rw [bne_iff_ne]; omega
    rw [← hN, ← hN']
    clear ho ho' ha ha' hl hl' hS hN hN' hne
    go_enter Tryz.func100, Tryz.ntmps100
    go_wp2_with (fail)
    go_ret
    exact ⟨by rw [unhide HV]; rfl, Below.refl _ _⟩

end Go.Proofs.YtmdaoepcjfbglaaGreatDoor

namespace Go.Proofs.YtmdaoepcjfbglaaGreatDoor
open Go.RowKit Go.Maps

/-- what is in a list without doubles, is in one no longer that holds all of it: and the other way -/
theorem sub_turn {α : Type} : ∀ {l m : List α}, l.Pairwise (· ≠ ·) → (∀ x ∈ l, x ∈ m) → m.length ≤ l.length → ∀ x ∈ m, x ∈ l
  | [], m, _, _, h, x, hx => by
    have : m = [] := List.eq_nil_of_length_eq_zero (by simpa using h)
    rw [this] at hx; exact hx
  | a :: l, m, hp, hs, h, x, hx => by
    obtain ⟨h1, h2⟩ := List.pairwise_cons.1 hp
    obtain ⟨m1, m2, rfl⟩ := List.append_of_mem (hs a (List.mem_cons_self ..))
    have ih := sub_turn (l := l) (m := m1 ++ m2) h2 (fun y hy => by
      have h3 := hs y (List.mem_cons_of_mem _ hy)
      have h4 := h1 y hy
      simp only [List.mem_append, List.mem_cons] at h3 ⊢
      rcases h3 with h3 | h3 | h3
      · exact Or.inl h3
      · exact absurd h3.symm h4
      · exact Or.inr h3) (by simp only [List.length_append, List.length_cons] at h ⊢; omega)
    simp only [List.mem_append, List.mem_cons] at hx ⊢
    rcases hx with hx | hx | hx
    · exact Or.inr (ih x (by simp [hx]))
    · exact Or.inl hx
    · exact Or.inr (ih x (by simp [hx]))

theorem Pt.fsts {P : Value → Sp.V → Prop} : ∀ {l : List (Lit × DataW Value)} {m : List (Lit × Sp.V)}, Pt P l m → l.map Prod.fst = m.map Prod.fst
  | [], [], _ => rfl
  | a :: _, b :: _, ⟨⟨k, _⟩, t⟩ => by
    have := Pt.fsts t
    simp only [List.map_cons]
    rw [k, this]
theorem Pt.size {P : Value → Sp.V → Prop} {l : List (Lit × DataW Value)} {m : List (Lit × Sp.V)} (h : Pt P l m) : l.length = m.length := by
  have := congrArg List.length h.fsts
  simpa using this
theorem atKey_def {H : Type} (es : List (Lit × DataW H)) (k : Lit) (z : DataW H) : (DataW.map es).atKey k z = (match es.find? (fun p => p.1.sameKey k) with | some p => p.2 | none => z) := rfl
theorem find_yes {α : Type} {p : Lit × α → Bool} {a : Lit × α} {l : List (Lit × α)} (h : p a = true) : (a :: l).find? p = some a := List.find?_cons_of_pos h
theorem find_no {α : Type} {p : Lit × α → Bool} {a : Lit × α} {l : List (Lit × α)} (h : ¬ p a = true) : (a :: l).find? p = l.find? p := List.find?_cons_of_neg h
/-- what stands at a key -/
theorem Pt.at {P : Value → Sp.V → Prop} (k : Lit) : ∀ {l : List (Lit × DataW Value)} {m : List (Lit × Sp.V)}, Pt P l m → Maps.has (.map l) k = true → ∃ x, (∀ z, (DataW.map l).atKey k z = .held x) ∧ P x ((DataW.map m).atKey k .nil)
  | [], [], _, h => by cases h
  | a :: r, b :: s, ⟨⟨kk, x, e, g⟩, t⟩, h => by
    by_cases hk : a.1.sameKey k = true
    · refine ⟨x, fun z => ?_, ?_⟩
      · rw [atKey_def, find_yes (p := fun p => p.1.sameKey k) hk]; exact e
      · rw [atKey_def, find_yes (p := fun p => p.1.sameKey k) (by rw [← kk]; exact hk)]; exact g
    · have h2 : Maps.has (.map r) k = true := by
        have h3 : (a.1.sameKey k || r.any fun p => p.1.sameKey k) = true := h
        rw [Bool.eq_false_iff.2 hk, Bool.false_or] at h3
        exact h3
      obtain ⟨x', e1, e2⟩ := Pt.at k t h2
      refine ⟨x', fun z => ?_, ?_⟩
      · rw [atKey_def, find_no (p := fun p => p.1.sameKey k) hk]; exact e1 z
      · rw [atKey_def, find_no (p := fun p => p.1.sameKey k) (by rw [← kk]; exact hk)]; exact e2

theorem Pt.canon {P : Value → Sp.V → Prop} {l : List (Lit × DataW Value)} {m : List (Lit × Sp.V)} (h : Pt P l m) (c : Maps.Canon (.map l : DataW Value)) : Maps.Canon (.map m : DataW Unit) := by
  obtain ⟨es, he, hp, hk⟩ := c
  injection he with he
  subst he
  refine ⟨m, rfl, ?_, ?_⟩
  · have h1 : (l.map Prod.fst).Pairwise (fun a b => a.before b = true) := List.pairwise_map.2 hp
    rw [h.fsts] at h1
    exact List.pairwise_map.1 h1
  · intro p hp2
    have h1 : p.1 ∈ l.map Prod.fst := by rw [h.fsts]; exact List.mem_map.2 ⟨p, hp2, rfl⟩
    obtain ⟨q, hq, e⟩ := List.mem_map.1 h1
    rw [← e]; exact hk q hq

/-- two objects of one size: the one's members stand in the other -/
theorem obj_same {es es' : List (Lit × Sp.V)} (c : Maps.Canon (.map es : DataW Unit)) (c' : Maps.Canon (.map es' : DataW Unit)) (hl : es.length = es'.length)
    (h : ∀ k, Maps.has (.map es : DataW Unit) k = true → Maps.has (.map es' : DataW Unit) k = true ∧ (DataW.map es).atKey k .nil = (DataW.map es').atKey k .nil) : Sp.vObj es = Sp.vObj es' := by
  obtain ⟨_, he, hp, hk⟩ := c
  injection he with he
  subst he
  obtain ⟨_, he, hp', hk'⟩ := c'
  injection he with he
  subst he
  have hap := apart_of_rising hp
  have hap' := apart_of_rising hp'
  have hsub : ∀ p ∈ es, p ∈ es' := fun p hpm => by
    have h1 : Maps.has (.map es : DataW Unit) p.1 = true := List.any_eq_true.2 ⟨p, hpm, WideAt.sameKey_self (hk p hpm)⟩
    obtain ⟨h2, h3⟩ := h p.1 h1
    obtain ⟨q, hq, hs⟩ := List.any_eq_true.1 (show es'.any (fun q => q.1.sameKey p.1) = true from h2)
    have e1 : q.1 = p.1 := WideAt.sameKey_eq hs
    have e2 := WideAt.atKey_mem .nil (hk p hpm) hap (show (p.1, p.2) ∈ es from hpm)
    have e3 := WideAt.atKey_mem .nil (hk' q hq) hap' (show (q.1, q.2) ∈ es' from hq)
    rw [e1] at e3
    rw [e2, e3] at h3
    have : p = q := Prod.ext e1.symm h3
    rw [this]; exact hq
  have hne : es.Pairwise (· ≠ ·) := hap.imp (fun h e => h (congrArg Prod.fst e))
  have hback := sub_turn hne hsub (by omega)
  unfold Sp.vObj
  rw [eq_of_mem_rising hp hp' (fun p => ⟨hsub p, hback p⟩)]

theorem obj_ne {es es' : List (Lit × Sp.V)} {k : Lit} (h1 : Maps.has (.map es : DataW Unit) k = true) (h : Maps.has (.map es' : DataW Unit) k = true → (DataW.map es).atKey k .nil ≠ (DataW.map es').atKey k .nil) : Sp.vObj es ≠ Sp.vObj es' := by
  intro e
  unfold Sp.vObj at e
  injection e with e
  subst e
  exact h h1 rfl

end Go.Proofs.YtmdaoepcjfbglaaGreatDoor
