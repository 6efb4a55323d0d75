/-
  Walk of the reference's own same, but for its way through arrays and objects.
-/
import Derived.Test.YtdpomdelmdofmaaGreatDoorPart51
import Derived.Test.YtdpomdelmdofmaaGreatDoorPart50
import Derived.Test.YtdpomdelmdofmaaGreatDoorPart42
namespace Go.Proofs.YtdpomdelmdofmaaGreatDoor
open Go.RowKit
section
variable {w : World} {b b' n n' c c' : Nat} {kd ds s : Sp.By} {ng : Bool} {x : Int} {ks ks' : Value} {a a' : Option Addr}
set_option maxRecDepth 100000 in
set_option maxHeartbeats 8000000 in
theorem sd_kd {kd' : Sp.By} {ng' : Bool} {ds' : Sp.By} {x' : Int} {s' : Sp.By} (h : OB w b kd ng ds x s ks (.slice a n c)) (h' : OB w b' kd' ng' ds' x' s' ks' (.slice a' n' c')) (hk : kd ≠ kd') :
  Calls Tryz.prog 70 #[.pointer (some ⟨b, 0, none⟩), .pointer (some ⟨b', 0, none⟩)] w fun e w' => e = .returned (.bool false) ∧ Below w.heap.size w w' := by
 have c0 := h.c0
 have c1 := h.c1
 have c2 := h.c2
 have c3 := h.c3
 have c4 := h.c4
 have c6 := h.c6
 have d0 := h'.c0
 have d1 := h'.c1
 have d2 := h'.c2
 have d3 := h'.c3
 have d4 := h'.c4
 have d6 := h'.c6
 have e0 : (kd == kd') = false := beq_eq_false_iff_ne.2 hk
 have e1 : (kd != kd') = true := bne_iff_ne.2 hk
 clear h h' hk
 go_enter Tryz.func70, Tryz.ntmps70
 go_wp2_with (fail)
 simp only [List.append]
 go_quiet (fail)
 go_wp2_with (fail)
 go_ret
 exact ⟨rfl, bel_same⟩
set_option maxRecDepth 100000 in
set_option maxHeartbeats 8000000 in
theorem sd_ng {ng' : Bool} {ds' : Sp.By} {x' : Int} {s' : Sp.By} (h : OB w b kd ng ds x s ks (.slice a n c)) (h' : OB w b' kd ng' ds' x' s' ks' (.slice a' n' c')) (hk : ng ≠ ng') :
  Calls Tryz.prog 70 #[.pointer (some ⟨b, 0, none⟩), .pointer (some ⟨b', 0, none⟩)] w fun e w' => e = .returned (.bool false) ∧ Below w.heap.size w w' := by
 have c0 := h.c0
 have c1 := h.c1
 have c2 := h.c2
 have c3 := h.c3
 have c4 := h.c4
 have c6 := h.c6
 have d0 := h'.c0
 have d1 := h'.c1
 have d2 := h'.c2
 have d3 := h'.c3
 have d4 := h'.c4
 have d6 := h'.c6
 have e0 : (ng == ng') = false := beq_eq_false_iff_ne.2 hk
 have e1 : (ng != ng') = true := bne_iff_ne.2 hk
 clear h h' hk
 go_enter Tryz.func70, Tryz.ntmps70
 go_wp2_with (fail)
 simp only [List.append]
 go_quiet (fail)
 go_wp2_with (fail)
 go_ret
 exact ⟨rfl, bel_same⟩
set_option maxRecDepth 100000 in
set_option maxHeartbeats 8000000 in
theorem sd_ds {ds' : Sp.By} {x' : Int} {s' : Sp.By} (h : OB w b kd ng ds x s ks (.slice a n c)) (h' : OB w b' kd ng ds' x' s' ks' (.slice a' n' c')) (hk : ds ≠ ds') :
  Calls Tryz.prog 70 #[.pointer (some ⟨b, 0, none⟩), .pointer (some ⟨b', 0, none⟩)] w fun e w' => e = .returned (.bool false) ∧ Below w.heap.size w w' := by
 have c0 := h.c0
 have c1 := h.c1
 have c2 := h.c2
 have c3 := h.c3
 have c4 := h.c4
 have c6 := h.c6
 have d0 := h'.c0
 have d1 := h'.c1
 have d2 := h'.c2
 have d3 := h'.c3
 have d4 := h'.c4
 have d6 := h'.c6
 have e0 : (ds == ds') = false := beq_eq_false_iff_ne.2 hk
 have e1 : (ds != ds') = true := bne_iff_ne.2 hk
 clear h h' hk
 go_enter Tryz.func70, Tryz.ntmps70
 go_wp2_with (fail)
 simp only [List.append]
 go_quiet (fail)
 go_wp2_with (fail)
 go_ret
 exact ⟨rfl, bel_same⟩
set_option maxRecDepth 100000 in
set_option maxHeartbeats 8000000 in
theorem sd_x {x' : Int} {s' : Sp.By} (h : OB w b kd ng ds x s ks (.slice a n c)) (h' : OB w b' kd ng ds x' s' ks' (.slice a' n' c')) (hk : x ≠ x') :
  Calls Tryz.prog 70 #[.pointer (some ⟨b, 0, none⟩), .pointer (some ⟨b', 0, none⟩)] w fun e w' => e = .returned (.bool false) ∧ Below w.heap.size w w' := by
 have c0 := h.c0
 have c1 := h.c1
 have c2 := h.c2
 have c3 := h.c3
 have c4 := h.c4
 have c6 := h.c6
 have d0 := h'.c0
 have d1 := h'.c1
 have d2 := h'.c2
 have d3 := h'.c3
 have d4 := h'.c4
 have d6 := h'.c6
 have e0 : (x == x') = false := beq_eq_false_iff_ne.2 hk
 have e1 : (x != x') = true := bne_iff_ne.2 hk
 clear h h' hk
 go_enter Tryz.func70, Tryz.ntmps70
 go_wp2_with (fail)
 simp only [List.append]
 go_quiet (fail)
 go_wp2_with (fail)
 go_ret
 exact ⟨rfl, bel_same⟩
set_option maxRecDepth 100000 in
set_option maxHeartbeats 8000000 in
theorem sd_s {s' : Sp.By} (h : OB w b kd ng ds x s ks (.slice a n c)) (h' : OB w b' kd ng ds x s' ks' (.slice a' n' c')) (hk : s ≠ s') :
  Calls Tryz.prog 70 #[.pointer (some ⟨b, 0, none⟩), .pointer (some ⟨b', 0, none⟩)] w fun e w' => e = .returned (.bool false) ∧ Below w.heap.size w w' := by
 have c0 := h.c0
 have c1 := h.c1
 have c2 := h.c2
 have c3 := h.c3
 have c4 := h.c4
 have c6 := h.c6
 have d0 := h'.c0
 have d1 := h'.c1
 have d2 := h'.c2
 have d3 := h'.c3
 have d4 := h'.c4
 have d6 := h'.c6
 have e0 : (s == s') = false := beq_eq_false_iff_ne.2 hk
 have e1 : (s != s') = true := bne_iff_ne.2 hk
 clear h h' hk
 go_enter Tryz.func70, Tryz.ntmps70
 go_wp2_with (fail)
 simp only [List.append]
 go_quiet (fail)
 go_wp2_with (fail)
 go_ret
 exact ⟨rfl, bel_same⟩
set_option maxRecDepth 100000 in
set_option maxHeartbeats 8000000 in
theorem sd_n (h : OB w b kd ng ds x s ks (.slice a n c)) (h' : OB w b' kd ng ds x s ks' (.slice a' n' c')) (hk : n ≠ n') :
  Calls Tryz.prog 70 #[.pointer (some ⟨b, 0, none⟩), .pointer (some ⟨b', 0, none⟩)] w fun e w' => e = .returned (.bool false) ∧ Below w.heap.size w w' := by
 have c0 := h.c0
 have c1 := h.c1
 have c2 := h.c2
 have c3 := h.c3
 have c4 := h.c4
 have c6 := h.c6
 have d0 := h'.c0
 have d1 := h'.c1
 have d2 := h'.c2
 have d3 := h'.c3
 have d4 := h'.c4
 have d6 := h'.c6
 have e0 : ((n : Int) == (n' : Int)) = false := by rw [beq_eq_false_iff_ne]; omega
 have e1 : ((n : Int) != (n' : Int)) = true := by rw [bne_iff_ne]; omega
 clear h h' hk
 go_enter Tryz.func70, Tryz.ntmps70
 go_wp2_with (fail)
 simp only [List.append]
 go_quiet (fail)
 go_wp2_with (fail)
 go_ret
 exact ⟨rfl, bel_same⟩
set_option maxRecDepth 100000 in
set_option maxHeartbeats 8000000 in
theorem ss_leaf (h : OB w b kd ng ds x s ks (.slice a 0 c)) (h' : OB w b' kd ng ds x s ks' (.slice a' 0 c')) :
  Calls Tryz.prog 70 #[.pointer (some ⟨b, 0, none⟩), .pointer (some ⟨b', 0, none⟩)] w fun e w' => e = .returned (.bool true) ∧ Below w.heap.size w w' := by
 have c0 := h.c0
 have c1 := h.c1
 have c2 := h.c2
 have c3 := h.c3
 have c4 := h.c4
 have c6 := h.c6
 have d0 := h'.c0
 have d1 := h'.c1
 have d2 := h'.c2
 have d3 := h'.c3
 have d4 := h'.c4
 have d6 := h'.c6
 clear h h'
 go_enter Tryz.func70, Tryz.ntmps70
 go_wp2_with (fail)
 simp only [List.append]
 go_quiet (fail)
 go_wp2_with (fail)
 refine wp_loop_rounds 1 ?_
 rw [rounds_succ]
 go_wp2_with (fail)
 go_ret
 exact ⟨rfl, bel_same⟩
end
end Go.Proofs.YtdpomdelmdofmaaGreatDoor

namespace Go.Proofs.YtdpomdelmdofmaaGreatDoor
open Go.RowKit
def RsOk (f : Nat) : Prop := ∀ (F F' : Nat → Prop) (w : World) (v v' : Value) (a b : Sp.O), ORep f F w v a → ORep f F' w v' b → Sp.goO f a → Sp.goO f b →
 Calls Tryz.prog 70 #[v, v'] w fun e w' => e = .returned (.bool (veq (Sp.nrm f a) (Sp.nrm f b))) ∧ Below w.heap.size w w'
theorem arr_eq {f : Nat} {es es' : List Sp.O} (h : es.map (Sp.nrm f) = es'.map (Sp.nrm f)) : Sp.nrm (f + 1) (Sp.oArr es) = Sp.nrm (f + 1) (Sp.oArr es') := by
 show Sp.vArr _ = Sp.vArr _
 rw [h]
theorem arr_ne {f : Nat} {es es' : List Sp.O} (h : es.map (Sp.nrm f) ≠ es'.map (Sp.nrm f)) : Sp.nrm (f + 1) (Sp.oArr es) ≠ Sp.nrm (f + 1) (Sp.oArr es') := by
 intro e
 have e2 : Sp.vArr (es.map (Sp.nrm f)) = Sp.vArr (es'.map (Sp.nrm f)) := e
 unfold Sp.vArr at e2
 injection e2 with e2
 exact h e2
section
variable {w : World} {b b' : Nat} {F F' : Nat → Prop}
set_option maxRecDepth 100000 in
set_option maxHeartbeats 16000000 in
theorem ss_arr {f : Nat} (hS : RsOk f) {sl sl' : Value} {ps ps' : List Value} {es es' : List Sp.O} (h : OB w b Sp.kdA false [] 0 [] nilS sl) (h' : OB w b' Sp.kdA false [] 0 [] nilS sl')
  (ho : w.ownsRow 0 66 1 sl ps.length ps) (ho' : w.ownsRow 0 66 1 sl' ps'.length ps') (hal : Al (ORep f F w) ps es) (hal' : Al (ORep f F' w) ps' es') (hg : ∀ e ∈ es, Sp.goO f e) (hg' : ∀ e ∈ es', Sp.goO f e) :
  Calls Tryz.prog 70 #[.pointer (some ⟨b, 0, none⟩), .pointer (some ⟨b', 0, none⟩)] w fun e w' => e = .returned (.bool (veq (Sp.nrm (f + 1) (Sp.oArr es)) (Sp.nrm (f + 1) (Sp.oArr es')))) ∧ Below w.heap.size w w' := by
 have hl := hal.length
 have hl' := hal'.length
 by_cases hn : ps.length = ps'.length
 rotate_left
 ·obtain ⟨a, c, rfl⟩ := slice_form ho
  obtain ⟨a', c', rfl⟩ := slice_form ho'
  rw [veq_f (arr_ne (fun e => hn (by have := congrArg List.length e; simp at this; omega)))]
  exact sd_n h h' hn
 by_cases h0 : ps.length = 0
 ·have e1 : es = [] := List.eq_nil_of_length_eq_zero (by omega)
  have e2 : es' = [] := List.eq_nil_of_length_eq_zero (by omega)
  subst e1; subst e2
  rw [veq_t rfl]
  obtain ⟨a, c, rfl⟩ := slice_nil ho h0
  obtain ⟨a', c', rfl⟩ := slice_nil ho' (by omega)
  exact ss_leaf h h'
 obtain ⟨g, cap, rfl, a1, a2, a3, hc⟩ := owns_cell1 ho (by omega)
 obtain ⟨g', cap', rfl, b1, b2, b3, hc'⟩ := owns_cell1 ho' (by omega)
 obtain ⟨N, hN⟩ : ∃ N, N = ps.length := ⟨_, rfl⟩
 have hN' : N = ps'.length := by omega
 rw [← hN] at a1 h
 rw [← hN'] at b1 h'
 obtain ⟨R, hR⟩ : ∃ R, R = veq (Sp.nrm (f + 1) (Sp.oArr es)) (Sp.nrm (f + 1) (Sp.oArr es')) := ⟨_, rfl⟩
 rw [← hR]
 have hNb : (N : Int) ≤ 9223372036854775807 := by unfold maxLen at a2; omega
 have hbl := h.lt
 have hbl' := h'.lt
 have HEL := hide (show ∀ k, k < N → ∃ (u u' : Nat) (o o' : Sp.O), es[k]? = some o ∧ es'[k]? = some o' ∧ w.cell? ⟨g, k, none⟩ = some (.pointer (some ⟨u, 0, none⟩)) ∧ w.cell? ⟨g', k, none⟩ = some (.pointer (some ⟨u', 0, none⟩)) ∧
   ∀ W, Below w.heap.size w W → Calls Tryz.prog 70 #[.pointer (some ⟨u, 0, none⟩), .pointer (some ⟨u', 0, none⟩)] W fun e w' => e = .returned (.bool (veq (Sp.nrm f o) (Sp.nrm f o'))) ∧ Below W.heap.size W w' from fun k hk => by
  have r1 := hal.get k (by omega) (by omega)
  have r2 := hal'.get k (by omega) (by omega)
  obtain ⟨u, hu, _⟩ := r1.ptr
  obtain ⟨u', hu', _⟩ := r2.ptr
  refine ⟨u, u', es[k]'(by omega), es'[k]'(by omega), List.getElem?_eq_getElem _, List.getElem?_eq_getElem _, by rw [hc k (by omega), hu], by rw [hc' k (by omega), hu'], fun W hW => ?_⟩
  rw [← hu, ← hu']
  exact hS F F' W _ _ _ _ (r1.below hW) (r2.below hW) (hg _ (List.getElem_mem _)) (hg' _ (List.getElem_mem _)))
 have HYES := hide (show (∀ k, k < N → ∃ o o', es[k]? = some o ∧ es'[k]? = some o' ∧ Sp.nrm f o = Sp.nrm f o') → R = true from fun hk => by
  rw [hR, veq_t]
  refine arr_eq (List.ext_getElem? fun k => ?_)
  rw [List.getElem?_map, List.getElem?_map]
  by_cases hkn : k < N
  ·obtain ⟨o, o', e1, e2, e3⟩ := hk k hkn
   rw [e1, e2, Option.map_some, Option.map_some, e3]
  ·rw [List.getElem?_eq_none (by omega), List.getElem?_eq_none (by omega)])
 have HNO := hide (show ∀ (k : Nat) (o o' : Sp.O), es[k]? = some o → es'[k]? = some o' → Sp.nrm f o ≠ Sp.nrm f o' → R = false from fun k o o' e1 e2 e3 => by
  rw [hR, veq_f]
  refine arr_ne fun e => e3 ?_
  have := congrArg (fun l : List Sp.V => l[k]?) e
  simp only [List.getElem?_map, e1, e2, Option.map_some] at this
  exact Option.some.inj this)
 have c0 := h.c0
 have c1 := h.c1
 have c2 := h.c2
 have c3 := h.c3
 have c4 := h.c4
 have c6 := h.c6
 have d0 := h'.c0
 have d1 := h'.c1
 have d2 := h'.c2
 have d3 := h'.c3
 have d4 := h'.c4
 have d6 := h'.c6
 rw [show Sp.kdA = [97, 114, 114, 97, 121] from rfl] at c0 d0
 have C0 := hide c0
 have C6 := hide c6
 have D6 := hide d6
 clear h h' hS ho ho' hal hal' hg hg' hl hl' hn h0 hc hc' hR hN hN'
 go_enter Tryz.func70, Tryz.ntmps70
 go_wp2_with (fail)
 simp only [List.append]
 go_quiet (fail)
 go_wp2_with (fail)
 clear c0 c1 c2 c3 c4 c6 d0 d1 d2 d3 d4 d6
 go_loopw [5] (fun i wr => ∃ k : Nat, k ≤ N ∧ i = .int .i64 k ∧ Hid (Below w.heap.size w wr) ∧ Hid (∀ j, j < k → ∃ o o', es[j]? = some o ∧ es'[j]? = some o' ∧ Sp.nrm f o = Sp.nrm f o')) (fun i _ => N - (intOf i).toNat)
 case atStart => exact ⟨0, by omega, rfl, bel_same, fun j hj => by omega⟩
 case round =>
  obtain ⟨k, hk, rfl, HB, HQ⟩ := hrel
  have x0 := cell_low (unhide HB) _ _ hbl (unhide C0)
  have x6 := cell_low (unhide HB) _ _ hbl (unhide C6)
  have y6 := cell_low (unhide HB) _ _ hbl' (unhide D6)
  by_cases hlt : k < N
  ·obtain ⟨u, u', o, o', e1, e2, q1, q2, hcall⟩ := unhide HEL k hlt
   have z1 := cell_low (unhide HB) _ _ a3 q1
   have z2 := cell_low (unhide HB) _ _ b3 q2
   have HC := hide hcall
   have HE := hide (And.intro e1 e2)
   have hlt2 : (k : Int) < (N : Int) := by omega
   clear q1 q2 hcall e1 e2
   go_wp2_with (fail)
   refine (unhide HC _ (bel_any (unhide HB))).mono ?_
   rintro e w2 ⟨rfl, hb2⟩
   have HB2 := hide ((bel_any (unhide HB)).trans (hb2.mono (bel_any (unhide HB)).size))
   clear hb2 x0 x6 y6 z1 z2
   cases hq : veq (Sp.nrm f o) (Sp.nrm f o') with
   | false =>
    have HF := hide (unhide HNO k o o' (unhide HE).1 (unhide HE).2 (fun e => by rw [veq_t e] at hq; cases hq))
    clear hq
    go_wp2_with (fail)
    go_ret
    exact ⟨by rw [unhide HF]; rfl, unhide HB2⟩
   | true =>
    have HQ2 := hide (show ∀ j, j < k + 1 → ∃ o o', es[j]? = some o ∧ es'[j]? = some o' ∧ Sp.nrm f o = Sp.nrm f o' from fun j hj => by
     by_cases h : j < k
     ·exact unhide HQ j h
     ·obtain rfl : j = k := by omega
      refine ⟨o, o', (unhide HE).1, (unhide HE).2, ?_⟩
      rcases Classical.em (Sp.nrm f o = Sp.nrm f o') with h | h
      ·exact h
      ·rw [veq_f h] at hq; cases hq)
    clear hq
    go_wp2_with (fail)
    exact ⟨⟨k + 1, by omega, by go_num, HB2, HQ2⟩, by simp only [intOf]; omega⟩
  ·obtain rfl : k = N := by omega
   have HT := hide (unhide HYES (unhide HQ))
   have hlt2 : ¬ (k : Int) < (k : Int) := by omega
   go_wp2_with (fail)
   go_ret
   exact ⟨by rw [unhide HT]; rfl, bel_any (unhide HB)⟩
end
end Go.Proofs.YtdpomdelmdofmaaGreatDoor

namespace Go.Proofs.YtdpomdelmdofmaaGreatDoor
open Go.RowKit
section
variable {w : World} {b b' : Nat} {F F' : Nat → Prop}
set_option maxRecDepth 100000 in
set_option maxHeartbeats 16000000 in
theorem ss_obj {f : Nat} (hS : RsOk f) {kl kl' sl sl' : Value} {ps ps' : List Value} {es es' : Sp.Ms} (h : OB w b Sp.kdO false [] 0 [] kl sl) (h' : OB w b' Sp.kdO false [] 0 [] kl' sl')
  (hk : w.ownsRow 0 9 1 kl es.length (es.map fun p => strV p.1)) (hk' : w.ownsRow 0 9 1 kl' es'.length (es'.map fun p => strV p.1))
  (ho : w.ownsRow 0 66 1 sl ps.length ps) (ho' : w.ownsRow 0 66 1 sl' ps'.length ps') (hal : Al (ORep f F w) ps (es.map (·.2))) (hal' : Al (ORep f F' w) ps' (es'.map (·.2)))
  (hnd : (es.map (·.1)).Nodup) (hnd' : (es'.map (·.1)).Nodup) (hg : ∀ p ∈ es, Sp.goO f p.2) (hg' : ∀ p ∈ es', Sp.goO f p.2) :
  Calls Tryz.prog 70 #[.pointer (some ⟨b, 0, none⟩), .pointer (some ⟨b', 0, none⟩)] w fun e w' => e = .returned (.bool (veq (Sp.nrm (f + 1) (Sp.oObj es)) (Sp.nrm (f + 1) (Sp.oObj es')))) ∧ Below w.heap.size w w' := by
 have hl : ps.length = es.length := by have := hal.length; simpa using this
 have hl' : ps'.length = es'.length := by have := hal'.length; simpa using this
 by_cases hn : ps.length = ps'.length
 rotate_left
 ·obtain ⟨a, c, rfl⟩ := slice_form ho
  obtain ⟨a', c', rfl⟩ := slice_form ho'
  rw [veq_f (oobj_len hnd hnd' (by omega))]
  exact sd_n h h' hn
 by_cases h0 : ps.length = 0
 ·have e1 : es = [] := List.eq_nil_of_length_eq_zero (by omega)
  have e2 : es' = [] := List.eq_nil_of_length_eq_zero (by omega)
  subst e1; subst e2
  rw [veq_t rfl]
  obtain ⟨a, c, rfl⟩ := slice_nil ho h0
  obtain ⟨a', c', rfl⟩ := slice_nil ho' (by omega)
  exact ss_leaf h h'
 obtain ⟨g, cap, rfl, a1, a2, a3, hc⟩ := owns_cell1 ho (by omega)
 obtain ⟨g', cap', rfl, b1, b2, b3, hc'⟩ := owns_cell1 ho' (by omega)
 obtain ⟨gk, capk, rfl, k1, k2, k3, hck⟩ := owns_cell1 hk (by omega)
 obtain ⟨N, hN⟩ : ∃ N, N = ps.length := ⟨_, rfl⟩
 have hN' : N = ps'.length := by omega
 have hNe : N = es.length := by omega
 obtain ⟨R, hR⟩ : ∃ R, R = veq (Sp.nrm (f + 1) (Sp.oObj es)) (Sp.nrm (f + 1) (Sp.oObj es')) := ⟨_, rfl⟩
 rw [← hR]
 have hNb : (N : Int) ≤ 9223372036854775807 := by unfold maxLen at a2; omega
 have hbl := h.lt
 have hbl' := h'.lt
 have HEL := hide (show ∀ k, k < N → ∃ (u : Nat) (u' : Value) (p : Sp.By × Sp.O) (fo : Value), es[k]? = some p ∧ w.cell? ⟨gk, k, none⟩ = some (.string ⟨p.1.toArray⟩) ∧ w.cell? ⟨g, k, none⟩ = some (.pointer (some ⟨u, 0, none⟩)) ∧ w.cell? ⟨g', k, none⟩ = some u' ∧
   (∀ W, Below w.heap.size w W → Calls Tryz.prog 95 #[.pointer (some ⟨b', 0, none⟩), .string ⟨p.1.toArray⟩] W fun e w' => e = .returned fo ∧ w' = W) ∧
   ((∃ (y : Sp.O) (u2 : Nat), Sp.mem p.1 es' = some y ∧ fo = .pointer (some ⟨u2, 0, none⟩) ∧ ∀ W, Below w.heap.size w W → Calls Tryz.prog 70 #[.pointer (some ⟨u, 0, none⟩), .pointer (some ⟨u2, 0, none⟩)] W fun e w' => e = .returned (.bool (veq (Sp.nrm f p.2) (Sp.nrm f y))) ∧ Below W.heap.size W w') ∨
    (Sp.mem p.1 es' = none ∧ fo = .pointer none)) from fun k hkN => by
  have hke : k < es.length := by omega
  have r1 := hal.get k (by omega) (by simpa using hke)
  rw [List.getElem_map] at r1
  obtain ⟨u, hu, _⟩ := r1.ptr
  have hgk := hck k (by simpa using hke)
  rw [List.getElem_map] at hgk
  refine ⟨u, ps'[k]'(by omega), es[k], Sp.fstK es[k].1 (es'.map (·.1)) ps', List.getElem?_eq_getElem _, hgk, by rw [hc k (by omega), hu], hc' k (by omega), fun W hW => ?_, ?_⟩
  ·exact rGet_any (h'.kept (hW.block b' hbl')) (ks := es'.map (·.1)) (B1 := 0) (by rw [List.length_map, List.map_map]; exact owns_kept hk' fun g hg => hW.block g (owns_lt hk' g hg).1) (owns_kept ho' fun g hg => hW.block g (owns_lt ho' g hg).1) (by simpa using hl') es[k].1
  ·rcases fst_mem (k := es[k].1) hal' with ⟨y, hy, hrep⟩ | ⟨hy, hu2⟩
   ·obtain ⟨u2, hu2, _⟩ := hrep.ptr
    refine Or.inl ⟨y, u2, hy, hu2, fun W hW => ?_⟩
    rw [← hu, ← hu2]
    exact hS F F' W _ _ _ _ (r1.below hW) (hrep.below hW) (hg _ (List.getElem_mem _)) (hg' _ (mem_some hy))
   ·exact Or.inr ⟨hy, hu2⟩)
 have HYES := hide (show (∀ k, k < N → ∃ p y, es[k]? = some p ∧ Sp.mem p.1 es' = some y ∧ Sp.nrm f p.2 = Sp.nrm f y) → R = true from fun hq => by
  rw [hR, veq_t]
  refine oobj_same hnd hnd' (by omega) fun p hp => ?_
  obtain ⟨k, hk, e⟩ := List.mem_iff_getElem.1 hp
  obtain ⟨q, y, e1, e2, e3⟩ := hq k (by omega)
  rw [List.getElem?_eq_getElem hk] at e1
  obtain rfl : q = p := by rw [← e]; exact (Option.some.inj e1).symm
  exact ⟨y, e2, e3⟩)
 have HNO := hide (show ∀ (k : Nat) (p : Sp.By × Sp.O), es[k]? = some p → (∀ y, Sp.mem p.1 es' = some y → Sp.nrm f p.2 ≠ Sp.nrm f y) → R = false from fun k p e1 e2 => by
  rw [hR, veq_f]
  exact oobj_diff hnd hnd' (List.mem_of_getElem? e1) e2)
 rw [← hN] at a1 h
 rw [← hN'] at b1 h'
 rw [← hNe] at k1 h
 have c0 := h.c0
 have c1 := h.c1
 have c2 := h.c2
 have c3 := h.c3
 have c4 := h.c4
 have c5 := h.c5
 have c6 := h.c6
 have d0 := h'.c0
 have d1 := h'.c1
 have d2 := h'.c2
 have d3 := h'.c3
 have d4 := h'.c4
 have d6 := h'.c6
 rw [show Sp.kdO = [111, 98, 106, 101, 99, 116] from rfl] at c0 d0
 have C0 := hide c0
 have C5 := hide c5
 have C6 := hide c6
 have D6 := hide d6
 clear h h' hS ho ho' hk hk' hal hal' hg hg' hl hl' hn h0 hc hc' hck hR hN hN' hNe hnd hnd'
 go_enter Tryz.func70, Tryz.ntmps70
 go_wp2_with (fail)
 simp only [List.append]
 go_quiet (fail)
 go_wp2_with (fail)
 clear c0 c1 c2 c3 c4 c5 c6 d0 d1 d2 d3 d4 d6
 go_loopw [5] (fun i wr => ∃ k : Nat, k ≤ N ∧ i = .int .i64 k ∧ Hid (Below w.heap.size w wr) ∧ Hid (∀ j, j < k → ∃ p y, es[j]? = some p ∧ Sp.mem p.1 es' = some y ∧ Sp.nrm f p.2 = Sp.nrm f y)) (fun i _ => N - (intOf i).toNat)
 case atStart => exact ⟨0, by omega, rfl, bel_same, fun j hj => by omega⟩
 case round =>
  obtain ⟨k, hk, rfl, HB, HQ⟩ := hrel
  have x0 := cell_low (unhide HB) _ _ hbl (unhide C0)
  have x5 := cell_low (unhide HB) _ _ hbl (unhide C5)
  have x6 := cell_low (unhide HB) _ _ hbl (unhide C6)
  have y6 := cell_low (unhide HB) _ _ hbl' (unhide D6)
  by_cases hlt : k < N
  ·obtain ⟨u, u', p, fo, e1, q0, q1, q2, hget, hcase⟩ := unhide HEL k hlt
   have z0 := cell_low (unhide HB) _ _ k3 q0
   have z1 := cell_low (unhide HB) _ _ a3 q1
   have z2 := cell_low (unhide HB) _ _ b3 q2
   have HGET := hide hget
   have HE := hide e1
   have HCASE := hide hcase
   have hlt2 : (k : Int) < (N : Int) := by omega
   clear q0 q1 q2 hget e1 hcase
   go_wp2_with (fail)
   refine (unhide HGET _ (bel_any (unhide HB))).mono ?_
   rintro e w2 ⟨rfl, rfl⟩
   rcases unhide HCASE with ⟨y, u2, hy, rfl, hcall⟩ | ⟨hy, rfl⟩
   ·have HC := hide hcall
    have HY := hide hy
    clear hcall hy HCASE HGET
    go_wp2_with (fail)
    refine (unhide HC _ (bel_any (unhide HB))).mono ?_
    rintro e w2 ⟨rfl, hb2⟩
    have HB2 := hide ((bel_any (unhide HB)).trans (hb2.mono (bel_any (unhide HB)).size))
    clear hb2 x0 x5 x6 y6 z0 z1 z2
    cases hq : veq (Sp.nrm f p.2) (Sp.nrm f y) with
    | false =>
     have HF := hide (unhide HNO k p (unhide HE) (fun y2 hy2 e => by
      rw [unhide HY] at hy2
      obtain rfl := Option.some.inj hy2
      rw [veq_t e] at hq; cases hq))
     clear hq
     go_wp2_with (fail)
     go_ret
     exact ⟨by rw [unhide HF]; rfl, unhide HB2⟩
    | true =>
     have HQ2 := hide (show ∀ j, j < k + 1 → ∃ p y, es[j]? = some p ∧ Sp.mem p.1 es' = some y ∧ Sp.nrm f p.2 = Sp.nrm f y from fun j hj => by
      by_cases h : j < k
      ·exact unhide HQ j h
      ·obtain rfl : j = k := by omega
       refine ⟨p, y, unhide HE, unhide HY, ?_⟩
       rcases Classical.em (Sp.nrm f p.2 = Sp.nrm f y) with h | h
       ·exact h
       ·rw [veq_f h] at hq; cases hq)
     clear hq
     go_wp2_with (fail)
     exact ⟨⟨k + 1, by omega, by go_num, HB2, HQ2⟩, by simp only [intOf]; omega⟩
   ·have HF := hide (unhide HNO k p (unhide HE) (fun y2 hy2 => by rw [hy] at hy2; cases hy2))
    clear hy HCASE HGET
    go_wp2_with (fail)
    go_ret
    exact ⟨by rw [unhide HF]; rfl, bel_any (unhide HB)⟩
  ·obtain rfl : k = N := by omega
   have HT := hide (unhide HYES (unhide HQ))
   have hlt2 : ¬ (k : Int) < (k : Int) := by omega
   go_wp2_with (fail)
   go_ret
   exact ⟨by rw [unhide HT]; rfl, bel_any (unhide HB)⟩
end
theorem oWord_inj {k k' : Nat} (h : Sp.oWord k = Sp.oWord k') : k = k' := by
 unfold Sp.oWord at h
 injection h with h
 injection h with _ h
 omega
theorem kd_ne : ∀ k : Fin 3, Sp.words.getD k.val [] ≠ Sp.kdN ∧ Sp.words.getD k.val [] ≠ Sp.kdS ∧ Sp.words.getD k.val [] ≠ Sp.kdA ∧ Sp.words.getD k.val [] ≠ Sp.kdO := by decide
theorem kw_ne : ∀ k k' : Fin 3, k ≠ k' → Sp.words.getD k.val [] ≠ Sp.words.getD k'.val [] := by decide
def Sp.tg (d : Sp.V) : Nat := match d with
 | .lit (.int _ _) => 0
 | .agg _ => 1
 | .lit (.string _) => 2
 | .slice _ _ => 3
 | .map _ => 4
 | _ => 5
theorem tg_word (f k : Nat) : Sp.tg (Sp.nrm (f + 1) (Sp.oWord k)) = 0 := rfl
theorem tg_num (f : Nat) (n : Sp.Nm) (x : Int) : Sp.tg (Sp.nrm (f + 1) (Sp.oNum n x)) = 1 := rfl
theorem tg_str (f : Nat) (s : Sp.By) : Sp.tg (Sp.nrm (f + 1) (Sp.oStr s)) = 2 := rfl
theorem tg_arr (f : Nat) (es : List Sp.O) : Sp.tg (Sp.nrm (f + 1) (Sp.oArr es)) = 3 := rfl
theorem tg_obj (f : Nat) (es : Sp.Ms) : Sp.tg (Sp.nrm (f + 1) (Sp.oObj es)) = 4 := by
 obtain ⟨E, hE⟩ := puts_map ((Sp.lits es).map fun p => (p.1, Sp.nrm f p.2)) (Sp.vObj []) ⟨[], rfl⟩
 show Sp.tg (Sp.puts (Sp.vObj []) ((Sp.lits es).map fun p => (p.1, Sp.nrm f p.2))) = 4
 rw [hE]; rfl
theorem rSame_any : ∀ f, RsOk f
 | 0 => fun _ _ _ _ _ _ _ h => h.elim
 | f + 1 => by
  have hS := rSame_any f
  intro F F' w v v' a b ha hb hga hgb
  obtain ⟨p, rfl, _, ha⟩ := ha
  obtain ⟨p', rfl, _, hb⟩ := hb
  rcases ha with ⟨k, hk, rfl, h⟩ | ⟨n, x, rfl, h⟩ | ⟨s, rfl, h⟩ | ⟨es, sl, ps, rfl, h, ho, _, hal⟩ | ⟨es, kl, sl, ps, rfl, h, hok, _, ho, _, hal⟩ <;>
   rcases hb with ⟨k', hk', rfl, h'⟩ | ⟨n', x', rfl, h'⟩ | ⟨s', rfl, h'⟩ | ⟨es', sl', ps', rfl, h', ho', _, hal'⟩ | ⟨es', kl', sl', ps', rfl, h', hok', _, ho', _, hal'⟩
  case inl.inl =>
   by_cases e : k = k'
   ·subst e
    rw [veq_t rfl]
    exact ss_leaf h h'
   ·rw [show veq (Sp.nrm (f + 1) (Sp.oWord k)) (Sp.nrm (f + 1) (Sp.oWord k')) = false from veq_f fun e1 => e (oWord_inj e1)]
    exact sd_kd h h' (kw_ne ⟨k, hk⟩ ⟨k', hk'⟩ (fun e1 => e (by injection e1)))
  case inr.inl.inr.inl =>
   obtain ⟨rfl, _⟩ := go_num_of hga
   obtain ⟨rfl, _⟩ := go_num_of hgb
   obtain ⟨ng, ds, ex⟩ := n
   obtain ⟨ng', ds', ex'⟩ := n'
   by_cases e1 : ng = ng'
   ·subst e1
    by_cases e2 : ds = ds'
    ·subst e2
     by_cases e3 : ex = ex'
     ·subst e3
      rw [veq_t rfl]
      exact ss_leaf h h'
     ·rw [show veq (Sp.nrm (f + 1) (Sp.oNum (ng, ds, ex) _)) (Sp.nrm (f + 1) (Sp.oNum (ng, ds, ex') _)) = false from veq_f fun e => e3 (congrArg (fun n : Sp.Nm => n.2.2) (vNum_inj (show Sp.vNum (ng, ds, ex) = Sp.vNum (ng, ds, ex') from e)))]
      exact sd_x h h' e3
    ·rw [show veq (Sp.nrm (f + 1) (Sp.oNum (ng, ds, ex) _)) (Sp.nrm (f + 1) (Sp.oNum (ng, ds', ex') _)) = false from veq_f fun e => e2 (congrArg (fun n : Sp.Nm => n.2.1) (vNum_inj (show Sp.vNum (ng, ds, ex) = Sp.vNum (ng, ds', ex') from e)))]
     exact sd_ds h h' e2
   ·rw [show veq (Sp.nrm (f + 1) (Sp.oNum (ng, ds, ex) _)) (Sp.nrm (f + 1) (Sp.oNum (ng', ds', ex') _)) = false from veq_f fun e => e1 (congrArg (fun n : Sp.Nm => n.1) (vNum_inj (show Sp.vNum (ng, ds, ex) = Sp.vNum (ng', ds', ex') from e)))]
    exact sd_ng h h' e1
  case inr.inr.inl.inr.inr.inl =>
   by_cases e : s = s'
   ·subst e
    rw [veq_t rfl]
    exact ss_leaf h h'
   ·rw [veq_f (fun e1 => e (by
     have e2 : Sp.vStr s = Sp.vStr s' := e1
     unfold Sp.vStr at e2
     injection e2 with e2
     injection e2))]
    exact sd_s h h' e
  case inr.inr.inr.inl.inr.inr.inr.inl => exact ss_arr hS h h' ho ho' hal hal' (go_arr_of hga) (go_arr_of hgb)
  case inr.inr.inr.inr.inr.inr.inr.inr =>
   obtain ⟨q1, q2⟩ := go_obj_of hga
   obtain ⟨q3, q4⟩ := go_obj_of hgb
   exact ss_obj hS h h' hok hok' ho ho' hal hal' q1 q3 q2 q4
  all_goals (
   first
    | (obtain ⟨_, _, rfl⟩ := slice_form ho)
    | skip
   first
    | (obtain ⟨_, _, rfl⟩ := slice_form ho')
    | skip
   rw [veq_f (fun e => by
    have e2 := congrArg Sp.tg e
    simp only [tg_word, tg_num, tg_str, tg_arr, tg_obj] at e2
    omega)]
   first
    | exact sd_kd h h' (by decide)
    | exact sd_kd h h' (kd_ne ⟨k, hk⟩).1
    | exact sd_kd h h' (kd_ne ⟨k, hk⟩).2.1
    | exact sd_kd h h' (kd_ne ⟨k, hk⟩).2.2.1
    | exact sd_kd h h' (kd_ne ⟨k, hk⟩).2.2.2
    | exact sd_kd h h' (Ne.symm (kd_ne ⟨k', hk'⟩).1)
    | exact sd_kd h h' (Ne.symm (kd_ne ⟨k', hk'⟩).2.1)
    | exact sd_kd h h' (Ne.symm (kd_ne ⟨k', hk'⟩).2.2.1)
    | exact sd_kd h h' (Ne.symm (kd_ne ⟨k', hk'⟩).2.2.2))
end Go.Proofs.YtdpomdelmdofmaaGreatDoor
