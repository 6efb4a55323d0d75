/-
  Walk of the reference's (*Val).Canonical.
-/
import Derived.Test.YtdpomdelmdofmaaGreatDoorPart40
namespace Go.Proofs.YtdpomdelmdofmaaGreatDoor
open Go.RowKit
theorem go_num_of {f : Nat} {n : Sp.Nm} {x : Int} (h : Sp.goO (f + 1) (Sp.oNum n x)) : x = n.2.2 ∧ -400 ≤ n.2.2 ∧ n.2.2 ≤ 400 := by
 rcases h with ⟨k, _, h⟩ | ⟨m, h, h1, h2⟩ | ⟨s, h⟩ | ⟨es, h, _⟩ | ⟨es, h, _⟩
 ·cases h
 ·unfold Sp.oNum at h
  injection h with h
  simp only [List.cons.injEq, DataW.lit.injEq, Lit.bool.injEq, Lit.string.injEq, Lit.int.injEq, true_and, and_true] at h
  obtain ⟨_, _, h3, h4⟩ := h
  rw [h4, h3]
  exact ⟨rfl, h1, h2⟩
 ·cases h
 ·cases h
 ·cases h
theorem go_arr_of {f : Nat} {es : List Sp.O} (h : Sp.goO (f + 1) (Sp.oArr es)) : ∀ e ∈ es, Sp.goO f e := by
 rcases h with ⟨k, _, h⟩ | ⟨m, h, h1, h2⟩ | ⟨s, h⟩ | ⟨es', h, h2⟩ | ⟨es', h, _⟩
 ·cases h
 ·cases h
 ·cases h
 ·have h3 : es = es' := by unfold Sp.oArr at h; injection h
  rw [h3]; exact h2
 ·cases h
theorem go_obj_of {f : Nat} {es : Sp.Ms} (h : Sp.goO (f + 1) (Sp.oObj es)) : (es.map (·.1)).Nodup ∧ ∀ p ∈ es, Sp.goO f p.2 := by
 rcases h with ⟨k, _, h⟩ | ⟨m, h, h1, h2⟩ | ⟨s, h⟩ | ⟨es', h, h2⟩ | ⟨es', h, h2⟩
 ·cases h
 ·cases h
 ·cases h
 ·cases h
 ·have h3 : es = es' := by
   unfold Sp.oObj at h
   injection h with h
   unfold Sp.lits at h
   refine (List.map_inj_right ?_).1 h
   rintro ⟨a, b⟩ ⟨c, d⟩ e
   simp only [Prod.mk.injEq, Lit.string.injEq] at e
   rw [e.1, e.2]
  rw [h3]; exact h2
set_option maxRecDepth 100000 in
set_option maxHeartbeats 8000000 in
theorem can_word_ok {w : World} {b k : Nat} (hk : k < 3) (h : OB w b (Sp.words.getD k []) false [] 0 [] nilS nilS) :
  Calls Tryz.prog 46 #[.pointer (some ⟨b, 0, none⟩)] w fun e w' => e = .returned (.string ⟨(Sp.words.getD k []).toArray⟩) ∧ Below w.heap.size w w' := by
 have c0 := h.c0
 clear h
 match k, hk with
 | 0, _ =>
  rw [show Sp.words.getD 0 [] = [110, 117, 108, 108] from rfl] at c0 ⊢
  go_enter Tryz.func46, Tryz.ntmps46
  go_wp2_with (fail)
  go_ret
  exact ⟨rfl, Below.refl _ _⟩
 | 1, _ =>
  rw [show Sp.words.getD 1 [] = [116, 114, 117, 101] from rfl] at c0 ⊢
  go_enter Tryz.func46, Tryz.ntmps46
  go_wp2_with (fail)
  go_ret
  exact ⟨rfl, Below.refl _ _⟩
 | 2, _ =>
  rw [show Sp.words.getD 2 [] = [102, 97, 108, 115, 101] from rfl] at c0 ⊢
  go_enter Tryz.func46, Tryz.ntmps46
  go_wp2_with (fail)
  go_ret
  exact ⟨rfl, Below.refl _ _⟩
set_option maxHeartbeats 8000000 in
theorem can_num_ok {w : World} {b : Nat} {ng : Bool} {ds : Sp.By} {x : Int} (h : OB w b Sp.kdN ng ds x [] nilS nilS) (hx : -400 ≤ x ∧ x ≤ 400) (hd : ds.length ≤ 80000) (hT : Laid w) :
  Calls Tryz.prog 46 #[.pointer (some ⟨b, 0, none⟩)] w fun e w' => e = .returned (.string ⟨(Sp.numT (ng, ds, x)).toArray⟩) ∧ Below w.heap.size w w' := by
 have c0 := h.c0
 unfold Sp.kdN at c0
 have H := hide (rVTold_any h hx hd hT)
 clear h hT
 go_enter Tryz.func46, Tryz.ntmps46
 go_wp2_with (fail)
 refine (unhide H).mono ?_
 rintro e w1 ⟨rfl, hb⟩
 go_wp2_with (fail)
 go_ret
 exact ⟨rfl, hb⟩
set_option maxHeartbeats 8000000 in
theorem can_str_ok {w : World} {b : Nat} {s : Sp.By} (h : OB w b Sp.kdS false [] 0 s nilS nilS) (hd : s.length ≤ 80000) :
  Calls Tryz.prog 46 #[.pointer (some ⟨b, 0, none⟩)] w fun e w' => e = .returned (.string ⟨(Sp.quoT s).toArray⟩) ∧ Below w.heap.size w w' := by
 have c0 := h.c0
 have c4 := h.c4
 unfold Sp.kdS at c0
 have H := hide (rQuoted_any s hd w)
 clear h
 go_enter Tryz.func46, Tryz.ntmps46
 go_wp2_with (fail)
 refine (unhide H).mono ?_
 rintro e w1 ⟨rfl, hb⟩
 go_wp2_with (fail)
 go_ret
 exact ⟨rfl, hb⟩
set_option maxHeartbeats 8000000 in
theorem can_obj_nil {w : World} {b : Nat} {a : Option Addr} {c : Nat} {sl : Value} (h : OB w b Sp.kdO false [] 0 [] (.slice a 0 c) sl) :
  Calls Tryz.prog 67 #[.pointer (some ⟨b, 0, none⟩)] w fun e w' => e = .returned (.string ⟨#[123, 125]⟩) ∧ Below w.heap.size w w' := by
 have c5 := h.c5
 clear h
 go_enter Tryz.func67, Tryz.ntmps67
 go_wp2_with (fail)
 refine wp_loop_rounds 1 ?_
 rw [rounds_succ]
 go_wp2_with (fail)
 go_ret
 exact ⟨by kernel_rfl, Below.refl _ _⟩
set_option maxHeartbeats 8000000 in
theorem can_obj_go {w : World} {b : Nat} {kl sl : Value} {l : Sp.By} (h : OB w b Sp.kdO false [] 0 [] kl sl) (H : Calls Tryz.prog 67 #[.pointer (some ⟨b, 0, none⟩)] w fun e w' => e = .returned (.string ⟨l.toArray⟩) ∧ Below w.heap.size w w') :
  Calls Tryz.prog 46 #[.pointer (some ⟨b, 0, none⟩)] w fun e w' => e = .returned (.string ⟨l.toArray⟩) ∧ Below w.heap.size w w' := by
 have c0 := h.c0
 unfold Sp.kdO at c0
 have H2 := hide H
 clear h H
 go_enter Tryz.func46, Tryz.ntmps46
 go_wp2_with (fail)
 refine (unhide H2).mono ?_
 rintro e w1 ⟨rfl, hb⟩
 go_wp2_with (fail)
 go_ret
 exact ⟨rfl, hb⟩
set_option maxRecDepth 100000 in
set_option maxHeartbeats 8000000 in
theorem can_arr_nil {w : World} {b : Nat} {a : Option Addr} {c : Nat} (h : OB w b Sp.kdA false [] 0 [] nilS (.slice a 0 c)) :
  Calls Tryz.prog 46 #[.pointer (some ⟨b, 0, none⟩)] w fun e w' => e = .returned (.string ⟨#[91, 93]⟩) ∧ Below w.heap.size w w' := by
 have c0 := h.c0
 have c6 := h.c6
 unfold Sp.kdA at c0
 clear h
 go_enter Tryz.func46, Tryz.ntmps46
 go_wp2_with (fail)
 refine wp_loop_rounds 1 ?_
 rw [rounds_succ]
 go_wp2_with (fail)
 go_ret
 exact ⟨by kernel_rfl, Below.refl _ _⟩
set_option maxRecDepth 100000 in
set_option maxHeartbeats 8000000 in
theorem can_arr_some {f : Nat} (hC : OcOk f) {w : World} {F : Nat → Prop} {b B : Nat} {sl : Value} {ps : List Value} {es : List Sp.O} (h : OB w b Sp.kdA false [] 0 [] nilS sl) (hv : w.ownsRow B 66 1 sl ps.length ps) (hal : Al (ORep f F w) ps es) (hgo : ∀ e ∈ es, Sp.goO f e) (hT : Laid w)
  (hlen : (Sp.joinC (es.map fun o => Sp.can f (Sp.nrm f o))).length + 2 ≤ 80000) (hpos : 0 < es.length) :
  Calls Tryz.prog 46 #[.pointer (some ⟨b, 0, none⟩)] w fun e w' => e = .returned (.string ⟨(91 :: (Sp.joinC (es.map fun o => Sp.can f (Sp.nrm f o)) ++ [93])).toArray⟩) ∧ Below w.heap.size w w' := by
 have hpl := hal.length
 obtain ⟨N, hN⟩ : ∃ N, N = ps.length := ⟨_, rfl⟩
 obtain ⟨g2, p2, rfl, a2, b2, l2, hc2⟩ := owns_cell hv (by omega)
 have c0 := h.c0
 unfold Sp.kdA at c0
 have c6 := h.c6
 rw [← hN] at c6 a2
 have hn1 : (N : Int) ≤ 9223372036854775807 := by unfold maxLen at b2; omega
 have hbl := h.lt
 have HC2 := hide hc2
 have HN := hide hN
 have HPL := hide hpl
 have HAL := hide hal
 have HGO := hide hgo
 have HLEN := hide hlen
 have HT := hide hT
 have HC := hide hC
 clear h hv hal hgo hT hlen hpos hpl hN hc2 hC
 go_enter Tryz.func46, Tryz.ntmps46
 go_wp2_with (fail)
 go_loopw [3, 4] (fun s n wr => ∃ (i : Nat) (A : ByteArray), i ≤ N ∧ s = .string A ∧ n = .int .i64 i ∧ A.data.toList = 91 :: Sp.joinC ((es.map fun o => Sp.can f (Sp.nrm f o)).take i) ∧ Below w.heap.size w wr) (fun _ n _ => N - (intOf n).toNat)
 case atStart => exact ⟨0, ⟨#[91]⟩, by omega, rfl, rfl, rfl, Below.refl _ _⟩
 case round =>
  obtain ⟨i, A, hi, rfl, rfl, hA, hb⟩ := hrel
  have HA := hide hA
  have HB := hide hb
  have r6 := (hb.cell (p := ⟨b, 6, none⟩) hbl).trans c6
  clear hA
  by_cases hlt : i < N
  ·have hip : i < ps.length := by have := unhide HN; omega
   have hie : i < es.length := by have := unhide HPL; omega
   have q2 := (hb.cell (p := ⟨g2, i, none⟩) l2).trans (unhide HC2 i hip)
   have hrep := ((unhide HAL).get i hip hie).below hb
   have hgm := unhide HGO es[i] (List.getElem_mem hie)
   have hil : i < (es.map fun o => Sp.can f (Sp.nrm f o)).length := by simpa using hie
   have hst := Sp.joinC_take (es.map fun o => Sp.can f (Sp.nrm f o)) i hil
   rw [List.getElem_map] at hst
   obtain ⟨om, hom⟩ : ∃ om, es[i] = om := ⟨_, rfl⟩
   obtain ⟨pm, hpm⟩ : ∃ pm, ps[i] = pm := ⟨_, rfl⟩
   rw [hom] at hrep hgm hst
   rw [hpm] at hrep q2
   have hl1 := Sp.joinC_len_take (es.map fun o => Sp.can f (Sp.nrm f o)) (i + 1)
   have hl2 := congrArg List.length hst
   simp only [List.length_append] at hl2
   have hl3 := unhide HLEN
   have hAl := congrArg List.length (unhide HA)
   rw [← Lib.size_eq] at hAl
   simp only [List.length_cons] at hAl
   have hcl : (Sp.can f (Sp.nrm f om)).length ≤ 80000 := by omega
   have hAz : A.size ≤ 80001 := by omega
   have hcall := hide ((unhide HC) F wr pm om hrep hgm ((unhide HT).below (hb.mono (unhide HT).ng)) hcl)
   have HST := hide hst
   clear hst hl1 hl2 hl3 hAl hrep hgm hom hpm hb
   by_cases h0 : 0 < i
   ·have e0 : decide ((0 : Int) < (i : Int)) = true := decide_eq_true (by omega)
    go_wp2_with (fail)
    refine (unhide hcall).mono ?_
    rintro e w5 ⟨rfl, hb5⟩
    have HB5 := hide ((unhide HB).trans (hb5.mono (unhide HB).size))
    clear hb5 hcall
    go_wp2_with (fail)
    refine ⟨⟨i + 1, _, by omega, rfl, by go_num, ?_, unhide HB5⟩, by simp only [intOf]; omega⟩
    rw [unhide HST, if_pos h0]; simp [unhide HA]
   ·have e0 : decide ((0 : Int) < (i : Int)) = false := decide_eq_false (by omega)
    go_wp2_with (fail)
    refine (unhide hcall).mono ?_
    rintro e w5 ⟨rfl, hb5⟩
    have HB5 := hide ((unhide HB).trans (hb5.mono (unhide HB).size))
    clear hb5 hcall
    go_wp2_with (fail)
    refine ⟨⟨i + 1, _, by omega, rfl, by go_num, ?_, unhide HB5⟩, by simp only [intOf]; omega⟩
    rw [unhide HST, if_neg h0]; simp [unhide HA]
  ·have hli : (es.map fun o => Sp.can f (Sp.nrm f o)).take i = es.map fun o => Sp.can f (Sp.nrm f o) := List.take_of_length_le (by have := unhide HN; have := unhide HPL; simp; omega)
   have hAl := congrArg List.length (unhide HA)
   rw [← Lib.size_eq, hli] at hAl
   simp only [List.length_cons] at hAl
   have hl3 := unhide HLEN
   have hAz : A.size ≤ 80001 := by omega
   have HLI := hide hli
   clear hli hAl hl3 hb
   go_wp2_with (fail)
   go_ret
   refine ⟨?_, unhide HB⟩
   exact ret_str (by rw [app_list, unhide HA, unhide HLI]; simp)
theorem canonical_ok (f : Nat) : OcOk f := by
 induction f with
 | zero => intro F w v o h; exact h.elim
 | succ f ih =>
  intro F w v o h hg hT hl
  obtain ⟨b, rfl, hb, h⟩ := h
  rcases h with ⟨k, hk, rfl, h⟩ | ⟨n, x, rfl, h⟩ | ⟨s, rfl, h⟩ | ⟨es, sl, ps, rfl, h, ho, hs, ha⟩ | ⟨es, kl, sl, ps, rfl, h, ho, hs, ho2, hs2, ha⟩
  ·exact can_word_ok hk h
  ·obtain ⟨rfl, h1, h2⟩ := go_num_of hg
   have hl2 : (Sp.numT n).length ≤ 80000 := hl
   refine can_num_ok h ⟨h1, h2⟩ ?_ hT
   by_cases h0 : n.2.1 = []
   ·rw [h0]; exact Nat.zero_le _
   ·unfold Sp.numT at hl2
    rw [if_neg h0] at hl2
    simp only [List.length_append] at hl2
    show n.2.1.length ≤ 80000
    omega
  ·have hl2 : (Sp.quoT s).length ≤ 80000 := hl
   exact can_str_ok h (by have := Sp.quoT_len s; omega)
  ·have e1 : Sp.can (f + 1) (Sp.nrm (f + 1) (Sp.oArr es)) = 91 :: (Sp.joinC (es.map fun o => Sp.can f (Sp.nrm f o)) ++ [93]) := by
    show Sp.can (f + 1) (Sp.vArr (es.map (Sp.nrm f))) = _
    rw [Sp.can_arr, List.map_map]
    rfl
   rw [e1] at hl ⊢
   simp only [List.length_cons, List.length_append, List.length_nil] at hl
   by_cases h0 : 0 < es.length
   ·exact can_arr_some ih h ho ha (go_arr_of hg) hT (by omega) h0
   ·have hes : es = [] := List.eq_nil_of_length_eq_zero (by omega)
    subst hes
    have hps : ps.length = 0 := ha.length
    have hz : ∃ a c, sl = .slice a 0 c := by
     rcases ho.2 with ⟨e, _⟩ | ⟨g, cap, cur, e, _⟩
     ·exact ⟨none, 0, e⟩
     ·exact ⟨_, cap, by rw [e, hps]⟩
    obtain ⟨a, c, rfl⟩ := hz
    exact can_arr_nil h
  ·obtain ⟨hnd, hgo⟩ := go_obj_of hg
   obtain ⟨es', e1, hperm, hlook⟩ := obj_form f es hnd
   obtain ⟨hp2, hsort⟩ := skeys_rise hperm hnd
   rw [e1, Sp.can_obj2] at hl ⊢
   simp only [List.length_cons, List.length_append, List.length_nil] at hl
   refine can_obj_go h ?_
   by_cases h0 : 0 < es.length
   ·exact members_ok ih h ho ho2 ha hgo hp2 hsort hlook hT (by omega) h0
   ·have hes : es = [] := List.eq_nil_of_length_eq_zero (by omega)
    subst hes
    have hz : ∃ a c, kl = .slice a 0 c := by
     rcases ho.2 with ⟨e, _⟩ | ⟨g, cap, cur, e, _⟩
     ·exact ⟨none, 0, e⟩
     ·exact ⟨_, cap, e⟩
    obtain ⟨a, c, rfl⟩ := hz
    have hsk : Sp.skeys es' = [] := List.eq_nil_of_length_eq_zero (by rw [hp2.length_eq]; rfl)
    rw [hsk]
    exact can_obj_nil h
end Go.Proofs.YtdpomdelmdofmaaGreatDoor

namespace Go.Proofs.YtdpomdelmdofmaaGreatDoor
open Go.RowKit
set_option maxHeartbeats 1000000 in
theorem rIn_any (n a b : Int) (w : World) : Calls Tryz.prog 37 #[.int .i64 n, .int .i64 a, .int .i64 b] w fun e w' => e = .returned (.bool (Sp.inB n a b)) ∧ w' = w := by
 by_cases h1 : a ≤ n
 ·by_cases h2 : n ≤ b
  ·have e1 : decide (a ≤ n) = true := by simpa using h1
   have e2 : decide (n ≤ b) = true := by simpa using h2
   have HE := hide (show Sp.inB n a b = true by unfold Sp.inB; rw [e1, e2]; rfl)
   clear h1 h2
   go_enter Tryz.func37, Tryz.ntmps37
   go_wp2_with (fail)
   go_ret
   exact ⟨by rw [unhide HE]; rfl, rfl⟩
  ·have e1 : decide (a ≤ n) = true := by simpa using h1
   have e2 : decide (n ≤ b) = false := by simpa using h2
   have HE := hide (show Sp.inB n a b = false by unfold Sp.inB; rw [e1, e2]; rfl)
   clear h1 h2
   go_enter Tryz.func37, Tryz.ntmps37
   go_wp2_with (fail)
   go_ret
   exact ⟨by rw [unhide HE]; rfl, rfl⟩
 ·have e1 : decide (a ≤ n) = false := by simpa using h1
  have HE := hide (show Sp.inB n a b = false by unfold Sp.inB; rw [e1]; rfl)
  clear h1
  go_enter Tryz.func37, Tryz.ntmps37
  go_wp2_with (fail)
  go_ret
  exact ⟨by rw [unhide HE]; rfl, rfl⟩
set_option maxHeartbeats 1000000 in
theorem rNo_any (c : Nat) (w : World) : Calls Tryz.prog 38 #[.int .i64 c] w fun x w' => x = .returned (ansV c []) ∧ Below w.heap.size w w' := by
 unfold ansV
 go_enter Tryz.func38, Tryz.ntmps38
 go_wp2_with (fail)
 refine bodyPost_ret (v := .agg #[.int .i64 c, .int .i64 0, .string ⟨([] : Sp.By).toArray⟩]) (by simp [results, Tryz.results38, go_sem]) rfl ⟨rfl, ?_⟩
 exact (Below.refl _ w).alloc (Nat.le_refl _) _
def EB (w : World) (E : Nat) (d x n : Int) (p q : Value) : Prop := w.heap[E]? = some (.cells #[.int .i64 d, .int .i64 x, .int .i64 n, p, q] 68 (0, 0))
section
variable {w : World} {E : Nat} {d x n : Int} {p q : Value}
theorem EB.lt (h : EB w E d x n p q) : E < w.heap.size := (Array.getElem?_eq_some_iff.1 h).1
theorem EB.c0 (h : EB w E d x n p q) : w.cell? ⟨E, 0, none⟩ = some (.int .i64 d) := by simp [World.cell?, show w.heap[E]? = _ from h]
theorem EB.c1 (h : EB w E d x n p q) : w.cell? ⟨E, 1, none⟩ = some (.int .i64 x) := by simp [World.cell?, show w.heap[E]? = _ from h]
theorem EB.c3 (h : EB w E d x n p q) : w.cell? ⟨E, 3, none⟩ = some p := by simp [World.cell?, show w.heap[E]? = _ from h]
theorem EB.c4 (h : EB w E d x n p q) : w.cell? ⟨E, 4, none⟩ = some q := by simp [World.cell?, show w.heap[E]? = _ from h]
theorem EB.fz (h : EB w E d x n p q) (o : Nat) : w.frozen? ⟨E, o, none⟩ = false := by simp [World.frozen?, show w.heap[E]? = _ from h]
theorem EB.low {w' : World} (h : EB w E d x n p q) (hb : Below w.heap.size w w') : EB w' E d x n p q := (hb.block E h.lt).trans h
theorem EB.set3 (h : EB w E d x n p q) (u : Value) : EB (w.setCell ⟨E, 3, none⟩ u) E d x n u q := by unfold EB at h ⊢; rw [row_set h]; rfl
theorem EB.set4 (h : EB w E d x n p q) (u : Value) : EB (w.setCell ⟨E, 4, none⟩ u) E d x n p u := by unfold EB at h ⊢; rw [row_set h]; rfl
end
theorem RfEnd.form {s : Sp.By} {d x : Int} {w w' : World} {e : Ending} (h : RfEnd s d x w e w') : ∃ (p : Option Addr) (c : Nat), e = .returned (.tuple #[.pointer p, .int .i64 c]) := by
 rcases h.2 with ⟨c, _, _, h⟩ | ⟨p, o, _, h, _⟩
 ·exact ⟨none, c, h⟩
 ·exact ⟨some p, 0, h⟩
theorem RfEnd.from {s : Sp.By} {d x : Int} {w w0 w' : World} {e : Ending} (h : RfEnd s d x w e w') (hh : w.heap = w0.heap) (ho : w.os = w0.os) (ht : w.tape = w0.tape) (hu : w.output = w0.output) : RfEnd s d x w0 e w' := by
 obtain ⟨h1, h2⟩ := h
 have hs : w.heap.size = w0.heap.size := by rw [hh]
 refine ⟨⟨h1.os.trans ho, h1.tape.trans ht, h1.output.trans hu, by rw [← hs]; exact h1.size, fun k hk => by rw [← hh]; exact h1.block k (by omega)⟩, h2.imp id ?_⟩
 rintro ⟨p, o, a, b, c, d⟩
 exact ⟨p, o, a, b, by rw [← hs]; exact c, d⟩
set_option maxHeartbeats 4000000 in
theorem rERead_any {E : Nat} {d x n : Int} {p q : Value} {w : World} (s : Sp.By) (h : EB w E d x n p q) (hd : 1 ≤ d ∧ d ≤ 20) (hx : 0 ≤ x ∧ x ≤ 400) :
  Calls Tryz.prog 45 #[.pointer (some ⟨E, 0, none⟩), .string ⟨s.toArray⟩, .int .i64 0] w fun e w' => RfEnd s d x w e w' := by
 have c0 := h.c0
 have c1 := h.c1
 have HR := hide (fun w0 => rRead_any s d x hx w0)
 have hw : IntKind.i64.wrap d = d := by rw [IntKind.wrap_i64]; omega
 clear h
 go_enter Tryz.func45, Tryz.ntmps45
 go_wp2_with (fail)
 go_region_with (go_at_call 64; refine (unhide HR _).mono ?_; rintro e w2 hend; obtain ⟨pp, c, rfl⟩ := hend.form)
 all_goals (
  replace hend := hend.from (w0 := w) rfl rfl rfl rfl
  have HEND := hide hend
  clear hend
  go_wp2_with (fail)
  go_ret2
  exact unhide HEND)
end Go.Proofs.YtdpomdelmdofmaaGreatDoor

namespace Go.Proofs.YtdpomdelmdofmaaGreatDoor
open Go.RowKit
def AN (w : World) (g c : Nat) (t : Sp.By) : Prop := w.heap[g]? = some (.cells #[.int .i64 c, .int .i64 0, .string ⟨t.toArray⟩] 46 (0, 0))
section
variable {w : World} {g c : Nat} {t : Sp.By}
theorem AN.c0 (h : AN w g c t) : w.cell? ⟨g, 0, none⟩ = some (.int .i64 c) := by simp [World.cell?, show w.heap[g]? = _ from h]
theorem AN.c1 (h : AN w g c t) : w.cell? ⟨g, 1, none⟩ = some (.int .i64 0) := by simp [World.cell?, show w.heap[g]? = _ from h]
theorem AN.c2 (h : AN w g c t) : w.cell? ⟨g, 2, none⟩ = some (.string ⟨t.toArray⟩) := by simp [World.cell?, show w.heap[g]? = _ from h]
theorem AN.kept (h : AN w g c t) {w' : World} (e : w'.heap[g]? = w.heap[g]?) : AN w' g c t := e.trans h
end
set_option maxRecDepth 100000 in
set_option maxHeartbeats 8000000 in
theorem rStep_load {E : Nat} {d x n : Int} {pa : Option Addr} {q : Value} {w : World} (s : Sp.By) (t : ByteArray) (c : Nat) (hc : (Sp.readTo s d x).1 = c) (h : EB w E d x n (.pointer pa) q) (hd : 1 ≤ d ∧ d ≤ 20) (hx : 0 ≤ x ∧ x ≤ 400) :
  Calls Tryz.prog 39 #[.pointer (some ⟨E, 0, none⟩), .agg #[.int .i64 1, .string ⟨s.toArray⟩, .string t], ansV c []] w fun e w' => e = .returned (.bool true) ∧ KeptX E w w' ∧
   ((∃ c', Sp.readTo s d x = (c', none) ∧ EB w' E d x n (.pointer pa) q) ∨ (∃ p' o, Sp.readTo s d x = (0, some (Sp.nrm top o)) ∧ EB w' E d x n (.pointer (some p')) (.pointer none) ∧ ORep top (fun j => w.heap.size ≤ j) w' (.pointer (some p')) o ∧ Sp.goO top o)) := by
 have hEl := h.lt
 have hb1 : Below w.heap.size w ((w.alloc (.cells #[.int .i64 1, .string ⟨s.toArray⟩, .string t] 49)).alloc (.cells #[.int .i64 c, .int .i64 0, .string ⟨#[]⟩] 46)) := ((Below.refl _ _).alloc (Nat.le_refl _) _).alloc (by simp) _
 have ha1 : AN ((w.alloc (.cells #[.int .i64 1, .string ⟨s.toArray⟩, .string t] 49)).alloc (.cells #[.int .i64 c, .int .i64 0, .string ⟨#[]⟩] 46)) (w.heap.size + 1) c [] := heap_new _ _ _ (by simp)
 have he1 := h.low hb1
 have HC := hide hc
 have HB1 := hide hb1
 have HA1 := hide ha1
 have HE1 := hide he1
 have e3 := he1.c3
 have HCALL := hide (rERead_any s he1 hd hx)
 clear hc h hb1 ha1 he1
 unfold ansV
 cases pa
 all_goals (
  go_enter Tryz.func39, Tryz.ntmps39
  go_wp2_with (fail)
  refine (unhide HCALL).mono ?_
  rintro e w2 ⟨hb2, hcase⟩
  have hs2 := hb2.size
  have hs2b : w.heap.size + 2 ≤ w2.heap.size := by simpa using hs2
  have hbw2 : Below w.heap.size w w2 := (unhide HB1).trans (hb2.mono (unhide HB1).size)
  have ha2 : AN w2 (w.heap.size + 1) c [] := (unhide HA1).kept (hb2.block (w.heap.size + 1) (by simp))
  have he2 : EB w2 E d x n _ q := (unhide HE1).low hb2
  have a0 := ha2.c0
  have a1 := ha2.c1
  have a2 := ha2.c2
  have HA2 := hide ha2
  have HE2 := hide he2
  have HBW2 := hide hbw2
  have HNO := hide (fun (k : Nat) (w : World) => rNo_any k w)
  rcases hcase with ⟨c', hpos, hrt, rfl⟩ | ⟨p', o, hrt, rfl, hrep, hgo⟩
  ·obtain rfl : c' = c := by rw [← unhide HC, hrt]
   have e0 : ((c' : Int) == 0) = false := by rw [beq_eq_false_iff_ne]; omega
   have HRT := hide hrt
   clear hb2 ha2 he2 hbw2 hrt e3 hs2
   go_upto_region 11 with (fail)
   unfold ansV at HNO
   go_region_with (go_at_call 38; refine (unhide HNO c' _).mono ?_; rintro e w3 ⟨rfl, hb3⟩; have b0 := (hb3.cell (p := ⟨w.heap.size + 1, 0, none⟩) (show w.heap.size + 1 < w2.heap.size by omega)).trans a0; have b1 := (hb3.cell (p := ⟨w.heap.size + 1, 1, none⟩) (show w.heap.size + 1 < w2.heap.size by omega)).trans a1; have b2 := (hb3.cell (p := ⟨w.heap.size + 1, 2, none⟩) (show w.heap.size + 1 < w2.heap.size by omega)).trans a2)
   all_goals (
    have hb3' : Below w2.heap.size w2 w3 := ⟨hb3.os, hb3.tape, hb3.output, hb3.size, hb3.block⟩
    have HB3 := hide hb3'
    clear hb3 hb3' b0 b1 b2
    go_wp2_with (fail)
    go_ret
    have hbl : Below w.heap.size w w3 := (unhide HBW2).trans ((unhide HB3).mono (unhide HBW2).size)
    exact ⟨by kernel_rfl, KeptX.of_below hbl, Or.inl ⟨c', unhide HRT, (unhide HE2).low (unhide HB3)⟩⟩)
  ·obtain rfl : c = 0 := by rw [← unhide HC, hrt]
   have HRT := hide hrt
   have HREP := hide hrep
   have HGO := hide hgo
   have y3 := he2.c3
   have y4 := he2.c4
   have z3 := he2.fz 3
   have z4 := he2.fz 4
   clear hb2 ha2 he2 hbw2 hrt hrep hgo e3 hs2
   go_upto_region 11 with (fail)
   unfold ansV at HNO
   obtain ⟨w3, hw3⟩ : ∃ w3, w3 = (w2.setCell ⟨E, 3, none⟩ (.pointer (some p'))).setCell ⟨E, 4, none⟩ (.pointer none) := ⟨_, rfl⟩
   rw [← hw3]
   have he3 : EB w3 E d x n (.pointer (some p')) (.pointer none) := by rw [hw3]; exact ((unhide HE2).set3 _).set4 _
   have hk3 : KeptX E w2 w3 := by rw [hw3]; exact KeptX.setCell (p := ⟨E, 4, none⟩) (KeptX.setCell (p := ⟨E, 3, none⟩) (KeptX.refl _ _) rfl _) rfl _
   have ha3 : AN w3 (w.heap.size + 1) 0 [] := (unhide HA2).kept (hk3.block (w.heap.size + 1) (by omega) (by omega))
   have hs3 := hk3.size
   have HE3 := hide he3
   have HK3 := hide hk3
   clear hw3 a0 a1 a2 y3 y4 z3 z4
   have a0 := ha3.c0
   have a1 := ha3.c1
   have a2 := ha3.c2
   clear he3 hk3 ha3
   go_region_with (go_at_call 38; refine (unhide HNO 0 _).mono ?_; rintro e w4 ⟨rfl, hb4⟩; have b0 := (hb4.cell (p := ⟨w.heap.size + 1, 0, none⟩) (show w.heap.size + 1 < w3.heap.size by omega)).trans a0; have b1 := (hb4.cell (p := ⟨w.heap.size + 1, 1, none⟩) (show w.heap.size + 1 < w3.heap.size by omega)).trans a1; have b2 := (hb4.cell (p := ⟨w.heap.size + 1, 2, none⟩) (show w.heap.size + 1 < w3.heap.size by omega)).trans a2)
   all_goals (
    have hb4' : Below w3.heap.size w3 w4 := ⟨hb4.os, hb4.tape, hb4.output, hb4.size, hb4.block⟩
    have HB4 := hide hb4'
    clear hb4 hb4' b0 b1 b2
    go_wp2_with (fail)
    go_ret
    have hk24 : KeptX E w2 w4 := (unhide HK3).trans (KeptX.of_below (unhide HB4))
    refine ⟨by kernel_rfl, (KeptX.of_below (unhide HBW2)).trans hk24, Or.inr ⟨p', o, unhide HRT, (unhide HE3).low (unhide HB4), (unhide HREP).move fun k h1 h2 => ⟨hk24.block k h2 ?_, ?_⟩, unhide HGO⟩⟩
    ·simp at h1; omega
    ·simp at h1; omega))
set_option maxRecDepth 100000 in
set_option maxHeartbeats 8000000 in
theorem rStep_none {E : Nat} {d x n : Int} {q : Value} {w : World} (s t : ByteArray) (h : EB w E d x n (.pointer none) q) :
  Calls Tryz.prog 39 #[.pointer (some ⟨E, 0, none⟩), .agg #[.int .i64 2, .string s, .string t], ansV 3 []] w fun e w' => e = .returned (.bool true) ∧ Below w.heap.size w w' := by
 have hEl := h.lt
 have hb1 : Below w.heap.size w ((w.alloc (.cells #[.int .i64 2, .string s, .string t] 49)).alloc (.cells #[.int .i64 3, .int .i64 0, .string ⟨#[]⟩] 46)) := ((Below.refl _ _).alloc (Nat.le_refl _) _).alloc (by simp) _
 have ha1 : AN ((w.alloc (.cells #[.int .i64 2, .string s, .string t] 49)).alloc (.cells #[.int .i64 3, .int .i64 0, .string ⟨#[]⟩] 46)) (w.heap.size + 1) 3 [] := heap_new _ _ _ (by simp)
 have he1 := h.low hb1
 have e3 := he1.c3
 have HB1 := hide hb1
 have HA1 := hide ha1
 have HNO := hide (fun (k : Nat) (w : World) => rNo_any k w)
 clear h hb1 ha1 he1
 unfold ansV at HNO ⊢
 go_enter Tryz.func39, Tryz.ntmps39
 go_upto_region 4 with (fail)
 obtain ⟨w3, hw3⟩ : ∃ w3, w3 = ((w.alloc (.cells #[.int .i64 2, .string s, .string t] 49)).alloc (.cells #[.int .i64 3, .int .i64 0, .string ⟨#[]⟩] 46)) := ⟨_, rfl⟩
 have hs3 : w.heap.size + 1 < w3.heap.size := by rw [hw3]; simp
 have ha3 : AN w3 (w.heap.size + 1) 3 [] := by rw [hw3]; exact unhide HA1
 have hb3 : Below w.heap.size w w3 := by rw [hw3]; exact unhide HB1
 rw [← hw3]
 have HB3 := hide hb3
 have a0 := ha3.c0
 have a1 := ha3.c1
 have a2 := ha3.c2
 clear hw3 e3 ha3 hb3 HB1 HA1
 go_region_with (go_at_call 38; refine (unhide HNO 3 _).mono ?_; rintro e w4 ⟨rfl, hb4⟩; have b0 := (hb4.cell (p := ⟨w.heap.size + 1, 0, none⟩) (show w.heap.size + 1 < w3.heap.size by omega)).trans a0; have b1 := (hb4.cell (p := ⟨w.heap.size + 1, 1, none⟩) (show w.heap.size + 1 < w3.heap.size by omega)).trans a1; have b2 := (hb4.cell (p := ⟨w.heap.size + 1, 2, none⟩) (show w.heap.size + 1 < w3.heap.size by omega)).trans a2)
 all_goals (
  have hb4' : Below w3.heap.size w3 w4 := ⟨hb4.os, hb4.tape, hb4.output, hb4.size, hb4.block⟩
  have HB4 := hide hb4'
  clear hb4 hb4' b0 b1 b2
  go_wp2_with (fail)
  go_ret
  exact ⟨by kernel_rfl, (unhide HB3).trans ((unhide HB4).mono (unhide HB3).size)⟩)
set_option maxRecDepth 100000 in
set_option maxHeartbeats 8000000 in
theorem rStep_dump {E : Nat} {d x n : Int} {p : Addr} {q : Value} {w : World} {F : Nat → Prop} {o : Sp.O} (s t : ByteArray) (h : EB w E d x n (.pointer (some p)) q) (hrep : ORep top F w (.pointer (some p)) o) (hgo : Sp.goO top o) (hl : (Sp.can top (Sp.nrm top o)).length ≤ 80000) (hT : Laid w) :
  Calls Tryz.prog 39 #[.pointer (some ⟨E, 0, none⟩), .agg #[.int .i64 2, .string s, .string t], ansV 0 (Sp.can top (Sp.nrm top o))] w fun e w' => e = .returned (.bool true) ∧ Below w.heap.size w w' := by
 have hEl := h.lt
 obtain ⟨tx, htx⟩ : ∃ tx, tx = Sp.can top (Sp.nrm top o) := ⟨_, rfl⟩
 rw [← htx]
 have hb1 : Below w.heap.size w ((w.alloc (.cells #[.int .i64 2, .string s, .string t] 49)).alloc (.cells #[.int .i64 0, .int .i64 0, .string ⟨tx.toArray⟩] 46)) := ((Below.refl _ _).alloc (Nat.le_refl _) _).alloc (by simp) _
 have ha1 : AN ((w.alloc (.cells #[.int .i64 2, .string s, .string t] 49)).alloc (.cells #[.int .i64 0, .int .i64 0, .string ⟨tx.toArray⟩] 46)) (w.heap.size + 1) 0 tx := heap_new _ _ _ (by simp)
 have he1 := h.low hb1
 have e3 := he1.c3
 have HB1 := hide hb1
 have HA1 := hide ha1
 have hcall := canonical_ok top F _ (.pointer (some p)) o (hrep.below hb1) hgo (hT.below (hb1.mono hT.ng)) hl
 rw [← htx] at hcall
 have HCALL := hide hcall
 clear h hb1 ha1 he1 hrep hgo hT hl hcall htx
 unfold ansV
 go_enter Tryz.func39, Tryz.ntmps39
 go_wp2_with (fail)
 refine (unhide HCALL).mono ?_
 rintro e w3 ⟨rfl, hb3⟩
 have ha3 : AN w3 (w.heap.size + 1) 0 tx := (unhide HA1).kept (hb3.block (w.heap.size + 1) (by simp))
 have HB3 := hide ((unhide HB1).trans (hb3.mono (unhide HB1).size))
 have a0 := ha3.c0
 have a1 := ha3.c1
 have a2 := ha3.c2
 clear ha3 hb3 e3
 go_wp2_with (fail)
 go_ret
 exact ⟨by first | kernel_rfl | simp, unhide HB3⟩
end Go.Proofs.YtdpomdelmdofmaaGreatDoor
