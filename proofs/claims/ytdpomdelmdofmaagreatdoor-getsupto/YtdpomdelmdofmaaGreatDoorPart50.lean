/-
  Walk of the reference's own find.
-/
import Derived.Test.YtdpomdelmdofmaaGreatDoorPart49
import Derived.Test.YtdpomdelmdofmaaGreatDoorPart47
import Derived.Test.YtdpomdelmdofmaaGreatDoorPart25
import Derived.Test.YtdpomdelmdofmaaGreatDoorPart24
namespace Go.Proofs.YtdpomdelmdofmaaGreatDoor
open Go.RowKit
def oEnd (F : Nat → Prop) (f n : Nat) (o : Except Nat Sp.O) (e : Ending) (w' : World) : Prop := match o with
 | .ok y => ∃ u f', e = .returned (.tuple #[u, .int .i64 0]) ∧ f' + n = f ∧ ORep f' F w' u y
 | .error c => e = .returned (.tuple #[.pointer none, .int .i64 c])
set_option maxHeartbeats 4000000 in
theorem rGet_none {w : World} {b : Nat} {kd : Sp.By} {ng : Bool} {ds : Sp.By} {x : Int} {s : Sp.By} {sl : Value} (h : OB w b kd ng ds x s nilS sl) (key : ByteArray) :
  Calls Tryz.prog 95 #[.pointer (some ⟨b, 0, none⟩), .string key] w fun e w' => e = .returned (.pointer none) ∧ w' = w := by
 have c5 := h.c5
 clear h
 go_enter Tryz.func95, Tryz.ntmps95
 go_wp2_with (fail)
 refine wp_loop_rounds 1 ?_
 rw [rounds_succ]
 go_wp2_with (fail)
 go_ret
 exact ⟨rfl, rfl⟩
theorem fst_mem {P : Value → Sp.O → Prop} {k : Sp.By} : ∀ {es : Sp.Ms} {ps : List Value}, Al P ps (es.map (·.2)) → (∃ y, Sp.mem k es = some y ∧ P (Sp.fstK k (es.map (·.1)) ps) y) ∨ (Sp.mem k es = none ∧ Sp.fstK k (es.map (·.1)) ps = .pointer none)
 | [], [], _ => Or.inr ⟨rfl, rfl⟩
 | p :: r, u :: q, ⟨h1, h2⟩ => by
  unfold Sp.mem
  simp only [List.map_cons, Sp.fstK]
  by_cases e : p.1 = k
  ·rw [if_pos e, if_pos e]; exact Or.inl ⟨_, rfl, h1⟩
  ·rw [if_neg e, if_neg e]; exact fst_mem h2
theorem TokR.open {w : World} {lv : Value} {t : Sp.By} {r : List Sp.By} (h : TokR w lv (t :: r)) : ∃ g off cap n tl, lv = .slice (some ⟨g, off, none⟩) (n + 1) cap ∧ n = r.length ∧ n + 1 ≤ cap ∧ cap ≤ maxLen ∧ w.cell? ⟨g, off, none⟩ = some (.string ⟨t.toArray⟩) ∧
  TokR w tl r ∧ ((cap = 1 ∧ n = 0 ∧ tl = .slice (some ⟨g, off, none⟩) 0 0) ∨ (1 < cap ∧ tl = .slice (some ⟨g, off + 1, none⟩) n (cap - 1))) := by
 rcases h with ⟨h, _⟩ | ⟨_, g, off, cap, rfl, h1, h2, hg, hc⟩
 ·cases h
 ·simp only [List.length_cons] at h1
  have h0c : w.cell? ⟨g, off, none⟩ = some (.string ⟨t.toArray⟩) := hc 0 (by simp)
  by_cases hc1 : cap = 1
  ·subst hc1
   obtain rfl : r = [] := List.eq_nil_of_length_eq_zero (by omega)
   exact ⟨g, off, 1, 0, _, rfl, rfl, h1, h2, h0c, Or.inl ⟨rfl, _, _, rfl⟩, Or.inl ⟨rfl, rfl, rfl⟩⟩
  ·refine ⟨g, off, cap, r.length, _, rfl, rfl, h1, h2, h0c, ?_, Or.inr ⟨by omega, rfl⟩⟩
   by_cases h0 : r.length = 0
   ·obtain rfl : r = [] := List.eq_nil_of_length_eq_zero h0
    exact Or.inl ⟨rfl, _, _, rfl⟩
   ·refine Or.inr ⟨by omega, g, off + 1, cap - 1, rfl, by omega, by omega, hg, fun k hk => ?_⟩
    have := hc (k + 1) (by simp; omega)
    rw [show off + 1 + k = off + (k + 1) by omega]
    simpa using this
theorem joinR_ge : ∀ (l : List Sp.By), l.length ≤ (Sp.joinR l).length
 | [] => Nat.le_refl _
 | x :: r => by
  have := joinR_ge r
  simp only [Sp.joinR, List.length_cons, List.length_append]; omega
theorem arr_few (f : Nat) (es : List Sp.O) : es.length ≤ (Sp.can (f + 1) (Sp.nrm (f + 1) (Sp.oArr es))).length := by
 have e : Sp.nrm (f + 1) (Sp.oArr es) = Sp.vArr (es.map (Sp.nrm f)) := rfl
 rw [e, Sp.can_arr]
 cases es with
 | nil => simp
 | cons a r =>
  have := joinR_ge ((r.map (Sp.nrm f)).map (Sp.can f))
  simp only [List.map_cons, Sp.joinC, List.length_cons, List.length_append, List.length_map] at this ⊢
  omega
theorem arr_sub {f : Nat} {es : List Sp.O} {e : Sp.O} (h : e ∈ es) : (Sp.can f (Sp.nrm f e)).length ≤ (Sp.can (f + 1) (Sp.nrm (f + 1) (Sp.oArr es))).length := by
 have e1 : Sp.nrm (f + 1) (Sp.oArr es) = Sp.vArr (es.map (Sp.nrm f)) := rfl
 rw [e1, Sp.can_arr]
 have := joinC_mem (List.mem_map_of_mem (f := Sp.can f) (List.mem_map_of_mem (f := Sp.nrm f) h))
 simp only [List.length_cons, List.length_append]
 omega
theorem obj_sub {f : Nat} {es : Sp.Ms} (hnd : (es.map (·.1)).Nodup) {p : Sp.By × Sp.O} (h : p ∈ es) : (Sp.can f (Sp.nrm f p.2)).length ≤ (Sp.can (f + 1) (Sp.nrm (f + 1) (Sp.oObj es))).length := by
 obtain ⟨E, e1, e2, e3⟩ := obj_form f es hnd
 rw [e1, Sp.can_obj]
 have hk : p.1 ∈ (Sp.keys E).mergeSort fun x y => decide (x ≤ y) := (List.mergeSort_perm _ _).mem_iff.2 (e2.mem_iff.2 (List.mem_map.2 ⟨p, h, rfl⟩))
 have := joinC_mem (List.mem_map_of_mem (f := fun k => Sp.quoT k ++ 58 :: Sp.can f (Sp.look E k)) hk)
 simp only [e3 p h, List.length_cons, List.length_append] at this ⊢
 omega
section
variable {w : World} {b : Nat} {F : Nat → Prop} {t : Sp.By} {r : List Sp.By} {lv : Value}
set_option maxHeartbeats 4000000 in
theorem find_leaf {kd : Sp.By} {ng : Bool} {ds : Sp.By} {x : Int} {s : Sp.By} (h : OB w b kd ng ds x s nilS nilS) (hk : (kd == [97, 114, 114, 97, 121]) = false) (hl : TokR w lv (t :: r)) :
  Calls Tryz.prog 69 #[.pointer (some ⟨b, 0, none⟩), lv] w fun e w' => e = .returned (.tuple #[.pointer none, .int .i64 11]) ∧ Below w.heap.size w w' := by
 obtain ⟨g, off, cap, n, tl, rfl, _, _, _, hc, _, _⟩ := hl.open
 have c0 := h.c0
 have HG := hide (rGet_none h ⟨t.toArray⟩)
 clear h hl
 have e1 : ((n : Int) + 1 == 0) = false := by rw [beq_eq_false_iff_ne]; omega
 go_enter Tryz.func69, Tryz.ntmps69
 go_wp2_with (fail)
 refine (unhide HG).mono ?_
 rintro e w2 ⟨rfl, rfl⟩
 go_wp2_with (fail)
 go_ret2
 exact ⟨rfl, Below.refl _ _⟩
def FindOk (F : Nat → Prop) (r : List Sp.By) : Prop := ∀ (f : Nat) (o : Sp.O) (w : World) (v lv : Value), ORep f F w v o → Sp.goO f o → (Sp.can f (Sp.nrm f o)).length ≤ 80000 → TokR w lv r →
 Calls Tryz.prog 69 #[v, lv] w fun e w' => oEnd F f r.length (Sp.ofind o r) e w' ∧ Below w.heap.size w w'
theorem oEnd.down {f n : Nat} {o : Except Nat Sp.O} {e : Ending} {w' : World} (h : oEnd F f n o e w') : oEnd F (f + 1) (n + 1) o e w' := by
 cases o with
 | ok y => obtain ⟨u, f', h1, h2, h3⟩ := h; exact ⟨u, f', h1, by omega, h3⟩
 | error c => exact h
theorem oEnd.form {f n : Nat} {o : Except Nat Sp.O} {e : Ending} {w' : World} (h : oEnd F f n o e w') : ∃ (u : Value) (c : Nat), e = .returned (.tuple #[u, .int .i64 c]) := by
 cases o with
 | ok y => obtain ⟨u, f', h1, _⟩ := h; exact ⟨u, 0, h1⟩
 | error c => exact ⟨_, c, h⟩
set_option maxRecDepth 100000 in
set_option maxHeartbeats 800000 in
theorem find_arr {f : Nat} {sl : Value} {ps : List Value} {es : List Sp.O} (hr : FindOk F r) (h : OB w b Sp.kdA false [] 0 [] nilS sl) (ho : w.ownsRow 0 66 1 sl ps.length ps) (hal : Al (ORep f F w) ps es) (hgo : ∀ e ∈ es, Sp.goO f e) (hl : TokR w lv (t :: r)) (ht : t.length ≤ 1048576) (hcl : (Sp.can (f + 1) (Sp.nrm (f + 1) (Sp.oArr es))).length ≤ 80000) :
  Calls Tryz.prog 69 #[.pointer (some ⟨b, 0, none⟩), lv] w fun e w' => oEnd F (f + 1) (t :: r).length (Sp.ofind (Sp.oArr es) (t :: r)) e w' ∧ Below w.heap.size w w' := by
 obtain ⟨g, off, cap, n, tl, rfl, hn, hcap, hmx, hc, htl, htc⟩ := hl.open
 clear hn
 have c0 := h.c0
 have c6 := h.c6
 rw [show Sp.kdA = [97, 114, 114, 97, 121] from rfl] at c0
 have HG := hide (rGet_none h ⟨t.toArray⟩)
 have HI := hide (fun w => rIndex_any t ht w)
 have hall := hal.length
 have hes : es.length ≤ 80000 := Nat.le_trans (arr_few f es) hcl
 have HCL := hide hcl
 clear hcl
 have e1 : ((n : Int) + 1 == 0) = false := by rw [beq_eq_false_iff_ne]; omega
 obtain ⟨R, hR⟩ : ∃ R, R = Sp.ofind (Sp.oArr es) (t :: r) := ⟨_, rfl⟩
 rw [← hR]
 have hR0 : R = match Sp.ochild (Sp.oArr es) t with | .ok e => Sp.ofind e r | .error c => .error c := hR
 unfold Sp.ochild Sp.oArr at hR0
 simp only at hR0
 have hcb : (cap : Int) ≤ 9223372036854775807 := by unfold maxLen at hmx; omega
 have hcc : (n : Int) + 1 ≤ (cap : Int) := by omega
 cases hx : Sp.idx t with
 | none =>
  rw [hx] at hR0
  have HF := hide (show R = .error 12 from hR0)
  have hix : Sp.ixI t = -1 := ixI_none hx
  rw [hix] at HI
  clear h ho hal hgo hl htl hR hR0 hx hall hr
  go_enter Tryz.func69, Tryz.ntmps69
  go_wp2_with (fail)
  refine (unhide HG).mono ?_
  rintro e w2 ⟨rfl, rfl⟩
  go_wp2_with (fail)
  refine ((unhide HI) _).mono ?_
  rintro e w2 ⟨rfl, hb2⟩
  go_wp2_with (fail)
  go_ret2
  exact ⟨by rw [unhide HF]; rfl, hb2⟩
 | some i =>
  rw [hx] at hR0
  have hix : Sp.ixI t = min (i : Int) 1000000000 := by unfold Sp.ixI; rw [hx]
  obtain ⟨N, hN⟩ : ∃ N, N = ps.length := ⟨_, rfl⟩
  by_cases hin : i < ps.length
  ·obtain ⟨g2, cap2, rfl, a1, a2, a3, hc2⟩ := owns_cell1 ho (by omega)
   have hin2 : i < es.length := by omega
   simp only [List.getElem?_eq_getElem hin2] at hR0
   have hix2 : Sp.ixI t = (i : Int) := by rw [hix]; omega
   rw [hix2] at HI
   have hci := hc2 i hin
   have hrep := hal.get i hin hin2
   obtain ⟨bb, hbb, _⟩ := hrep.ptr
   have HGO := hide (And.intro (hgo _ (List.getElem_mem hin2)) (Nat.le_trans (arr_sub (List.getElem_mem hin2)) (unhide HCL)))
   have HREP := hide hrep
   rw [← hN] at c6 a1
   have hlt : (i : Int) < (N : Int) := by omega
   have hNb : (N : Int) ≤ 9223372036854775807 := by unfold maxLen at a2; omega
   have HC6 := hide c6
   have HCI := hide hci
   have HTL := hide htl
   have hbl := h.lt
   have HF := hide hR0
   generalize ps[i] = pv at *
   generalize es[i] = ev at *
   subst hbb
   have e0 : ¬ (i : Int) < 0 := by omega
   have hrr := hide (fun w (h1 : ORep f F w (.pointer (some ⟨bb, 0, none⟩)) ev) (h2 : TokR w tl r) => hr f ev w _ tl h1 (unhide HGO).1 (unhide HGO).2 h2)
   clear h ho hal hgo hl htl hR hR0 hx hall hr hix hix2 hrep hc2 c6 hci hin hin2 hN
   rcases htc with ⟨rfl, rfl, rfl⟩ | ⟨hc1, rfl⟩
   all_goals (
    go_enter Tryz.func69, Tryz.ntmps69
    go_wp2_with (fail)
    refine (unhide HG).mono ?_
    rintro e w2 ⟨rfl, rfl⟩
    go_wp2_with (fail)
    refine ((unhide HI) _).mono ?_
    rintro e w3 ⟨rfl, hb3⟩
    have d6 := (hb3.cell (p := ⟨b, 6, none⟩) hbl).trans (unhide HC6)
    have di := (hb3.cell (p := ⟨g2, i, none⟩) a3).trans (unhide HCI)
    have HB3 := hide hb3
    clear hb3 hc
    go_wp2_with (fail)
    refine ((unhide hrr) _ ((unhide HREP).below (unhide HB3)) ((unhide HTL).bel (unhide HB3))).mono ?_
    rintro e w4 ⟨ho, hb4⟩
    obtain ⟨u, c, rfl⟩ := ho.form
    have HO := hide ho.down
    have HB4 := hide ((unhide HB3).trans (hb4.mono (unhide HB3).size))
    clear ho hb4
    go_wp2_with (fail)
    go_ret2
    exact ⟨by rw [unhide HF]; exact unhide HO, unhide HB4⟩)
  ·have hin2 : ¬ i < es.length := by omega
   simp only [List.getElem?_eq_none (Nat.le_of_not_lt hin2)] at hR0
   have HF := hide (show R = .error 11 from hR0)
   obtain ⟨a, cp, rfl⟩ : ∃ a cp, sl = .slice a ps.length cp := by
    rcases ho.2 with ⟨e, h0⟩ | ⟨g2, cap2, cur, e, _⟩
    ·exact ⟨none, 0, by rw [e, h0]⟩
    ·exact ⟨_, cap2, e⟩
   rw [← hN] at c6
   have hNe : N = es.length := by omega
   have hlt : ¬ Sp.ixI t < (N : Int) := by rw [hix]; omega
   have hge : ¬ Sp.ixI t < 0 := by rw [hix]; omega
   have HC6 := hide c6
   have hbl := h.lt
   generalize Sp.ixI t = ix at *
   clear h ho hal hgo hl htl hR hR0 hx hall hr hix c6 hin hin2 hNe hN
   go_enter Tryz.func69, Tryz.ntmps69
   go_wp2_with (fail)
   refine (unhide HG).mono ?_
   rintro e w2 ⟨rfl, rfl⟩
   go_wp2_with (fail)
   refine ((unhide HI) _).mono ?_
   rintro e w3 ⟨rfl, hb3⟩
   have d6 := (hb3.cell (p := ⟨b, 6, none⟩) hbl).trans (unhide HC6)
   have HB3 := hide hb3
   clear hb3 hc
   go_wp2_with (fail)
   go_ret2
   exact ⟨by rw [unhide HF]; rfl, unhide HB3⟩
set_option maxRecDepth 100000 in
set_option maxHeartbeats 800000 in
theorem find_obj {f : Nat} {kl sl : Value} {ps : List Value} {es : Sp.Ms} (hr : FindOk F r) (h : OB w b Sp.kdO false [] 0 [] kl sl) (hok : w.ownsRow 0 9 1 kl es.length (es.map fun p => strV p.1)) (ho : w.ownsRow 0 66 1 sl ps.length ps) (hal : Al (ORep f F w) ps (es.map (·.2))) (hnd : (es.map (·.1)).Nodup) (hgo : ∀ p ∈ es, Sp.goO f p.2) (hl : TokR w lv (t :: r)) (hcl : (Sp.can (f + 1) (Sp.nrm (f + 1) (Sp.oObj es))).length ≤ 80000) :
  Calls Tryz.prog 69 #[.pointer (some ⟨b, 0, none⟩), lv] w fun e w' => oEnd F (f + 1) (t :: r).length (Sp.ofind (Sp.oObj es) (t :: r)) e w' ∧ Below w.heap.size w w' := by
 have HCL := hide hcl
 clear hcl
 obtain ⟨g, off, cap, n, tl, rfl, hn, hcap, hmx, hc, htl, htc⟩ := hl.open
 clear hn
 have c0 := h.c0
 rw [show Sp.kdO = [111, 98, 106, 101, 99, 116] from rfl] at c0
 have hll : ps.length = es.length := by have := hal.length; simpa using this
 have HG := hide (rGet_any h (ks := es.map (·.1)) (B1 := 0) (by rw [List.length_map, List.map_map]; exact hok) ho (by simpa using hll) t)
 have e1 : ((n : Int) + 1 == 0) = false := by rw [beq_eq_false_iff_ne]; omega
 obtain ⟨R, hR⟩ : ∃ R, R = Sp.ofind (Sp.oObj es) (t :: r) := ⟨_, rfl⟩
 rw [← hR]
 have hR0 : R = match Sp.ochild (Sp.oObj es) t with | .ok e => Sp.ofind e r | .error c => .error c := hR
 rw [ochild_obj] at hR0
 have hcb : (cap : Int) ≤ 9223372036854775807 := by unfold maxLen at hmx; omega
 have hcc : (n : Int) + 1 ≤ (cap : Int) := by omega
 rcases fst_mem (k := t) hal with ⟨y, hy, hrep⟩ | ⟨hy, hu⟩
 ·rw [hy] at hR0
  have HF := hide (show R = Sp.ofind y r from hR0)
  obtain ⟨bb, hbb, _⟩ := hrep.ptr
  have HGO := hide (And.intro (hgo _ (mem_some hy)) (Nat.le_trans (obj_sub hnd (mem_some hy)) (unhide HCL)))
  have HREP := hide hrep
  have HTL := hide htl
  generalize Sp.fstK t (es.map (·.1)) ps = u0 at *
  subst hbb
  have hrr := hide (fun w (h1 : ORep f F w (.pointer (some ⟨bb, 0, none⟩)) y) (h2 : TokR w tl r) => hr f y w _ tl h1 (unhide HGO).1 (unhide HGO).2 h2)
  clear h ho hok hal hgo hl htl hR hR0 hr hrep hy hll
  rcases htc with ⟨rfl, rfl, rfl⟩ | ⟨hc1, rfl⟩
  all_goals (
   go_enter Tryz.func69, Tryz.ntmps69
   go_wp2_with (fail)
   refine (unhide HG).mono ?_
   rintro e w2 ⟨rfl, rfl⟩
   go_wp2_with (fail)
   refine ((unhide hrr) _ (unhide HREP) (unhide HTL)).mono ?_
   rintro e w4 ⟨ho, hb4⟩
   obtain ⟨u, c, rfl⟩ := ho.form
   have HO := hide ho.down
   have HB4 := hide hb4
   clear ho hb4
   go_wp2_with (fail)
   go_ret2
   exact ⟨by rw [unhide HF]; exact unhide HO, unhide HB4⟩)
 ·rw [hy] at hR0
  have HF := hide (show R = .error 11 from hR0)
  rw [hu] at HG
  clear h ho hok hal hgo hl htl hR hR0 hr hy hu hll
  go_enter Tryz.func69, Tryz.ntmps69
  go_wp2_with (fail)
  refine (unhide HG).mono ?_
  rintro e w2 ⟨rfl, rfl⟩
  go_wp2_with (fail)
  go_ret2
  exact ⟨by rw [unhide HF]; rfl, Below.refl _ _⟩
end
set_option maxHeartbeats 4000000 in
theorem find_nil {f : Nat} {F : Nat → Prop} {w : World} {v lv : Value} {o : Sp.O} (h : ORep f F w v o) (hl : TokR w lv []) : Calls Tryz.prog 69 #[v, lv] w fun e w' => oEnd F f 0 (Sp.ofind o []) e w' ∧ Below w.heap.size w w' := by
 obtain ⟨a, c, rfl⟩ : ∃ a c, lv = .slice a 0 c := by
  rcases hl with ⟨_, h⟩ | ⟨h, _⟩
  ·exact h
  ·simp at h
 have HH := hide h
 clear h hl
 go_enter Tryz.func69, Tryz.ntmps69
 go_wp2_with (fail)
 go_ret2
 exact ⟨⟨_, f, rfl, rfl, unhide HH⟩, Below.refl _ _⟩
theorem rFind_any {F : Nat → Prop} : ∀ (l : List Sp.By), (∀ t ∈ l, t.length ≤ 1048576) → FindOk F l
 | [], _ => fun f o w v lv h _ _ hl => find_nil h hl
 | t :: r, ht => fun f o w v lv h hg hc hl => by
  have hr : FindOk F r := rFind_any r fun x hx => ht x (by simp [hx])
  have ht0 := ht t (by simp)
  cases f with
  | zero => exact h.elim
  | succ f =>
   obtain ⟨b, rfl, _, h⟩ := h
   rcases h with ⟨k, hk, rfl, h⟩ | ⟨n, x, rfl, h⟩ | ⟨s, rfl, h⟩ | ⟨es, sl, ps, rfl, h, ho, _, ha⟩ | ⟨es, kl, sl, ps, rfl, h, ho, _, ho2, _, ha⟩
   ·have hw : (Sp.words.getD k [] == [97, 114, 114, 97, 121]) = false := by
     match k, hk with
     | 0, _ => rfl
     | 1, _ => rfl
     | 2, _ => rfl
    exact find_leaf h hw hl
   ·exact find_leaf h rfl hl
   ·exact find_leaf h rfl hl
   ·exact find_arr hr h ho ha (go_arr_of hg) hl ht0 hc
   ·obtain ⟨h1, h2⟩ := go_obj_of hg
    exact find_obj hr h ho ho2 ha h1 h2 hl hc
end Go.Proofs.YtdpomdelmdofmaaGreatDoor

namespace Go.Proofs.YtdpomdelmdofmaaGreatDoor
open Go.RowKit
def SRow (w : World) (g : Nat) (ps : List Sp.By) : Prop := w.heap[g]? = some (.cells (strs ps).toArray 9 (0, 0))
theorem SRow.cell {w : World} {g : Nat} {ps : List Sp.By} (h : SRow w g ps) (k : Nat) (hk : k < ps.length) : w.cell? ⟨g, k, none⟩ = some (.string ⟨ps[k].toArray⟩) := by
 simp [World.cell?, show w.heap[g]? = _ from h, strs, hk]
theorem SRow.lt {w : World} {g : Nat} {ps : List Sp.By} (h : SRow w g ps) : g < w.heap.size := (Array.getElem?_eq_some_iff.1 h).1
theorem SRow.bel {w w' : World} {g : Nat} {ps : List Sp.By} (h : SRow w g ps) (hb : Below w.heap.size w w') : SRow w' g ps := (hb.block g h.lt).trans h
theorem SRow.fz {w : World} {g : Nat} {ps : List Sp.By} (h : SRow w g ps) (k : Nat) : w.frozen? ⟨g, k, none⟩ = false := by
 simp [World.frozen?, show w.heap[g]? = _ from h]
theorem set_mid {α : Type} (v b : α) (c : List α) : ∀ a : List α, (a ++ b :: c).set a.length v = a ++ v :: c
 | [] => rfl
 | x :: a => by
  show x :: (a ++ b :: c).set a.length v = _
  rw [set_mid v b c a]; rfl
theorem SRow.set {w : World} {g : Nat} {ks rest : List Sp.By} {t s : Sp.By} (h : SRow w g ([] :: (ks ++ t :: rest))) : SRow (w.setCell ⟨g, 1 + ks.length, none⟩ (.string ⟨s.toArray⟩)) g ([] :: ((ks ++ [s]) ++ rest)) := by
 have e : (strs ([] :: (ks ++ t :: rest))).toArray.setIfInBounds (1 + ks.length) (.string ⟨s.toArray⟩) = (strs ([] :: ((ks ++ [s]) ++ rest))).toArray := by
  rw [List.setIfInBounds_toArray]
  congr 1
  unfold strs
  rw [Nat.add_comm, List.map_cons, List.set_cons_succ, List.map_cons, List.map_append, List.map_cons, List.append_assoc, List.map_append]
  congr 1
  have := set_mid (Value.string ⟨s.toArray⟩) (Value.string ⟨t.toArray⟩) (rest.map fun p => Value.string ⟨p.toArray⟩) (ks.map fun p => Value.string ⟨p.toArray⟩)
  rw [List.length_map] at this
  rw [this]; rfl
 unfold SRow
 rw [← e]
 simp only [World.setCell, Array.getElem?_modify]
 rw [if_pos trivial, show w.heap[g]? = _ from h]; rfl
theorem keysOf_step {t : Sp.By} {rest : List Sp.By} : Sp.keysOf (t :: rest) = match Sp.une t with | none => none | some k => (Sp.keysOf rest).map (k :: ·) := rfl
theorem pcs_le : ∀ (l : Sp.By), ∀ t ∈ Sp.pcs l, t.length ≤ l.length
 | [], t, h => by
  have : t = [] := by simpa [Sp.pcs] using h
  rw [this]; exact Nat.le_refl _
 | c :: r, t, h => by
  unfold Sp.pcs at h
  split at h
  ·rcases List.mem_cons.1 h with e | e
   ·rw [e]; exact Nat.zero_le _
   ·exact Nat.le_succ_of_le (pcs_le r t e)
  ·split at h
   ·rename_i p ps hp
    rcases List.mem_cons.1 h with e | e
    ·rw [e]
     exact Nat.succ_le_succ (pcs_le r p (by rw [hp]; exact List.mem_cons_self ..))
    ·exact Nat.le_succ_of_le (pcs_le r t (by rw [hp]; exact List.mem_cons_of_mem _ e))
   ·rcases List.mem_cons.1 h with e | e
    ·rw [e]; simp
    ·cases e
def ptrEnd (o : Option (List Sp.By)) (e : Ending) (w' : World) : Prop := match o with
 | some ks => ∃ v, e = .returned (.tuple #[v, .bool true]) ∧ Toks w' v ks
 | none => e = .returned (.tuple #[.slice none 0 0, .bool false])
set_option maxRecDepth 100000 in
set_option maxHeartbeats 8000000 in
theorem pRead_any {l : Sp.By} {w : World} (hn : l.length ≤ 1048576) (hT : Laid w) (hP : PTab w) (hm : Mx w) :
  Calls Tryz.prog 80 #[.string ⟨l.toArray⟩] w fun e w' => ptrEnd (Sp.toks l) e w' ∧ Below w.heap.size w w' := by
 have hv := hide (valid_any l w hn hT)
 obtain ⟨R, hR⟩ : ∃ R, R = Sp.toks l := ⟨_, rfl⟩
 rw [← hR]
 have HR := hide hR
 have HM := hide hm
 have HP := hide hP
 clear hR hm hP hT
 cases hva : Lib.validD l with
 | false =>
  have HV := hide (show R = none by rw [unhide HR]; unfold Sp.toks; rw [hva]; rfl)
  rw [hva] at hv
  clear hva
  go_enter Tryz.func80, Tryz.ntmps80
  go_wp2_with (fail)
  refine (unhide hv).mono ?_
  rintro e w1 ⟨rfl, hb1⟩
  go_wp2_with (fail)
  go_ret2
  exact ⟨by rw [unhide HV]; rfl, hb1⟩
 | true =>
  have HV := hide (show R = match Sp.pcs l with | [] :: r => Sp.keysOf r | _ => none by rw [unhide HR]; unfold Sp.toks; rw [hva]; rfl)
  rw [hva] at hv
  clear hva
  go_enter Tryz.func80, Tryz.ntmps80
  go_wp2_with (fail)
  refine (unhide hv).mono ?_
  rintro e w1 ⟨rfl, hb1⟩
  have HB1 := hide hb1
  have hsp := hide (split_any l w1 hn ((unhide HM).kept hb1))
  clear hb1 hv
  go_wp2_with (fail)
  refine (unhide hsp).mono ?_
  rintro e w2 ⟨rfl, rfl⟩
  have HN := hide (pcs_len l)
  have hcl : l.count 47 ≤ l.length := List.count_le_length
  have h0 : SRow (w1.alloc (.cells (strs (Sp.pcs l)).toArray 9)) w1.heap.size (Sp.pcs l) := by
   show (w1.heap.push _)[w1.heap.size]? = _; simp
  have hba := (unhide HB1).alloc (unhide HB1).size (.cells (strs (Sp.pcs l)).toArray 9)
  have hgs : w1.heap.size < (w1.alloc (.cells (strs (Sp.pcs l)).toArray 9)).heap.size := by simp
  have HBA := hide hba
  have hG := (unhide HB1).size
  clear hba
  have HTP := hide (pcs_le l)
  cases hpc : Sp.pcs l with
  | nil => exact absurd hpc (pcs_ne l)
  | cons t0 tks =>
   rw [hpc] at h0 HV HBA HN HTP
   have hlen : tks.length ≤ 1048576 := by have := unhide HN; simp only [List.length_cons] at this; omega
   generalize w1.alloc (.cells (strs (t0 :: tks)).toArray 9) = w2 at *
   have c0 := h0.cell 0 (by simp)
   simp only [List.getElem_cons_zero] at c0
   have H0 := hide h0
   clear hpc h0 hsp
   cases t0 with
   | cons a q =>
    have HN1 := hide (show R = none from unhide HV)
    go_wp2_with (fail)
    go_ret2
    exact ⟨by rw [unhide HN1]; rfl, unhide HBA⟩
   | nil =>
    have HV1 := hide (show R = Sp.keysOf tks from unhide HV)
    have HTL := hide (show ∀ t ∈ tks, t.length ≤ 1048576 from fun t ht => Nat.le_trans (unhide HTP t (List.mem_cons_of_mem _ ht)) hn)
    clear HV
    simp only [List.length_cons]
    by_cases h00 : tks = []
    ·have HN2 := hide (show R = some [] by rw [unhide HV1, h00]; rfl)
     subst h00
     simp only [List.length_nil]
     go_wp2_with (fail)
     refine wp_loop_rounds 1 ?_
     rw [rounds_succ]
     go_wp2_with (fail)
     go_ret2
     exact ⟨by rw [unhide HN2]; exact ⟨_, rfl, Or.inl ⟨rfl, _, _, rfl, by unfold maxLen; omega⟩⟩, unhide HBA⟩
    ·obtain ⟨N, hN⟩ : ∃ N, N = tks.length := ⟨_, rfl⟩
     have hpos : 0 < N := by rw [hN]; exact List.length_pos_iff.2 h00
     have HNN := hide hN
     rw [← hN]
     have hn1 : (N : Int) ≤ 1048576 := by omega
     have hn2 : (1 : Int) ≤ (N : Int) + 1 := by omega
     clear hN hlen HN h00
     go_wp2_with (fail)
     go_loopw [23] (fun i wr => ∃ (ks rest : List Sp.By), i = .int .i64 ks.length ∧ ks.length + rest.length = N ∧ Hid (SRow wr w1.heap.size ([] :: (ks ++ rest))) ∧ Hid (Below w.heap.size w wr) ∧ Hid (Sp.keysOf tks = (Sp.keysOf rest).map (ks ++ ·)) ∧ Hid (∀ t ∈ rest, t.length ≤ 1048576))
      (fun i _ => N - (intOf i).toNat)
     case atStart => exact ⟨[], tks, rfl, by have := unhide HNN; simp; omega, H0, HBA, by show Sp.keysOf tks = _; cases Sp.keysOf tks <;> rfl, HTL⟩
     case round =>
      obtain ⟨ks, rest, rfl, hkr, HSR, HB, HE, HT2⟩ := hrel
      cases rest with
      | nil =>
       have hkN : ks.length = N := by simpa using hkr
       have HOUT := hide (show ∀ cap, N ≤ cap → cap ≤ maxLen → ptrEnd R (.returned (.tuple #[.slice (some ⟨w1.heap.size, 1, none⟩) N cap, .bool true])) wr from fun cap hca hcm => by
        rw [unhide HV1, unhide HE]
        refine ⟨_, rfl, Or.inr ⟨_, 1, cap, ?_, ?_, hcm, (unhide HSR).lt, fun k hk => ?_⟩⟩
        ·simp [hkN]
        ·simp; omega
        ·have hk2 : k < ks.length := by simpa using hk
         have h9 := (unhide HSR).cell (1 + k) (by simp; omega)
         rw [h9]
         simp [Nat.add_comm 1 k])
       have hlt2 : ¬ ((ks.length : Nat) : Int) < (N : Int) := by omega
       go_wp2_with (fail)
       go_ret2
       exact ⟨unhide HOUT _ (by omega) (by unfold maxLen; omega), unhide HB⟩
      | cons t r =>
       have hlt2 : ((ks.length : Nat) : Int) < (N : Int) := by simp only [List.length_cons] at hkr; omega
       have c1 : wr.cell? ⟨w1.heap.size, 1 + ks.length, none⟩ = some (.string ⟨t.toArray⟩) := by
        rw [(unhide HSR).cell (1 + ks.length) (by simp; omega)]
        simp [Nat.add_comm 1 ks.length]
       have hcall := hide (unescape_any (l := t) (unhide HT2 t (by simp)) ((unhide HP).kept (unhide HB)) ((unhide HM).kept (unhide HB)))
       clear c0
       go_wp2_with (fail)
       refine (unhide hcall).mono ?_
       rintro e w3 ⟨hue, hb3⟩
       have HB3 := hide ((unhide HB).trans (hb3.mono (unhide HB).size))
       have HSR3 := hide ((unhide HSR).bel hb3)
       clear hb3 hcall c1
       cases hun : Sp.une t with
       | none =>
        rw [hun] at hue
        have hue2 : e = .returned (.tuple #[.string ⟨#[]⟩, .bool false]) := hue
        subst hue2
        have HN2 := hide (show R = none by rw [unhide HV1, unhide HE, keysOf_step, hun]; rfl)
        clear hue hun
        go_wp2_with (fail)
        go_ret2
        exact ⟨by rw [unhide HN2]; rfl, unhide HB3⟩
       | some s =>
        rw [hun] at hue
        have hue2 : e = .returned (.tuple #[.string ⟨s.toArray⟩, .bool true]) := hue
        subst hue2
        have HE3 := hide (show Sp.keysOf tks = (Sp.keysOf r).map ((ks ++ [s]) ++ ·) by
         rw [unhide HE, keysOf_step, hun]
         cases Sp.keysOf r <;> simp)
        have fz := (unhide HSR3).fz (1 + ks.length)
        have c3 : w3.cell? ⟨w1.heap.size, 1 + ks.length, none⟩ = some (.string ⟨t.toArray⟩) := by
         rw [(unhide HSR3).cell (1 + ks.length) (by simp; omega)]
         simp [Nat.add_comm 1 ks.length]
        clear hue hun
        go_wp2_with (fail)
        refine ⟨⟨ks ++ [s], r, by simp, ?_, (unhide HSR3).set, (unhide HB3).setCell (p := ⟨w1.heap.size, 1 + ks.length, none⟩) hG _, HE3, fun t' ht' => unhide HT2 t' (by simp [ht'])⟩, ?_⟩
        ·simp only [List.length_append, List.length_cons, List.length_nil] at hkr ⊢; omega
        ·simp only [List.length_cons] at hkr; simp only [intOf]; omega
end Go.Proofs.YtdpomdelmdofmaaGreatDoor

namespace Go.Proofs.YtdpomdelmdofmaaGreatDoor
open Go.RowKit
theorem found_can {F : Nat → Prop} {w : World} {v : Value} {dd xx lv : Int} {d e : Sp.V} {l : List Sp.By} (hg : Sp.gd dd xx top lv d) (hl : (Sp.can top d).length ≤ 80000) (hf : Sp.find d l = .ok e) (h : RepE F w v e) :
  ∃ M, Rep M F w v e ∧ Sp.can M e = Sp.can top e ∧ (Sp.can M e).length ≤ 80000 := by
 obtain ⟨f', lv', h1, h2, h3⟩ := gd_find l top lv d e hg hf
 obtain ⟨f, h⟩ := h
 refine ⟨max f top, h.up (Nat.le_max_left _ _), ?_, ?_⟩
 ·rw [can_up f' _ lv' e h2 (Nat.le_trans h1 (Nat.le_max_right _ _)), can_up f' _ lv' e h2 h1]
 ·rw [can_up f' _ lv' e h2 (Nat.le_trans h1 (Nat.le_max_right _ _))]; omega
theorem find_err : ∀ {l : List Sp.By} {d : Sp.V} {c : Nat}, Sp.find d l = .error c → c = 11 ∨ c = 12
 | [], d, c, h => by cases h
 | t :: r, d, c, h => by
  unfold Sp.find at h
  split at h
  ·exact find_err h
  ·rename_i c2 hc
   injection h with h
   subst h
   exact child_err hc
set_option maxHeartbeats 4000000 in
theorem get_ok : GetOk := by
 intro S d e n p v F s w hn hS hD hT
 obtain ⟨D, R, wp, rfl, hdw⟩ := hD
 have hba : Below w.heap.size w (w.alloc (.cells #[.int .i64 0, .int .i64 0, .string ⟨#[]⟩] 46)) := (Below.refl _ _).alloc (Nat.le_refl _) _
 have hTa := hT.below (hba.mono hT.ng)
 have hcall := hide (pRead_any hn hTa hTa.pesc hTa.mx)
 have HDW := hide (hdw.bel hba)
 have HS := hide (hS.low hba)
 have HT := hide hTa
 have HA := hide (AB.new w)
 have HBA := hide hba
 have hng := hT.ng
 have hTL := hide (fun ks (h : Sp.toks s = some ks) => toks_len h)
 obtain ⟨RR, hRR⟩ : ∃ RR, RR = Sp.gotA v.1 s := ⟨_, rfl⟩
 rw [← hRR]
 have HRR := hide hRR
 clear hT hS hdw hTa hba hRR
 go_enter Tryz.func57, Tryz.ntmps57
 go_wp2_with (fail)
 refine (unhide hcall).mono ?_
 rintro x w1 ⟨he, hb1⟩
 have A1 := hide ((unhide HA).low hb1)
 have S1 := hide ((unhide HS).low hb1)
 have D1 := hide ((unhide HDW).bel hb1)
 have T1 := hide ((unhide HT).below (hb1.mono (unhide HT).ng))
 have hb01 := (unhide HBA).trans (hb1.mono (unhide HBA).size)
 have HB1 := hide hb01
 clear hb1 hb01 HA HS HDW HBA HT hcall
 cases htk : Sp.toks s with
 | none =>
  rw [htk] at he
  have he2 : x = .returned (.tuple #[.slice none 0 0, .bool false]) := he
  subst he2
  have HE := hide (show RR = (9, 0, []) by rw [unhide HRR]; unfold Sp.gotA; rw [htk])
  clear he htk
  go_wp2_with (fail)
  refine (failed_any 9 _).mono ?_
  rintro x w2 ⟨rfl, hb2⟩
  have a2 := (unhide A1).low hb2
  have g0 := a2.c0
  have g1 := a2.c1
  have g2 := a2.c2
  have z := a2.fz
  have HB2 := hide ((unhide HB1).trans (hb2.mono (unhide HB1).size))
  clear a2 hb2
  unfold ansV
  go_wp2_with (fail)
  refine bodyPost_ret (v := ansV 9 []) (by simp [results, Tryz.results57, go_sem, ansV, g0, g1, g2]) rfl ⟨?_, ?_⟩
  ·rw [unhide HE]; rfl
  ·exact below_set (below_set (below_set (unhide HB2) _ 0 (by omega) _) _ 1 (by omega) _) _ 2 (by omega) _
 | some ks =>
  rw [htk] at he
  obtain ⟨pv, rfl, hpv⟩ := he
  have HPV := hide hpv
  have HTK := hide htk
  clear hpv htk
  have d0 := (unhide S1).c3
  go_wp2_with (fail)
  refine (Whole_any (unhide D1)).mono ?_
  rintro x w2 ⟨rfl, hb2⟩
  have A2 := hide ((unhide A1).low hb2)
  have D2 := hide ((unhide D1).bel hb2)
  have T2 := hide ((unhide T1).below (hb2.mono (unhide T1).ng))
  have P2 := hide ((unhide HPV).bel hb2)
  have HB2 := hide ((unhide HB1).trans (hb2.mono (unhide HB1).size))
  clear hb2 A1 D1 T1 HPV HB1 d0
  go_wp2_with (fail)
  have hkl := unhide hTL ks (unhide HTK)
  refine (Find_any (F := F) (d := v.1) (fun t ht => Nat.le_trans (hkl.2 t ht) hn) (Nat.le_trans hkl.1 hn) (unhide T2).rng ⟨top, (unhide D2).rep⟩ (unhide P2)).mono ?_
  rintro x w3 ⟨ho, hb3⟩
  have A3 := hide ((unhide A2).low hb3)
  have D3 := hide ((unhide D2).bel hb3)
  have T3 := hide ((unhide T2).below (hb3.mono (unhide T2).ng))
  have HB3 := hide ((unhide HB2).trans (hb3.mono (unhide HB2).size))
  clear hb3 A2 D2 T2 P2 HB2 hkl
  cases hfd : Sp.find v.1 ks with
  | error c =>
   rw [hfd] at ho
   have ho2 : x = .returned (.tuple #[.pointer none, .int .i64 c]) := ho
   subst ho2
   have HE := hide (show RR = (c, 0, []) by rw [unhide HRR]; unfold Sp.gotA; rw [unhide HTK]; simp only [hfd])
   have hc0 : c = 11 ∨ c = 12 := find_err hfd
   have e1 : ((c : Int) == 0) = false := by rw [beq_eq_false_iff_ne]; omega
   have e2 : ((c : Int) != 0) = true := by rw [bne_iff_ne]; omega
   clear ho hfd hc0
   go_wp2_with (fail)
   refine (failed_any c _).mono ?_
   rintro x w4 ⟨rfl, hb4⟩
   have a2 := (unhide A3).low hb4
   have g0 := a2.c0
   have g1 := a2.c1
   have g2 := a2.c2
   have z := a2.fz
   have HB4 := hide ((unhide HB3).trans (hb4.mono (unhide HB3).size))
   clear a2 hb4
   unfold ansV
   go_wp2_with (fail)
   refine bodyPost_ret (v := ansV c []) (by simp [results, Tryz.results57, go_sem, ansV, g0, g1, g2]) rfl ⟨?_, ?_⟩
   ·rw [unhide HE]; rfl
   ·exact below_set (below_set (below_set (unhide HB4) _ 0 (by omega) _) _ 1 (by omega) _) _ 2 (by omega) _
  | ok y =>
   rw [hfd] at ho
   obtain ⟨yv, rfl, hy⟩ := ho
   have HE := hide (show RR = (0, 0, Sp.can top y) by rw [unhide HRR]; unfold Sp.gotA; rw [unhide HTK]; simp only [hfd])
   have hgd := (unhide D3).gd
   obtain ⟨M, hM, hMc, hMl⟩ := found_can hgd (unhide D3).len hfd hy
   have HCAN := hide (Canonical_any hM (unhide T3) (by omega))
   rw [hMc] at HCAN
   clear hfd hy hgd hM hMc hMl
   go_wp2_with (fail)
   refine (unhide HCAN).mono ?_
   rintro x w4 ⟨rfl, hb4⟩
   have a2 := (unhide A3).low hb4
   have g0 := a2.c0
   have g1 := a2.c1
   have g2 := a2.c2
   have z := a2.fz
   have HB4 := hide ((unhide HB3).trans (hb4.mono (unhide HB3).size))
   clear a2 hb4 HCAN
   go_wp2_with (fail)
   refine bodyPost_ret (v := ansV 0 (Sp.can top y)) (by simp [results, Tryz.results57, go_sem, ansV, g0, g1, g2]) rfl ⟨?_, ?_⟩
   ·rw [unhide HE]; rfl
   ·exact below_set (below_set (below_set (unhide HB4) _ 0 (by omega) _) _ 1 (by omega) _) _ 2 (by omega) _
end Go.Proofs.YtdpomdelmdofmaaGreatDoor
