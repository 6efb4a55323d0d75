/-
  Walk of the reference's (*Val).get.
-/
import Derived.Test.YtdpomdelmdofmaaGreatDoorPart35
namespace Go.Proofs.YtdpomdelmdofmaaGreatDoor
open Go.RowKit
def Sp.fstK (k : Sp.By) : List Sp.By → List Value → Value
 | a :: r, p :: q => if a = k then p else Sp.fstK k r q
 | _, _ => .pointer none
theorem fstK_step {k : Sp.By} {ks : List Sp.By} {ps : List Value} {j : Nat} (h1 : j < ks.length) (h2 : j < ps.length) : Sp.fstK k (ks.drop j) (ps.drop j) = if ks[j] = k then ps[j] else Sp.fstK k (ks.drop (j + 1)) (ps.drop (j + 1)) := by
 rw [List.drop_eq_getElem_cons h1, List.drop_eq_getElem_cons h2]; rfl
set_option maxRecDepth 100000 in
set_option maxHeartbeats 4000000 in
theorem rGet_any {w : World} {b B1 B2 : Nat} {kd : Sp.By} {ng : Bool} {ds : Sp.By} {x : Int} {s : Sp.By} {kl sl : Value} {ks : List Sp.By} {ps : List Value} (h : OB w b kd ng ds x s kl sl) (hk : w.ownsRow B1 9 1 kl ks.length (ks.map strV)) (hv : w.ownsRow B2 66 1 sl ps.length ps)
  (hl : ps.length = ks.length) (key : Sp.By) :
  Calls Tryz.prog 95 #[.pointer (some ⟨b, 0, none⟩), .string ⟨key.toArray⟩] w fun e w' => e = .returned (Sp.fstK key ks ps) ∧ w' = w := by
 have c5 := h.c5
 have c6 := h.c6
 obtain ⟨n, hn⟩ : ∃ n, n = ks.length := ⟨_, rfl⟩
 by_cases h0 : n = 0
 ·have hks : ks = [] := List.eq_nil_of_length_eq_zero (by omega)
  subst hks
  have hz : ∃ a c, kl = .slice a 0 c := by
   rcases hk.2 with ⟨e, _⟩ | ⟨g, cap, cur, e, _⟩
   ·exact ⟨none, 0, e⟩
   ·exact ⟨_, cap, e⟩
  obtain ⟨a, c, rfl⟩ := hz
  clear h hk hv hl hn h0
  go_enter Tryz.func95, Tryz.ntmps95
  go_wp2_with (fail)
  refine wp_loop_rounds 1 ?_
  rw [rounds_succ]
  go_wp2_with (fail)
  go_ret
  exact ⟨rfl, rfl⟩
 ·obtain ⟨g1, p1, e1, a1, b1, l1, hc1⟩ := owns_cell hk (by omega)
  obtain ⟨g2, p2, e2, a2, b2, l2, hc2⟩ := owns_cell hv (by omega)
  subst e1 e2
  rw [hl, ← hn] at c6
  rw [← hn] at c5
  have hn1 : (n : Int) ≤ 9223372036854775807 := by unfold maxLen at b1; omega
  have HN := hide hn
  have HL := hide hl
  have hnp : n ≤ p1 := by omega
  have hnp2 : n ≤ p2 := by omega
  have HC1 := hide hc1
  have HC2 := hide hc2
  clear h hk hv hn hl h0 hc1 hc2
  go_enter Tryz.func95, Tryz.ntmps95
  go_wp2_with (fail)
  go_loopw [5] (fun i wr => ∃ j : Nat, j ≤ n ∧ i = .int .i64 j ∧ Sp.fstK key ks ps = Sp.fstK key (ks.drop j) (ps.drop j) ∧ wr = w) (fun i _ => n - (intOf i).toNat)
  case atStart => exact ⟨0, by omega, rfl, rfl, rfl⟩
  case round =>
   obtain ⟨j, hj, rfl, he, rfl⟩ := hrel
   have HE := hide he
   clear he
   by_cases hlt : j < n
   ·have hjk : j < ks.length := by have := unhide HN; omega
    have hjp : j < ps.length := by have := unhide HN; have := unhide HL; omega
    have q1 := unhide HC1 j (by simpa using hjk)
    have q2 := unhide HC2 j hjp
    have HST := hide (fstK_step (k := key) hjk hjp)
    rw [List.getElem_map] at q1
    unfold strV at q1
    by_cases hkey : ks[j] = key
    ·rw [hkey] at q1
     have HK := hide hkey
     clear hkey
     go_wp2_with (fail)
     go_ret
     exact ⟨by rw [unhide HE, unhide HST, if_pos (unhide HK)]; rfl, rfl⟩
    ·have HK := hide hkey
     have e1 : (ks[j] == key) = false := beq_eq_false_iff_ne.2 hkey
     clear hkey
     go_wp2_with (fail)
     exact ⟨⟨j + 1, by omega, by go_num, by rw [unhide HE, unhide HST, if_neg (unhide HK)], trivial⟩, by simp only [intOf]; omega⟩
   ·go_wp2_with (fail)
    go_ret
    have hjn : j = ks.length := by have := unhide HN; omega
    exact ⟨by rw [unhide HE, hjn, List.drop_length]; cases ps.drop ks.length <;> rfl, rfl⟩
end Go.Proofs.YtdpomdelmdofmaaGreatDoor

namespace Go.Proofs.YtdpomdelmdofmaaGreatDoor
open Go.RowKit
def OvEnd (o : Option (Sp.O × Sp.By)) (f : Nat) (t : ByteArray) (R : Nat) (mo : Int) (tw far : Bool) (w : World) (e : Ending) (w' : World) : Prop :=
 KeptX R w w' ∧ ((∃ (d : Sp.O) (r : Sp.By) (V q : Nat), o = some (d, r) ∧ e = .returned (.tuple #[.pointer (some ⟨V, 0, none⟩), .int .i64 q]) ∧ At t q r ∧ ORep f (fun k => w.heap.size ≤ k) w' (.pointer (some ⟨V, 0, none⟩)) d ∧ RB w' R t mo (tw || Sp.twO f d) (far || Sp.faO mo f d)) ∨
  (o = none ∧ e = .returned (.tuple #[.pointer none, .int .i64 0]) ∧ ∃ tw' far', RB w' R t mo tw' far'))
def OvOk (f : Nat) : Prop := ∀ (R : Nat) (t : ByteArray) (mo : Int) (tw far : Bool) (p : Nat) (l : Sp.By) (w : World), RB w R t mo tw far → At t p l → 0 ≤ mo ∧ mo ≤ 400 → l.length < f →
 Calls Tryz.prog 91 #[.pointer (some ⟨R, 0, none⟩), .int .i64 p] w fun e w' => OvEnd (Sp.rval f l) f t R mo tw far w e w'
structure OArrI (f R : Nat) (t : ByteArray) (mo : Int) (tw far : Bool) (w0 w : World) (es : List Sp.O) : Prop where
 rb : RB w R t mo (tw || es.any (Sp.twO f)) (far || es.any (Sp.faO mo f))
 kept : KeptX R w0 w
 sz : w0.heap.size + 1 ≤ w.heap.size
 el : ∃ sl ps, OB w w0.heap.size Sp.kdA false [] 0 [] nilS sl ∧ w.ownsRow (w0.heap.size + 1) 66 1 sl ps.length ps ∧ Al (ORep f (fun k => w0.heap.size + 1 ≤ k ∧ sl.ownBlock ≠ some k) w) ps es
theorem RB.blk {w w' : World} {R : Nat} {t : ByteArray} {mo : Int} {tw far : Bool} (h : RB w R t mo tw far) (e : w'.heap[R]? = w.heap[R]?) : RB w' R t mo tw far := e.trans h
theorem oarr_fin {f R : Nat} {t : ByteArray} {mo : Int} {tw far tw2 far2 : Bool} {w0 w w2 w3 : World} {es : List Sp.O} {d : Sp.O} (hR : R < w0.heap.size) (hkept : KeptX R w0 w) (hsz : w0.heap.size + 1 ≤ w.heap.size) (hk2 : KeptX R w w2) (hr2 : RB w2 R t mo tw2 far2)
  (htw : tw2 = (tw || (es ++ [d]).any (Sp.twO f))) (hfar : far2 = (far || (es ++ [d]).any (Sp.faO mo f)))
  {sl : Value} {ps : List Value} (hob : OB w w0.heap.size Sp.kdA false [] 0 [] nilS sl) (hown : w.ownsRow (w0.heap.size + 1) 66 1 sl ps.length ps) (hal : Al (ORep f (fun k => w0.heap.size + 1 ≤ k ∧ sl.ownBlock ≠ some k) w) ps es)
  {p : Option Addr} {o : Obj} {g cap : Nat} (hown3 : w3.ownsRow (w0.heap.size + 1) 66 1 (.slice (some ⟨g, 0, none⟩) (ps.length + 1) cap) (ps.length + 1) (ps ++ [.pointer p])) (hgrow : (w2.alloc o).grownBy w3 sl.ownBlock) (hat : sl.ownBlock = some g ∨ g = w2.heap.size + 1)
  (hrep : ORep f (fun k => w.heap.size ≤ k) w2 (.pointer p) d) :
  OArrI f R t mo tw far w0 (w3.setCell ⟨w0.heap.size, 6, none⟩ (.slice (some ⟨g, 0, none⟩) (ps.length + 1) cap)) (es ++ [d]) := by
 have hs2 := hk2.size
 have gs := hgrow.size
 have hsa : (w2.alloc o).heap.size = w2.heap.size + 1 := by simp
 have k3 : ∀ k, k < w2.heap.size → some k ≠ sl.ownBlock → w3.heap[k]? = w2.heap[k]? := fun k h1 h2 => (hgrow.block k (by omega) h2).trans (Below.heap_alloc w2 o k h1)
 have nlow : ∀ k, k < w0.heap.size + 1 → some k ≠ sl.ownBlock := fun k hk h => by have := (owns_lt hown k h.symm).2; omega
 have k4 : ∀ k, k < w2.heap.size → some k ≠ sl.ownBlock → k ≠ w0.heap.size → (w3.setCell ⟨w0.heap.size, 6, none⟩ (.slice (some ⟨g, 0, none⟩) (ps.length + 1) cap)).heap[k]? = w2.heap[k]? := fun k h1 h2 h3 => (Below.heap_setCell _ _ _ _ h3).trans (k3 k h1 h2)
 have hg : w0.heap.size + 1 ≤ g := (owns_lt hown3 g rfl).2
 have kx : KeptX R w0 (w3.setCell ⟨w0.heap.size, 6, none⟩ (.slice (some ⟨g, 0, none⟩) (ps.length + 1) cap)) := by
  have hk := hkept.trans hk2
  refine ⟨hgrow.os.trans hk.os, hgrow.tape.trans hk.tape, hgrow.output.trans hk.output, ?_, ?_⟩
  ·have := hk.size; simp [World.setCell]; omega
  ·intro k h1 h2
   exact (k4 k (by have := hk.size; omega) (nlow k (by omega)) (by omega)).trans (hk.block k h1 h2)
 refine ⟨?_, kx, by simp [World.setCell]; omega, .slice (some ⟨g, 0, none⟩) (ps.length + 1) cap, ps ++ [.pointer p], ?_, ?_, ?_⟩
 ·rw [← htw, ← hfar]; exact hr2.blk (k4 R (by omega) (nlow R (by omega)) (by omega))
 ·exact OB.set6 (hob.kept ((k3 _ (by omega) (nlow _ (by omega))).trans (hk2.block _ (by omega) (by omega)))) _
 ·have : (ps ++ [Value.pointer p]).length = ps.length + 1 := by simp
  rw [this]
  exact owns_kept hown3 (fun g' hg' => by
   have : g' = g := by simpa [Value.ownBlock] using hg'.symm
   subst this
   exact Below.heap_setCell _ _ _ _ (show g' ≠ w0.heap.size by omega))
 ·refine Al.snoc (ORep.move ?_ hrep) (hal.mono fun _ _ h => ORep.move ?_ h)
  ·intro k h1 h2
   have h3 : some k ≠ sl.ownBlock := fun h => by have := (owns_lt hown k h.symm).1; omega
   refine ⟨k4 k h2 h3 (by omega), by omega, ?_⟩
   intro h
   have hgk : g = k := by simpa [Value.ownBlock] using h
   rcases hat with h4 | h4
   ·exact h3 (by rw [h4, hgk])
   ·omega
  ·intro k h1 h2
   have h3 : some k ≠ sl.ownBlock := fun h => h1.2 h.symm
   refine ⟨(k4 k (by omega) h3 (by omega)).trans (hk2.block k h2 (by omega)), h1.1, ?_⟩
   intro h
   have hgk : g = k := by simpa [Value.ownBlock] using h
   rcases hat with h4 | h4
   ·exact h3 (by rw [h4, hgk])
   ·omega
theorem skB_idem (l : Sp.By) : Sp.skB (Sp.skB l) = Sp.skB l := by
 induction l with
 | nil => rfl
 | cons c r ih =>
  by_cases h : Sp.isB c = true
  ·have e : Sp.skB (c :: r) = Sp.skB r := by rw [Sp.skB, if_pos h]
   rw [e, ih]
  ·have e : Sp.skB (c :: r) = c :: r := by rw [Sp.skB, if_neg h]
   rw [e, e]
end Go.Proofs.YtdpomdelmdofmaaGreatDoor

namespace Go.Proofs.YtdpomdelmdofmaaGreatDoor
open Go.RowKit
theorem lst_step {σ : Type} {cl : UInt8} {item : Sp.By → σ → Option (Sp.By × σ)} {n : Nat} {l : Sp.By} {s : σ} (hn : l.length < n) (hl : Sp.skB l = l) : Sp.lst cl item n l s = match item l s with
  | none => none
  | some (l1, s1) => if Sp.tk (Sp.skB l1) cl then some ((Sp.skB l1).tail, s1) else if Sp.tk (Sp.skB l1) 44 then Sp.lst cl item (n - 1) (Sp.skB l1).tail s1 else none := by
 obtain ⟨m, rfl⟩ : ∃ m, n = m + 1 := ⟨n - 1, by omega⟩
 rw [Sp.lst, hl]
 rfl
theorem lst_skB {σ : Type} {cl : UInt8} {item : Sp.By → σ → Option (Sp.By × σ)} (n : Nat) (l : Sp.By) (s : σ) : Sp.lst cl item n (Sp.skB l) s = Sp.lst cl item n l s := by
 cases n with
 | zero => rfl
 | succ n => rw [Sp.lst, Sp.lst, skB_idem]
theorem rval_len (f : Nat) (l : Sp.By) (o : Sp.O) (r : Sp.By) (h : Sp.rval f l = some (o, r)) : r.length < l.length := by
 have h2 := val_rval f 1 l (false, (0, 0)) (Int.le_refl _)
 rw [h] at h2
 exact Sp.val_len _ _ _ _ _ _ _ h2
theorem rval_arr (f : Nat) (r : Sp.By) : Sp.rval (f + 1) (91 :: r) = if Sp.tk (Sp.skB r) 93 then some (Sp.oArr [], (Sp.skB r).tail) else (Sp.lst 93 (Sp.relem (Sp.rval f)) ((Sp.skB r).length + 1) (Sp.skB r) []).map fun x => (Sp.oArr x.2, x.1) := by
 have e : Sp.lstAll 91 93 (Sp.relem (Sp.rval f)) (91 :: r) [] = if Sp.tk (Sp.skB r) 93 = true then some ((Sp.skB r).tail, []) else Sp.lst 93 (Sp.relem (Sp.rval f)) ((Sp.skB r).length + 1) (Sp.skB r) [] := by
  unfold Sp.lstAll; rw [if_pos (by rfl)]; rfl
 rw [Sp.rval, if_neg (by simp [Sp.pk]), if_pos (by simp [Sp.pk]), e]
 cases h : Sp.tk (Sp.skB r) 93 with
 | true => simp
 | false =>
  simp only [Bool.false_eq_true, if_false]
  cases Sp.lst 93 (Sp.relem (Sp.rval f)) ((Sp.skB r).length + 1) (Sp.skB r) [] <;> rfl
theorem relem_step {f n : Nat} {l r : Sp.By} {es : List Sp.O} {d : Sp.O} {X : Option (Sp.By × List Sp.O)} (hx : Sp.lst 93 (Sp.relem (Sp.rval f)) n l es = X) (hn : l.length < n) (hl : Sp.skB l = l) (hs : Sp.rval f l = some (d, r)) :
  X = if Sp.tk (Sp.skB r) 93 then some ((Sp.skB r).tail, es ++ [d]) else if Sp.tk (Sp.skB r) 44 then Sp.lst 93 (Sp.relem (Sp.rval f)) (n - 1) (Sp.skB (Sp.skB r).tail) (es ++ [d]) else none := by
 rw [← hx, lst_step hn hl, lst_skB]
 unfold Sp.relem
 rw [hs]
theorem relem_none {f n : Nat} {l : Sp.By} {es : List Sp.O} {X : Option (Sp.By × List Sp.O)} (hx : Sp.lst 93 (Sp.relem (Sp.rval f)) n l es = X) (hn : l.length < n) (hl : Sp.skB l = l) (hs : Sp.rval f l = none) : X = none := by
 rw [← hx, lst_step hn hl]
 unfold Sp.relem
 rw [hs]
theorem OvEnd.fail {o : Option (Sp.O × Sp.By)} {f : Nat} {t : ByteArray} {R : Nat} {mo : Int} {tw far tw' far' : Bool} {w w' : World} (h : o = none) (hk : KeptX R w w') (hr : RB w' R t mo tw' far') :
  OvEnd o f t R mo tw far w (.returned (.tuple #[.pointer none, .int .i64 0])) w' := ⟨hk, Or.inr ⟨h, rfl, _, _, hr⟩⟩
theorem OArrI.done {f R : Nat} {t : ByteArray} {mo : Int} {tw far : Bool} {w0 w : World} {es : List Sp.O} (h : OArrI f R t mo tw far w0 w es) {o : Option (Sp.O × Sp.By)} {r : Sp.By} {q : Nat} (ho : o = some (Sp.oArr es, r)) (ha : At t q r) :
  OvEnd o (f + 1) t R mo tw far w0 (.returned (.tuple #[.pointer (some ⟨w0.heap.size, 0, none⟩), .int .i64 q])) w := by
 obtain ⟨sl, ps, hob, hown, hal⟩ := h.el
 refine ⟨h.kept, Or.inl ⟨_, r, w0.heap.size, q, ho, rfl, ha, ?_, h.rb⟩⟩
 refine ⟨w0.heap.size, rfl, Nat.le_refl _, Or.inr (Or.inr (Or.inr (Or.inl ⟨es, sl, ps, rfl, hob, ?_, ?_, hal.mono fun _ _ h => ORep.move (fun k h1 _ => ⟨rfl, by omega⟩) h⟩)))⟩
 ·exact ⟨hown.1, hown.2.imp id fun ⟨g, cap, cur, h1, _, h3⟩ => ⟨g, cap, cur, h1, Nat.zero_le _, h3⟩⟩
 ·intro g hg; have := (owns_lt hown g hg).2; omega
set_option maxRecDepth 100000 in
set_option maxHeartbeats 8000000 in
theorem oArray_ok {f : Nat} (hV : OvOk f) {R : Nat} {t : ByteArray} {mo : Int} {tw far : Bool} {p : Nat} {r : Sp.By} {w : World} (hr : RB w R t mo tw far) (ha : At t p (91 :: r)) (hmo : 0 ≤ mo ∧ mo ≤ 400) (hlf : r.length < f) :
  Calls Tryz.prog 129 #[.pointer (some ⟨R, 0, none⟩), .int .i64 p] w fun e w' => OvEnd (Sp.rval (f + 1) (91 :: r)) (f + 1) t R mo tw far w e w' := by
 obtain ⟨i0, hi0, hz0, hz1, hz2⟩ := info_parts o_ptr
 obtain ⟨X, hX⟩ : ∃ X, X = Sp.lst 93 (Sp.relem (Sp.rval f)) ((Sp.skB r).length + 1) (Sp.skB r) [] := ⟨_, rfl⟩
 have hrv : Sp.rval (f + 1) (91 :: r) = if Sp.tk (Sp.skB r) 93 then some (Sp.oArr [], (Sp.skB r).tail) else X.map fun x => (Sp.oArr x.2, x.1) := by rw [hX]; exact rval_arr f r
 obtain ⟨w1, hw1⟩ : ∃ w1, w1 = w.alloc (.cells #[.string ⟨#[97, 114, 114, 97, 121]⟩, .bool false, .string ⟨#[]⟩, .int .i64 0, .string ⟨#[]⟩, .slice none 0 0, .slice none 0 0] 91) := ⟨_, rfl⟩
 have hRl := hr.lt
 have hI1 : OArrI f R t mo tw far w w1 [] := by
  refine ⟨?_, ?_, ?_, nilS, [], ?_, World.ownsRow_nil _ _ _ _, trivial⟩
  ·simp only [List.any_nil, Bool.or_false]; rw [hw1]; exact (Below.heap_alloc _ _ _ hRl).trans hr
  ·rw [hw1]; exact (KeptX.refl R w).alloc _
  ·rw [hw1]; simp
  ·rw [hw1]; exact heap_new _ _ _ rfl
 have hsz := ha.small
 have hln := ha.len
 have hple := ha.le
 have hplt := ha.lt
 simp only [List.length_cons] at hln
 have HA := hide ha.next
 have HI1 := hide hI1
 have HRV := hide hrv
 have HX := hide hX
 have HV := hide hV
 have hskr := Sp.skB_len r
 clear hr ha hI1 hrv hX hV
 go_enter Tryz.func129, Tryz.ntmps129
 go_wp2_with (fail)
 rw [← hw1]
 have HW1 := hide hw1
 clear hw1
 refine (rOver_any (unhide HI1).rb.rs (unhide HA)).mono ?_
 rintro e w2 ⟨⟨q, rfl, hq⟩, rfl⟩
 have HQ := hide hq
 have hql := hq.le
 clear hq
 go_wp2_with (fail)
 refine (rIs_any (unhide HI1).rb.rs (unhide HQ) 93 _ rfl).mono ?_
 rintro e w3 ⟨rfl, rfl⟩
 cases h93 : Sp.tk (Sp.skB r) 93 with
 | true =>
  have H93 := hide h93
  have HF := hide ((unhide HI1).done (o := Sp.rval (f + 1) (91 :: r)) (by rw [unhide HRV, if_pos h93]) ((unhide HQ).tail h93))
  clear h93
  go_wp2_with (fail)
  go_ret2
  exact unhide HF
 | false =>
  have HRV2 := hide (show Sp.rval (f + 1) (91 :: r) = X.map fun x => (Sp.oArr x.2, x.1) by rw [unhide HRV, if_neg (by rw [h93]; decide)])
  clear h93
  go_wp2_with (fail)
  go_loopw [1] (fun a wr => ∃ (q : Nat) (l' : Sp.By) (es : List Sp.O) (n : Nat), a = .int .i64 q ∧ At t q l' ∧ Sp.skB l' = l' ∧ l'.length < n ∧ l'.length < f ∧ Sp.lst 93 (Sp.relem (Sp.rval f)) n l' es = X ∧ OArrI f R t mo tw far w wr es ∧ es.length + l'.length ≤ 2001) (fun a _ => t.size - (intOf a).toNat)
  case atStart => exact ⟨q, Sp.skB r, [], (Sp.skB r).length + 1, rfl, unhide HQ, skB_idem r, by omega, by omega, (unhide HX).symm, unhide HI1, by simp; omega⟩
  case round =>
   obtain ⟨q, l', es, n, rfl, hat, hsk, hln, hlf', hlst, hI, hes⟩ := hrel
   have hatl := hat.len
   have hatle := hat.le
   have HAT := hide hat
   have HSK := hide hsk
   have HLST := hide hlst
   have HI := hide hI
   have hcall := hide ((unhide HV) R t mo _ _ q l' wr hI.rb hat hmo hlf')
   clear hat hsk hlst hI
   go_wp2_with (fail)
   refine (unhide hcall).mono ?_
   rintro e w5 ⟨hk5, hc⟩
   rcases hc with ⟨d, r', V, q2, hs, rfl, hat2, hrep, hrb⟩ | ⟨hs, rfl, tw', far', hrb⟩
   ·obtain ⟨sl, ps, hob, hown, hal⟩ := (unhide HI).el
    have hlen2 := rval_len _ _ _ _ hs
    have hpl : ps.length ≤ 2001 := by have := hal.length; omega
    have hszw := (unhide HI).sz
    have hob2 := hob.kept (hk5.block w.heap.size (by omega) (by omega))
    have hown2 := owns_kept hown (fun g hg => hk5.block g (owns_lt hown g hg).1 (by have := (owns_lt hown g hg).2; omega))
    have hs5 := hk5.size
    have nv : some w.heap.size ≠ sl.ownBlock := fun h => by have := (owns_lt hown _ h.symm).2; omega
    have q6 := hob2.c6
    have q6' : ∀ o, (w5.alloc o).cell? ⟨w.heap.size, 6, none⟩ = some sl := fun o => by rw [World.cell?_of_block (w := w5) (Below.heap_alloc w5 o w.heap.size (by omega))]; exact q6
    have z6' : ∀ o, (w5.alloc o).frozen? ⟨w.heap.size, 6, none⟩ = false := fun o => by rw [World.frozen?_of_block (w := w5) (Below.heap_alloc w5 o w.heap.size (by omega))]; exact hob2.fz 6
    have HFIN := hide (fun (w3 : World) (g cap : Nat) (o : Obj) (h1 : w3.ownsRow (w.heap.size + 1) 66 1 (.slice (some ⟨g, 0, none⟩) (ps.length + 1) cap) (ps.length + 1) (ps ++ [.pointer (some ⟨V, 0, none⟩)])) (h2 : (w5.alloc o).grownBy w3 sl.ownBlock) (h3 : sl.ownBlock = some g ∨ g = w5.heap.size + 1) =>
     oarr_fin (es := es) (d := d) hRl (unhide HI).kept hszw hk5 hrb (tw := tw) (far := far) (by simp [Bool.or_assoc]) (by simp [Bool.or_assoc]) hob hown hal h1 h2 h3 hrep)
    have HS := hide hs
    have HAT2 := hide hat2
    have HOWN2 := hide hown2
    clear hs hat2 hrep hrb hob hown hal hob2 hown2 hcall
    go_wp2_with (at_builtin; refine wpList_append_lies _ rfl _ _ _ rfl (w.heap.size + 1) 66 i0 _ 1 8 Tryz.underlying89 hi0 hz0 hz1 hz2 rfl (by decide) sl ps.length ps rfl ((unhide HOWN2).alloc _) ⟨w5.heap.size, 0, none⟩ 1 1 [.pointer (some ⟨V, 0, none⟩)] rfl rfl (World.news_of_block (cs := #[.pointer (some ⟨V, 0, none⟩)]) (t := 66) (fr := (0, 0)) (heap_alloc_new w5 _)) (by simp [Value.oneCell']) (by decide) (by unfold maxLen; omega) (by omega) (by simp; omega) (w5.heap.size + 1) (by simp) ?_; intro g cap w6 hown3 hgrow hat3 hlt3; have zz : w6.frozen? ⟨w.heap.size, 6, none⟩ = false := (hgrow.frozen_far ⟨w.heap.size, 6, none⟩ (by simp; omega) nv).trans (z6' _); have yy : w6.cell? ⟨w.heap.size, 6, none⟩ = some sl := (hgrow.cell_far ⟨w.heap.size, 6, none⟩ (by simp; omega) nv).trans (q6' _))
    have I7 := unhide HFIN w6 g cap _ hown3 hgrow hat3
    obtain ⟨w7, hw7⟩ : ∃ w7, w7 = w6.setCell ⟨w.heap.size, 6, none⟩ (.slice (some ⟨g, 0, none⟩) (ps.length + 1) cap) := ⟨_, rfl⟩
    rw [← hw7] at I7 ⊢
    have HI7 := hide I7
    have HXS := hide (relem_step (unhide HLST) hln (unhide HSK) (unhide HS))
    have HW7 := hide hw7
    clear I7 hown3 hgrow hat3 zz yy q6 q6' z6' hw7 HFIN HI
    refine (rOver_any (unhide HI7).rb.rs (unhide HAT2)).mono ?_
    rintro e w8 ⟨⟨q3, rfl, hq3⟩, rfl⟩
    have HQ3 := hide hq3
    have hq3l := hq3.le
    have hq3n := hq3.len
    have hsk3 := Sp.skB_len r'
    clear hq3
    go_wp2_with (fail)
    refine (rIs_any (unhide HI7).rb.rs (unhide HQ3) 93 _ rfl).mono ?_
    rintro e w9 ⟨rfl, rfl⟩
    cases h93 : Sp.tk (Sp.skB r') 93 with
    | true =>
     have HF := hide ((unhide HI7).done (o := Sp.rval (f + 1) (91 :: r)) (by rw [unhide HRV2, unhide HXS, if_pos h93]; rfl) ((unhide HQ3).tail h93))
     have hq4l := ((unhide HQ3).tail h93).le
     clear h93
     go_wp2_with (fail)
     go_ret2
     exact unhide HF
    | false =>
     have HX2 := hide (show X = if Sp.tk (Sp.skB r') 44 then Sp.lst 93 (Sp.relem (Sp.rval f)) (n - 1) (Sp.skB (Sp.skB r').tail) (es ++ [d]) else none by rw [unhide HXS, if_neg (by rw [h93]; decide)])
     clear h93
     go_wp2_with (fail)
     refine (rIs_any (unhide HI7).rb.rs (unhide HQ3) 44 _ rfl).mono ?_
     rintro e w10 ⟨rfl, rfl⟩
     cases h44 : Sp.tk (Sp.skB r') 44 with
     | false =>
      have HF := hide (OvEnd.fail (o := Sp.rval (f + 1) (91 :: r)) (f := f + 1) (tw := tw) (far := far) (by rw [unhide HRV2, unhide HX2, if_neg (by rw [h44]; decide)]; rfl) (unhide HI7).kept (unhide HI7).rb)
      clear h44
      go_wp2_with (fail)
      go_ret2
      exact unhide HF
     | true =>
      have hat4 := (unhide HQ3).tail h44
      have hq4l := hat4.le
      have htl := tk_cons h44
      have HX3 := hide (show X = Sp.lst 93 (Sp.relem (Sp.rval f)) (n - 1) (Sp.skB (Sp.skB r').tail) (es ++ [d]) by rw [unhide HX2, if_pos h44])
      have HAT4 := hide hat4
      clear h44 hat4
      go_wp2_with (fail)
      refine (rOver_any (unhide HI7).rb.rs (unhide HAT4)).mono ?_
      rintro e w11 ⟨⟨q5, rfl, hq5⟩, rfl⟩
      have hq5n := hq5.len
      have hq5l := hq5.le
      have hsk5 := Sp.skB_len (Sp.skB r').tail
      have HQ5 := hide hq5
      have hfin : q < q5 ∧ (Sp.skB (Sp.skB r').tail).length + 1 < l'.length := by omega
      clear hq5
      go_wp2_with (fail)
      exact ⟨⟨q5, _, es ++ [d], n - 1, rfl, unhide HQ5, skB_idem _, by omega, by omega, (unhide HX3).symm, unhide HI7, by simp; omega⟩, by simp only [intOf]; omega⟩
   ·have HF := hide (OvEnd.fail (o := Sp.rval (f + 1) (91 :: r)) (f := f + 1) (tw := tw) (far := far) (by rw [unhide HRV2, relem_none (unhide HLST) hln (unhide HSK) hs]; rfl) ((unhide HI).kept.trans hk5) hrb)
    clear hs hk5 hrb hcall
    go_wp2_with (fail)
    go_ret2
    exact unhide HF
end Go.Proofs.YtdpomdelmdofmaaGreatDoor
