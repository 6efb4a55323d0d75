/-
  What the reference's reading of an object's members leaves.
-/
import Derived.Test.YtdpomdelmdofmaaGreatDoorPart36
namespace Go.Proofs.YtdpomdelmdofmaaGreatDoor
open Go.RowKit
theorem RB.c2 {w : World} {R : Nat} {t : ByteArray} {mo : Int} {tw far : Bool} (h : RB w R t mo tw far) : w.cell? ⟨R, 2, none⟩ = some (.bool tw) := by simp [World.cell?, show w.heap[R]? = _ from h]
theorem RB.set2 {w : World} {R : Nat} {t : ByteArray} {mo : Int} {tw far : Bool} (h : RB w R t mo tw far) (b : Bool) : RB (w.setCell ⟨R, 2, none⟩ (.bool b)) R t mo b far := by
 unfold RB at h ⊢; rw [row_set h]; rfl
theorem two_snoc (f : Nat) (es : Sp.Ms) (k : Sp.By) (d : Sp.O) : Sp.twO (f + 1) (Sp.oObj (es ++ [(k, d)])) = ((Sp.twO (f + 1) (Sp.oObj es) || Sp.twO f d) || (es.map (·.1)).any (fun a => a == k)) := by
 have hl : Sp.lits (es ++ [(k, d)]) = Sp.lits es ++ [(.string k, d)] := by simp [Sp.lits]
 have hk : (Sp.lits es).any (fun p => p.1.sameKey (.string k)) = (es.map (·.1)).any (fun a => a == k) := by
  unfold Sp.lits
  rw [List.any_map, List.any_map]
  rfl
 show ((Sp.lits (es ++ [(k, d)])).any (fun p => Sp.twO f p.2) || Sp.dup [] ((Sp.lits (es ++ [(k, d)])).map (·.1))) = (((Sp.lits es).any (fun p => Sp.twO f p.2) || Sp.dup [] ((Sp.lits es).map (·.1))) || Sp.twO f d || _)
 rw [hl, ← hk]
 simp only [List.any_append, List.any_cons, List.any_nil, Bool.or_false, List.map_append, List.map_cons, List.map_nil, dup_snoc, List.nil_append, List.any_map, Function.comp_def]
 cases (Sp.lits es).any (fun p => Sp.twO f p.2) <;> cases Sp.twO f d <;> cases Sp.dup [] ((Sp.lits es).map (·.1)) <;> simp
theorem fao_snoc (mo : Int) (f : Nat) (es : Sp.Ms) (k : Sp.By) (d : Sp.O) : Sp.faO mo (f + 1) (Sp.oObj (es ++ [(k, d)])) = (Sp.faO mo (f + 1) (Sp.oObj es) || Sp.faO mo f d) := by
 have hl : Sp.lits (es ++ [(k, d)]) = Sp.lits es ++ [(.string k, d)] := by simp [Sp.lits]
 show (Sp.lits (es ++ [(k, d)])).any (fun p => Sp.faO mo f p.2) = ((Sp.lits es).any (fun p => Sp.faO mo f p.2) || Sp.faO mo f d)
 rw [hl]; simp
theorem fstK_at (k : Sp.By) : ∀ (ks : List Sp.By) (ps : List Value), ps.length = ks.length → (∀ p ∈ ps, ∃ b, p = .pointer (some b)) → ∃ x, Sp.fstK k ks ps = .pointer x ∧ x.isSome = ks.any (fun a => a == k)
 | [], [], _, _ => ⟨none, rfl, rfl⟩
 | a :: r, p :: q, hl, hp => by
  obtain ⟨b, hb⟩ := hp p (by simp)
  obtain ⟨x, h1, h2⟩ := fstK_at k r q (by simpa using hl) (fun y hy => hp y (by simp [hy]))
  by_cases h : a = k
  ·exact ⟨some b, by rw [Sp.fstK, if_pos h, hb], by simp [h]⟩
  ·exact ⟨x, by rw [Sp.fstK, if_neg h, h1], by rw [h2, List.any_cons, beq_eq_false_iff_ne.2 h]; rfl⟩
structure OObjI (f R : Nat) (t : ByteArray) (mo : Int) (tw far : Bool) (w0 w : World) (es : Sp.Ms) : Prop where
 rb : RB w R t mo (tw || Sp.twO (f + 1) (Sp.oObj es)) (far || Sp.faO mo (f + 1) (Sp.oObj es))
 kept : KeptX R w0 w
 sz : w0.heap.size + 1 ≤ w.heap.size
 el : ∃ kl sl ps, OB w w0.heap.size Sp.kdO false [] 0 [] kl sl ∧ w.ownsRow (w0.heap.size + 1) 9 1 kl es.length (es.map fun p => strV p.1) ∧ w.ownsRow (w0.heap.size + 1) 66 1 sl ps.length ps ∧
  Al (ORep f (fun k => w0.heap.size + 1 ≤ k ∧ sl.ownBlock ≠ some k ∧ kl.ownBlock ≠ some k) w) ps (es.map (·.2)) ∧ (∀ g, kl.ownBlock = some g → sl.ownBlock ≠ some g)
theorem OObjI.low {f R : Nat} {t : ByteArray} {mo : Int} {tw far : Bool} {w0 w w' : World} {es : Sp.Ms} (h : OObjI f R t mo tw far w0 w es) (hR : R < w0.heap.size) (hb : Below w.heap.size w w') : OObjI f R t mo tw far w0 w' es := by
 have h1 := h.sz
 have h2 := hb.size
 obtain ⟨kl, sl, ps, hob, hk, hv, hal, hne⟩ := h.el
 exact ⟨h.rb.blk (hb.block R (by omega)), h.kept.trans (KeptX.of_below hb), by omega, kl, sl, ps, hob.kept (hb.block _ (by omega)), owns_kept hk (fun g hg => hb.block g (owns_lt hk g hg).1), owns_kept hv (fun g hg => hb.block g (owns_lt hv g hg).1),
  hal.mono fun _ _ h => ORep.move (fun k h1 h2 => ⟨hb.block k h2, h1⟩) h, hne⟩
theorem OObjI.done {f R : Nat} {t : ByteArray} {mo : Int} {tw far : Bool} {w0 w : World} {es : Sp.Ms} (h : OObjI f R t mo tw far w0 w es) {o : Option (Sp.O × Sp.By)} {r : Sp.By} {q : Nat} (ho : o = some (Sp.oObj es, r)) (ha : At t q r) :
  OvEnd o (f + 1) t R mo tw far w0 (.returned (.tuple #[.pointer (some ⟨w0.heap.size, 0, none⟩), .int .i64 q])) w := by
 obtain ⟨kl, sl, ps, hob, hk, hv, hal, hne⟩ := h.el
 refine ⟨h.kept, Or.inl ⟨_, r, w0.heap.size, q, ho, rfl, ha, ?_, h.rb⟩⟩
 refine ⟨w0.heap.size, rfl, Nat.le_refl _, Or.inr (Or.inr (Or.inr (Or.inr ⟨es, kl, sl, ps, rfl, hob, ?_, ?_, ?_, ?_, hal.mono fun _ _ h => ORep.move (fun k h1 _ => ⟨rfl, by omega⟩) h⟩)))⟩
 ·exact ⟨hk.1, hk.2.imp id fun ⟨g, cap, cur, h1, _, h3⟩ => ⟨g, cap, cur, h1, Nat.zero_le _, h3⟩⟩
 ·intro g hg; have := (owns_lt hk g hg).2; omega
 ·exact ⟨hv.1, hv.2.imp id fun ⟨g, cap, cur, h1, _, h3⟩ => ⟨g, cap, cur, h1, Nat.zero_le _, h3⟩⟩
 ·intro g hg; have := (owns_lt hv g hg).2; omega
theorem omem_fin {f R : Nat} {t : ByteArray} {mo : Int} {tw far b2 far2 : Bool} {w0 w w5 w6 w8 : World} {es : Sp.Ms} {k : Sp.By} {d : Sp.O} (hR : R < w0.heap.size) (hkept : KeptX R w0 w) (hsz : w0.heap.size + 1 ≤ w.heap.size) (hk5 : KeptX R w w5) (hr5 : RB w5 R t mo b2 far2)
  (htw : b2 = (tw || Sp.twO (f + 1) (Sp.oObj (es ++ [(k, d)])))) (hfar : far2 = (far || Sp.faO mo (f + 1) (Sp.oObj (es ++ [(k, d)]))))
  {kl sl : Value} {ps : List Value} (hob : OB w w0.heap.size Sp.kdO false [] 0 [] kl sl) (hok : w.ownsRow (w0.heap.size + 1) 9 1 kl es.length (es.map fun p => strV p.1)) (hov : w.ownsRow (w0.heap.size + 1) 66 1 sl ps.length ps)
  (hal : Al (ORep f (fun k => w0.heap.size + 1 ≤ k ∧ sl.ownBlock ≠ some k ∧ kl.ownBlock ≠ some k) w) ps (es.map (·.2))) (hne : ∀ g, kl.ownBlock = some g → sl.ownBlock ≠ some g)
  {o1 o2 : Obj} {g1 c1 g2 c2 : Nat} (hown6 : w6.ownsRow (w0.heap.size + 1) 9 1 (.slice (some ⟨g1, 0, none⟩) (es.length + 1) c1) (es.length + 1) ((es.map fun p => strV p.1) ++ [strV k])) (hg6 : (w5.alloc o1).grownBy w6 kl.ownBlock) (hat1 : kl.ownBlock = some g1 ∨ g1 = w5.heap.size + 1)
  {p : Option Addr} (hrep : ORep f (fun k => w.heap.size ≤ k) w5 (.pointer p) d)
  (hown8 : w8.ownsRow (w0.heap.size + 1) 66 1 (.slice (some ⟨g2, 0, none⟩) (ps.length + 1) c2) (ps.length + 1) (ps ++ [.pointer p])) (hg8 : ((w6.setCell ⟨w0.heap.size, 5, none⟩ (.slice (some ⟨g1, 0, none⟩) (es.length + 1) c1)).alloc o2).grownBy w8 sl.ownBlock) (hat2 : sl.ownBlock = some g2 ∨ g2 = w6.heap.size + 1) :
  OObjI f R t mo tw far w0 (w8.setCell ⟨w0.heap.size, 6, none⟩ (.slice (some ⟨g2, 0, none⟩) (ps.length + 1) c2)) (es ++ [(k, d)]) := by
 have s5 := hk5.size
 have s6 := hg6.size
 have s8 := hg8.size
 have a5 : (w5.alloc o1).heap.size = w5.heap.size + 1 := by simp
 have a7 : ((w6.setCell ⟨w0.heap.size, 5, none⟩ (.slice (some ⟨g1, 0, none⟩) (es.length + 1) c1)).alloc o2).heap.size = w6.heap.size + 1 := by simp [World.setCell]
 have l6 := owns_lt hown6 g1 rfl
 have l8 := owns_lt hown8 g2 rfl
 have e6 : ∀ j, j < w5.heap.size → some j ≠ kl.ownBlock → w6.heap[j]? = w5.heap[j]? := fun j h1 h2 => (hg6.block j (by omega) h2).trans (Below.heap_alloc w5 o1 j h1)
 have e8 : ∀ j, j < w6.heap.size → some j ≠ sl.ownBlock → j ≠ w0.heap.size → w8.heap[j]? = w6.heap[j]? := fun j h1 h2 h3 => (hg8.block j (by omega) h2).trans ((Below.heap_alloc _ o2 j (by simpa [World.setCell] using h1)).trans (Below.heap_setCell _ _ _ _ h3))
 have e9 : ∀ j, j < w5.heap.size → some j ≠ kl.ownBlock → some j ≠ sl.ownBlock → j ≠ w0.heap.size → (w8.setCell ⟨w0.heap.size, 6, none⟩ (.slice (some ⟨g2, 0, none⟩) (ps.length + 1) c2)).heap[j]? = w5.heap[j]? := fun j h1 h2 h3 h4 =>
  (Below.heap_setCell _ _ _ _ h4).trans ((e8 j (by omega) h3 h4).trans (e6 j h1 h2))
 have nk : ∀ j, j < w0.heap.size + 1 → some j ≠ kl.ownBlock := fun j hj h => by have := (owns_lt hok j h.symm).2; omega
 have ns : ∀ j, j < w0.heap.size + 1 → some j ≠ sl.ownBlock := fun j hj h => by have := (owns_lt hov j h.symm).2; omega
 have n12 : g1 ≠ g2 := by
  intro h
  rcases hat2 with h2 | h2
  ·rcases hat1 with h1 | h1
   ·exact hne g1 h1 (by rw [h2, h])
   ·have := (owns_lt hov g2 h2).1; omega
  ·omega
 have hb0 : KeptX R w0 (w8.setCell ⟨w0.heap.size, 6, none⟩ (.slice (some ⟨g2, 0, none⟩) (ps.length + 1) c2)) := by
  have hk := hkept.trans hk5
  have f1 : w8.os = w6.os := hg8.os
  have f2 : w8.tape = w6.tape := hg8.tape
  have f3 : w8.output = w6.output := hg8.output
  refine ⟨f1.trans (hg6.os.trans hk.os), f2.trans (hg6.tape.trans hk.tape), f3.trans (hg6.output.trans hk.output), ?_, ?_⟩
  ·have := hk.size; simp [World.setCell]; omega
  ·intro j h1 h2
   exact (e9 j (by have := hk.size; omega) (nk j (by omega)) (ns j (by omega)) (by omega)).trans (hk.block j h1 h2)
 have hmv : ∀ j, j < w5.heap.size → w0.heap.size + 1 ≤ j → kl.ownBlock ≠ some j → sl.ownBlock ≠ some j → g1 ≠ j ∧ g2 ≠ j := by
  intro j h1 h2 h3 h4
  refine ⟨?_, ?_⟩
  ·intro h
   rcases hat1 with h5 | h5
   ·exact h3 (by rw [h5, h])
   ·omega
  ·intro h
   rcases hat2 with h5 | h5
   ·exact h4 (by rw [h5, h])
   ·omega
 refine ⟨?_, hb0, by simp [World.setCell]; omega, .slice (some ⟨g1, 0, none⟩) (es.length + 1) c1, .slice (some ⟨g2, 0, none⟩) (ps.length + 1) c2, ps ++ [.pointer p], ?_, ?_, ?_, ?_, ?_⟩
 ·rw [← htw, ← hfar]; exact hr5.blk (e9 R (by omega) (nk R (by omega)) (ns R (by omega)) (by omega))
 ·have h6 : OB w6 w0.heap.size Sp.kdO false [] 0 [] kl sl := hob.kept ((e6 _ (by omega) (nk _ (by omega))).trans (hk5.block _ (by omega) (by omega)))
  have h7 := h6.set5 (.slice (some ⟨g1, 0, none⟩) (es.length + 1) c1)
  refine OB.set6 (h7.kept ((hg8.block _ (by omega) (ns _ (by omega))).trans (Below.heap_alloc _ o2 _ ?_))) _
  simp [World.setCell]; omega
 ·have h1 : (es ++ [(k, d)]).length = es.length + 1 := by simp
  have h2 : ((es ++ [(k, d)]).map fun p => strV p.1) = (es.map fun p => strV p.1) ++ [strV k] := by simp
  rw [h1, h2]
  refine owns_kept hown6 fun g hg => ?_
  have hgg : g = g1 := by simpa [Value.ownBlock] using hg.symm
  subst hgg
  refine (Below.heap_setCell _ _ _ _ (show g ≠ w0.heap.size by omega)).trans (e8 g l6.1 ?_ (by omega))
  intro h
  rcases hat1 with h1 | h1
  ·exact hne g h1 h.symm
  ·have := (owns_lt hov g h.symm).1; omega
 ·have h1 : (ps ++ [Value.pointer p]).length = ps.length + 1 := by simp
  rw [h1]
  exact owns_kept hown8 (fun g hg => by
   have hgg : g = g2 := by simpa [Value.ownBlock] using hg.symm
   subst hgg
   exact Below.heap_setCell _ _ _ _ (show g ≠ w0.heap.size by omega))
 ·rw [List.map_append]
  refine Al.snoc (ORep.move ?_ hrep) (hal.mono fun _ _ h => ORep.move ?_ h)
  ·intro j h1 h2
   have h3 : some j ≠ kl.ownBlock := fun h => by have := (owns_lt hok j h.symm).1; omega
   have h4 : some j ≠ sl.ownBlock := fun h => by have := (owns_lt hov j h.symm).1; omega
   have h5 := hmv j h2 (by omega) (Ne.symm h3) (Ne.symm h4)
   exact ⟨e9 j h2 h3 h4 (by omega), by omega, by simpa [Value.ownBlock] using h5.2, by simpa [Value.ownBlock] using h5.1⟩
  ·intro j h1 h2
   have h5 := hmv j (by omega) h1.1 h1.2.2 h1.2.1
   exact ⟨(e9 j (by omega) (Ne.symm h1.2.2) (Ne.symm h1.2.1) (by omega)).trans (hk5.block j h2 (by omega)), h1.1, by simpa [Value.ownBlock] using h5.2, by simpa [Value.ownBlock] using h5.1⟩
 ·intro g hg h
  have e1 : g1 = g := by simpa [Value.ownBlock] using hg
  have e2 : g2 = g := by simpa [Value.ownBlock] using h
  omega
end Go.Proofs.YtdpomdelmdofmaaGreatDoor

namespace Go.Proofs.YtdpomdelmdofmaaGreatDoor
open Go.RowKit
theorem rval_obj (f : Nat) (r : Sp.By) : Sp.rval (f + 1) (123 :: r) = if Sp.tk (Sp.skB r) 125 then some (Sp.oObj [], (Sp.skB r).tail) else (Sp.lst 125 (Sp.rmemb (Sp.rval f)) ((Sp.skB r).length + 1) (Sp.skB r) []).map fun x => (Sp.oObj x.2, x.1) := by
 have e : Sp.lstAll 123 125 (Sp.rmemb (Sp.rval f)) (123 :: r) [] = if Sp.tk (Sp.skB r) 125 = true then some ((Sp.skB r).tail, []) else Sp.lst 125 (Sp.rmemb (Sp.rval f)) ((Sp.skB r).length + 1) (Sp.skB r) [] := by
  unfold Sp.lstAll; rw [if_pos (by rfl)]; rfl
 rw [Sp.rval, if_pos (by simp [Sp.pk]), e]
 cases h : Sp.tk (Sp.skB r) 125 with
 | true => simp
 | false =>
  simp only [Bool.false_eq_true, if_false]
  cases Sp.lst 125 (Sp.rmemb (Sp.rval f)) ((Sp.skB r).length + 1) (Sp.skB r) [] <;> rfl
theorem rmemb_step {f n : Nat} {l l1 r k : Sp.By} {es : Sp.Ms} {d : Sp.O} {X : Option (Sp.By × Sp.Ms)} (hx : Sp.lst 125 (Sp.rmemb (Sp.rval f)) n l es = X) (hn : l.length < n) (hl : Sp.skB l = l) (hq : Sp.quo l = some (k, l1)) (h58 : Sp.tk (Sp.skB l1) 58 = true)
  (hs : Sp.rval f (Sp.skB (Sp.skB l1).tail) = some (d, r)) :
  X = if Sp.tk (Sp.skB r) 125 then some ((Sp.skB r).tail, es ++ [(k, d)]) else if Sp.tk (Sp.skB r) 44 then Sp.lst 125 (Sp.rmemb (Sp.rval f)) (n - 1) (Sp.skB (Sp.skB r).tail) (es ++ [(k, d)]) else none := by
 rw [← hx, lst_step hn hl, lst_skB]
 unfold Sp.rmemb
 rw [hq]
 simp only
 rw [if_pos h58, hs]
theorem rmemb_none {f n : Nat} {l : Sp.By} {es : Sp.Ms} {X : Option (Sp.By × Sp.Ms)} (hx : Sp.lst 125 (Sp.rmemb (Sp.rval f)) n l es = X) (hn : l.length < n) (hl : Sp.skB l = l) (hs : Sp.rmemb (Sp.rval f) l es = none) : X = none := by
 rw [← hx, lst_step hn hl, hs]
theorem rmemb_q {f : Nat} {l : Sp.By} {es : Sp.Ms} (h : Sp.quo l = none) : Sp.rmemb (Sp.rval f) l es = none := by unfold Sp.rmemb; rw [h]
theorem rmemb_c {f : Nat} {l l1 k : Sp.By} {es : Sp.Ms} (h : Sp.quo l = some (k, l1)) (h2 : Sp.tk (Sp.skB l1) 58 = false) : Sp.rmemb (Sp.rval f) l es = none := by unfold Sp.rmemb; rw [h]; simp only; rw [if_neg (by rw [h2]; decide)]
theorem rmemb_v {f : Nat} {l l1 k : Sp.By} {es : Sp.Ms} (h : Sp.quo l = some (k, l1)) (h2 : Sp.rval f (Sp.skB (Sp.skB l1).tail) = none) : Sp.rmemb (Sp.rval f) l es = none := by
 unfold Sp.rmemb; rw [h]; simp only; rw [h2]; simp
theorem quo_no {l : Sp.By} (h : Sp.tk l 34 = false) : Sp.quo l = none := by unfold Sp.quo; rw [if_neg (by rw [h]; decide)]
theorem tk_form {l : Sp.By} {c : UInt8} (h : Sp.tk l c = true) : ∃ r, l = c :: r := by
 cases l with
 | nil => cases h
 | cons a r => exact ⟨r, by rw [show a = c from by simpa [Sp.tk] using h]⟩
set_option maxRecDepth 100000 in
set_option maxHeartbeats 16000000 in
theorem oObject_ok {f : Nat} (hV : OvOk f) {R : Nat} {t : ByteArray} {mo : Int} {tw far : Bool} {p : Nat} {r : Sp.By} {w : World} (hr : RB w R t mo tw far) (ha : At t p (123 :: r)) (hmo : 0 ≤ mo ∧ mo ≤ 400) (hlf : r.length < f) :
  Calls Tryz.prog 130 #[.pointer (some ⟨R, 0, none⟩), .int .i64 p] w fun e w' => OvEnd (Sp.rval (f + 1) (123 :: r)) (f + 1) t R mo tw far w e w' := by
 obtain ⟨i0, hi0, hz0, hz1, hz2⟩ := info_parts o_ptr
 obtain ⟨i1, ji0, jz0, jz1, jz2⟩ := info_parts o_str
 obtain ⟨X, hX⟩ : ∃ X, X = Sp.lst 125 (Sp.rmemb (Sp.rval f)) ((Sp.skB r).length + 1) (Sp.skB r) [] := ⟨_, rfl⟩
 have hrv : Sp.rval (f + 1) (123 :: r) = if Sp.tk (Sp.skB r) 125 then some (Sp.oObj [], (Sp.skB r).tail) else X.map fun x => (Sp.oObj x.2, x.1) := by rw [hX]; exact rval_obj f r
 obtain ⟨w1, hw1⟩ : ∃ w1, w1 = w.alloc (.cells #[.string ⟨#[111, 98, 106, 101, 99, 116]⟩, .bool false, .string ⟨#[]⟩, .int .i64 0, .string ⟨#[]⟩, .slice none 0 0, .slice none 0 0] 91) := ⟨_, rfl⟩
 have hRl := hr.lt
 have hI1 : OObjI f R t mo tw far w w1 [] := by
  refine ⟨?_, ?_, ?_, nilS, nilS, [], ?_, World.ownsRow_nil _ _ _ _, World.ownsRow_nil _ _ _ _, trivial, fun g hg => by cases hg⟩
  ·show RB w1 R t mo (tw || false) (far || false)
   simp only [Bool.or_false]; rw [hw1]; exact (Below.heap_alloc _ _ _ hRl).trans hr
  ·rw [hw1]; exact (KeptX.refl R w).alloc _
  ·rw [hw1]; simp
  ·rw [hw1]; exact heap_new _ _ _ rfl
 have hsz := ha.small
 have hln := ha.len
 have hple := ha.le
 have hplt := ha.lt
 simp only [List.length_cons] at hln
 have HA := hide ha.next
 have HI1 := hide hI1
 have HRV := hide hrv
 have HX := hide hX
 have HV := hide hV
 have hskr := Sp.skB_len r
 clear hr ha hI1 hrv hX hV
 go_enter Tryz.func130, Tryz.ntmps130
 go_wp2_with (fail)
 rw [← hw1]
 have HW1 := hide hw1
 clear hw1
 refine (rOver_any (unhide HI1).rb.rs (unhide HA)).mono ?_
 rintro e w2 ⟨⟨q, rfl, hq⟩, rfl⟩
 have HQ := hide hq
 have hql := hq.le
 clear hq
 go_wp2_with (fail)
 refine (rIs_any (unhide HI1).rb.rs (unhide HQ) 125 _ rfl).mono ?_
 rintro e w3 ⟨rfl, rfl⟩
 cases h93 : Sp.tk (Sp.skB r) 125 with
 | true =>
  have hq1l := ((unhide HQ).tail h93).le
  have HF := hide ((unhide HI1).done (o := Sp.rval (f + 1) (123 :: r)) (by rw [unhide HRV, if_pos h93]) ((unhide HQ).tail h93))
  clear h93
  go_wp2_with (fail)
  go_ret2
  exact unhide HF
 | false =>
  have HRV2 := hide (show Sp.rval (f + 1) (123 :: r) = X.map fun x => (Sp.oObj x.2, x.1) by rw [unhide HRV, if_neg (by rw [h93]; decide)])
  clear h93
  go_wp2_with (fail)
  go_loopw [1] (fun a wr => ∃ (q : Nat) (l' : Sp.By) (es : Sp.Ms) (n : Nat), a = .int .i64 q ∧ At t q l' ∧ Sp.skB l' = l' ∧ l'.length < n ∧ l'.length < f ∧ Sp.lst 125 (Sp.rmemb (Sp.rval f)) n l' es = X ∧ OObjI f R t mo tw far w wr es ∧ es.length + l'.length ≤ 2001) (fun a _ => t.size - (intOf a).toNat)
  case atStart => exact ⟨q, Sp.skB r, [], (Sp.skB r).length + 1, rfl, unhide HQ, skB_idem r, by omega, by omega, (unhide HX).symm, unhide HI1, by simp; omega⟩
  case round =>
   obtain ⟨q, l', es, n, rfl, hat, hsk, hln, hlf', hlst, hI, hes⟩ := hrel
   have hatl := hat.len
   have hatle := hat.le
   have HAT := hide hat
   have HSK := hide hsk
   have HLST := hide hlst
   have HI := hide hI
   have HNO := hide (fun h => show Sp.rval (f + 1) (123 :: r) = none by rw [unhide HRV2, rmemb_none hlst hln hsk h]; rfl)
   clear hat hsk hlst hI
   go_wp2_with (fail)
   refine (rIs_any (unhide HI).rb.rs (unhide HAT) 34 _ rfl).mono ?_
   rintro e w4 ⟨rfl, rfl⟩
   cases h34 : Sp.tk l' 34 with
   | false =>
    have HF := hide (OvEnd.fail (o := Sp.rval (f + 1) (123 :: r)) (f := f + 1) (tw := tw) (far := far) (unhide HNO (rmemb_q (quo_no h34))) (unhide HI).kept (unhide HI).rb)
    clear h34
    go_wp2_with (fail)
    go_ret2
    exact unhide HF
   | true =>
    obtain ⟨r0, rfl⟩ := tk_form h34
    have hcall := hide (rText_any (unhide HI).rb.rs (unhide HAT) (by have := (unhide HI).sz; omega))
    clear h34
    go_wp2_with (fail)
    refine (unhide hcall).mono ?_
    rintro e w5 ⟨hc, hb5⟩
    clear hcall
    have HI5 := hide ((unhide HI).low hRl hb5)
    rcases hc with ⟨k, l1, b, q1, hs, rfl, hbk, hat1, hq1⟩ | ⟨hs, rfl⟩
    ·obtain rfl : b = ⟨k.toArray⟩ := by rw [← hbk, Array.toArray_toList]
     have HS := hide hs
     have HAT1 := hide hat1
     have hl1 := Sp.quo_len hs
     have e0 : ((q1 : Int) == 0) = false := by rw [beq_eq_false_iff_ne]; omega
     have hq1le := hat1.le
     have hkl : k.length ≤ 8000 := by have := quo_le hs; have := hatl; simp only [List.length_cons] at *; omega
     clear hs hat1 hbk hb5 HI
     go_wp2_with (fail)
     refine (rOver_any (unhide HI5).rb.rs (unhide HAT1)).mono ?_
     rintro e w6 ⟨⟨q2, rfl, hq2⟩, rfl⟩
     have HQ2 := hide hq2
     have hq2l := hq2.le
     have hq2n := hq2.len
     have hsk2 := Sp.skB_len l1
     clear hq2
     go_wp2_with (fail)
     refine (rIs_any (unhide HI5).rb.rs (unhide HQ2) 58 _ rfl).mono ?_
     rintro e w7 ⟨rfl, rfl⟩
     cases h58 : Sp.tk (Sp.skB l1) 58 with
     | false =>
      have HF := hide (OvEnd.fail (o := Sp.rval (f + 1) (123 :: r)) (f := f + 1) (tw := tw) (far := far) (unhide HNO (rmemb_c (unhide HS) h58)) (unhide HI5).kept (unhide HI5).rb)
      clear h58
      go_wp2_with (fail)
      go_ret2
      exact unhide HF
     | true =>
      have hat3 := (unhide HQ2).tail h58
      have hq3l := hat3.le
      have htl := tk_cons h58
      have H58 := hide h58
      have HAT3 := hide hat3
      clear h58 hat3
      go_wp2_with (fail)
      refine (rOver_any (unhide HI5).rb.rs (unhide HAT3)).mono ?_
      rintro e w8 ⟨⟨q4, rfl, hq4⟩, rfl⟩
      have HQ4 := hide hq4
      have hsk4 := Sp.skB_len (Sp.skB l1).tail
      have hq4n := hq4.len
      simp only [List.length_cons] at hatl hl1 hlf' hln hes
      have hcall := hide ((unhide HV) R t mo _ _ q4 _ w8 (unhide HI5).rb hq4 hmo (by omega))
      clear hq4
      go_wp2_with (fail)
      refine (unhide hcall).mono ?_
      rintro e w9 ⟨hk9, hc⟩
      clear hcall
      rcases hc with ⟨d, r', V, q5, hs5, rfl, hat5, hrep, hrb⟩ | ⟨hs5, rfl, tw', far', hrb⟩
      ·obtain ⟨kl, sl, ps, hob, hok, hov, hal, hne⟩ := (unhide HI5).el
       have hpl : ps.length = es.length := by have := hal.length; simpa using this
       have hlr := rval_len _ _ _ _ hs5
       have hsz8 := (unhide HI5).sz
       have hs9 := hk9.size
       have hob9 := hob.kept (hk9.block w.heap.size (by omega) (by omega))
       have hok9 := owns_kept hok (fun g hg => hk9.block g (owns_lt hok g hg).1 (by have := (owns_lt hok g hg).2; omega))
       have hov9 := owns_kept hov (fun g hg => hk9.block g (owns_lt hov g hg).1 (by have := (owns_lt hov g hg).2; omega))
       have hptr : ∀ p ∈ ps, ∃ b, p = .pointer (some b) := by
        intro p hp
        obtain ⟨j, hj, rfl⟩ := List.getElem_of_mem hp
        obtain ⟨b, hb, _⟩ := (hal.get j hj (by simp; omega)).ptr
        exact ⟨_, hb⟩
       obtain ⟨x, hx1, hx2⟩ := fstK_at k (es.map (·.1)) ps (by simpa using hpl) hptr
       have hget := hide (rGet_any hob9 (ks := es.map (·.1)) (B1 := w.heap.size + 1) (by rw [List.length_map, List.map_map]; exact hok9) hov9 (by simpa using hpl) k)
       obtain ⟨b1, hb1⟩ : ∃ b1, b1 = ((tw || Sp.twO (f + 1) (Sp.oObj es)) || Sp.twO f d) := ⟨_, rfl⟩
       obtain ⟨f1, hf1⟩ : ∃ f1, f1 = ((far || Sp.faO mo (f + 1) (Sp.oObj es)) || Sp.faO mo f d) := ⟨_, rfl⟩
       rw [← hb1, ← hf1] at hrb
       have HS5 := hide hs5
       have HAT5 := hide hat5
       have HREP := hide hrep
       have HRB := hide hrb
       have HOB := hide hob
       have HOK := hide hok
       have HOV := hide hov
       have HAL := hide hal
       have HNE := hide hne
       have HOB9 := hide hob9
       have HOK9 := hide hok9
       have HOV9 := hide hov9
       have HX1 := hide hx1
       have HX2 := hide hx2
       have HB1 := hide hb1
       have HF1 := hide hf1
       clear hs5 hat5 hrep hrb hob hok hov hal hne hob9 hok9 hov9 hx1 hx2 hb1 hf1 hptr
       go_wp2_with (fail)
       refine (unhide hget).mono ?_
       rintro e w10 ⟨rfl, rfl⟩
       rw [unhide HX1]
       clear hget
       have r2 := (unhide HRB).c2
       have y2 := (unhide HRB).fz 2
       go_upto_region 17 with (fail)
       go_cut [] (fun wx => wx = w10.setCell ⟨R, 2, none⟩ (.bool (b1 || x.isSome)))
       case first =>
        cases b1 with
        | true =>
         go_wp2_with (fail)
         go_meet
         rfl
        | false =>
         cases x with
         | none =>
          go_wp2_with (fail)
          go_meet
          rfl
         | some a =>
          go_wp2_with (fail)
          go_meet
          rfl
       case rest =>
       have hrb7 : RB wc R t mo (b1 || x.isSome) f1 := by rw [hcut]; exact (unhide HRB).set2 _
       have hk7 : KeptX R w8 wc := by rw [hcut]; exact hk9.setCell rfl _
       have HCUT := hide hcut
       clear hcut r2 y2
       have hs7 := hk7.size
       have hob7 := (unhide HOB).kept (hk7.block w.heap.size (by omega) (by omega))
       have hok7 := owns_kept (unhide HOK) (fun g hg => hk7.block g (owns_lt (unhide HOK) g hg).1 (by have := (owns_lt (unhide HOK) g hg).2; omega))
       have hov7 := owns_kept (unhide HOV) (fun g hg => hk7.block g (owns_lt (unhide HOV) g hg).1 (by have := (owns_lt (unhide HOV) g hg).2; omega))
       have hrep7 : ORep f (fun k => w8.heap.size ≤ k) wc (.pointer (some ⟨V, 0, none⟩)) d := (unhide HREP).move fun j h1 h2 => ⟨by rw [unhide HCUT]; exact Below.heap_setCell _ _ _ _ (by show j ≠ R; omega), h1⟩
       have nk : some w.heap.size ≠ kl.ownBlock := fun h => by have := (owns_lt hok7 _ h.symm).2; omega
       have nv : some w.heap.size ≠ sl.ownBlock := fun h => by have := (owns_lt hov7 _ h.symm).2; omega
       have p5 := hob7.c5
       have p5' : ∀ o, (wc.alloc o).cell? ⟨w.heap.size, 5, none⟩ = some kl := fun o => by rw [World.cell?_of_block (w := wc) (Below.heap_alloc wc o w.heap.size (by omega))]; exact p5
       have p6' : ∀ o, (wc.alloc o).cell? ⟨w.heap.size, 6, none⟩ = some sl := fun o => by rw [World.cell?_of_block (w := wc) (Below.heap_alloc wc o w.heap.size (by omega))]; exact hob7.c6
       have z5' : ∀ o j, (wc.alloc o).frozen? ⟨w.heap.size, j, none⟩ = false := fun o j => by rw [World.frozen?_of_block (w := wc) (Below.heap_alloc wc o w.heap.size (by omega))]; exact hob7.fz j
       have hle : es.length ≤ 2001 := by omega
       have HOK7 := hide hok7
       have HOV7 := hide hov7
       have HOB7 := hide hob7
       have HREP7 := hide hrep7
       have HRB7 := hide hrb7
       have HK7 := hide hk7
       clear hok7 hov7 hob7 hrep7 hrb7 hk7
       go_upto_region 19 with (at_builtin; refine wpList_append_lies _ rfl _ _ _ rfl (w.heap.size + 1) 9 i1 _ 1 16 Tryz.underlying59 ji0 jz0 jz1 jz2 rfl (by decide) kl es.length (es.map fun p => strV p.1) rfl ((unhide HOK7).alloc _) ⟨wc.heap.size, 0, none⟩ 1 1 [strV k] rfl rfl (World.news_of_block (cs := #[strV k]) (t := 9) (fr := (0, 0)) (heap_alloc_new wc _)) (by simp [strV, Value.oneCell']) (by decide) (by unfold maxLen; omega) (by omega) (by simp; omega) (wc.heap.size + 1) (by simp) ?_; intro g1 c1 w11 hown11 hgrow11 hat11 hlt11; have y5 : w11.cell? ⟨w.heap.size, 5, none⟩ = some kl := (hgrow11.cell_far ⟨w.heap.size, 5, none⟩ (by simp; omega) nk).trans (p5' _); have y6 : w11.cell? ⟨w.heap.size, 6, none⟩ = some sl := (hgrow11.cell_far ⟨w.heap.size, 6, none⟩ (by simp; omega) nk).trans (p6' _); have z5 : w11.frozen? ⟨w.heap.size, 5, none⟩ = false := (hgrow11.frozen_far ⟨w.heap.size, 5, none⟩ (by simp; omega) nk).trans (z5' _ 5); have z6 : w11.frozen? ⟨w.heap.size, 6, none⟩ = false := (hgrow11.frozen_far ⟨w.heap.size, 6, none⟩ (by simp; omega) nk).trans (z5' _ 6))
       have hgs11 : wc.heap.size + 1 ≤ w11.heap.size := by have := hgrow11.size; simpa using this
       obtain ⟨w12, hw12⟩ : ∃ w12, w12 = w11.setCell ⟨w.heap.size, 5, none⟩ (.slice (some ⟨g1, 0, none⟩) (es.length + 1) c1) := ⟨_, rfl⟩
       rw [← hw12]
       have hs12 : w12.heap.size = w11.heap.size := by rw [hw12]; simp [World.setCell]
       have hov12 := owns_kept (w' := w12) (unhide HOV7) (fun g hg => by
        have hg2 := owns_lt (unhide HOV7) g hg
        rw [hw12]
        refine (Below.heap_setCell _ _ _ _ (show g ≠ w.heap.size by omega)).trans ((hgrow11.block g (by simp; omega) ?_).trans (Below.heap_alloc wc _ g hg2.1))
        intro h
        exact unhide HNE g h.symm hg)
       have hob12 : OB w12 w.heap.size Sp.kdO false [] 0 [] (.slice (some ⟨g1, 0, none⟩) (es.length + 1) c1) sl := by
        rw [hw12]
        exact OB.set5 ((unhide HOB7).kept ((hgrow11.block w.heap.size (by simp; omega) nk).trans (Below.heap_alloc wc _ w.heap.size (by omega)))) _
       have u6 := hob12.c6
       have u6' : ∀ o, (w12.alloc o).cell? ⟨w.heap.size, 6, none⟩ = some sl := fun o => by rw [World.cell?_of_block (w := w12) (Below.heap_alloc w12 o w.heap.size (by omega))]; exact u6
       have v6' : ∀ o, (w12.alloc o).frozen? ⟨w.heap.size, 6, none⟩ = false := fun o => by
        rw [World.frozen?_of_block (w := w12) (Below.heap_alloc w12 o w.heap.size (by omega))]
        exact hob12.fz 6
       have HOV12 := hide hov12
       have HW12 := hide hw12
       have HG11 := hide hgrow11
       have HOWN11 := hide hown11
       have HAT11 := hide hat11
       have HS12 := hide hs12
       have hs12a : w11.heap.size ≤ w12.heap.size := by omega
       clear hs12 hov12 hob12 hw12 hgrow11 hown11 hat11 y5 y6 z5 z6 p5 p5' p6' z5'
       go_wp2_with (at_builtin; refine wpList_append_lies _ rfl _ _ _ rfl (w.heap.size + 1) 66 i0 _ 1 8 Tryz.underlying89 hi0 hz0 hz1 hz2 rfl (by decide) sl ps.length ps rfl ((unhide HOV12).alloc _) ⟨w12.heap.size, 0, none⟩ 1 1 [.pointer (some ⟨V, 0, none⟩)] rfl rfl (World.news_of_block (cs := #[.pointer (some ⟨V, 0, none⟩)]) (t := 66) (fr := (0, 0)) (heap_alloc_new w12 _)) (by simp [Value.oneCell']) (by decide) (by unfold maxLen; omega) (by omega) (by simp; omega) (w12.heap.size + 1) (by simp) ?_; intro g2 c2 w13 hown13 hgrow13 hat13 hlt13; have zz : w13.frozen? ⟨w.heap.size, 6, none⟩ = false := (hgrow13.frozen_far ⟨w.heap.size, 6, none⟩ (by simp; omega) nv).trans (v6' _); have yy : w13.cell? ⟨w.heap.size, 6, none⟩ = some sl := (hgrow13.cell_far ⟨w.heap.size, 6, none⟩ (by simp; omega) nv).trans (u6' _))
       have I7 : OObjI f R t mo tw far w (w13.setCell ⟨w.heap.size, 6, none⟩ (.slice (some ⟨g2, 0, none⟩) (ps.length + 1) c2)) (es ++ [(k, d)]) := by
        rw [unhide HW12] at hgrow13
        refine omem_fin hRl (unhide HI5).kept hsz8 (unhide HK7) (unhide HRB7) ?_ ?_ (unhide HOB) (unhide HOK) (unhide HOV) (unhide HAL) (unhide HNE) (unhide HOWN11) (unhide HG11) (unhide HAT11) (unhide HREP7) hown13 hgrow13 (by rw [← unhide HS12]; exact hat13)
        ·rw [two_snoc, unhide HX2, unhide HB1]; simp only [Bool.or_assoc]
        ·rw [fao_snoc, unhide HF1]; simp only [Bool.or_assoc]
       rw [hpl] at I7
       obtain ⟨w7, hw7⟩ : ∃ w7, w7 = w13.setCell ⟨w.heap.size, 6, none⟩ (.slice (some ⟨g2, 0, none⟩) (es.length + 1) c2) := ⟨_, rfl⟩
       rw [← hw7] at I7 ⊢
       have HI7 := hide I7
       have HXS := hide (rmemb_step (unhide HLST) (by simp only [List.length_cons]; omega) (unhide HSK) (unhide HS) (unhide H58) (unhide HS5))
       have HW7 := hide hw7
       clear I7 hown13 hgrow13 hat13 zz yy u6 u6' v6' hw7
       refine (rOver_any (unhide HI7).rb.rs (unhide HAT5)).mono ?_
       rintro e w14 ⟨⟨q6, rfl, hq6⟩, rfl⟩
       have HQ3 := hide hq6
       have hq6l := hq6.le
       have hq6n := hq6.len
       have hsk6 := Sp.skB_len r'
       clear hq6
       go_wp2_with (fail)
       refine (rIs_any (unhide HI7).rb.rs (unhide HQ3) 125 _ rfl).mono ?_
       rintro e w15 ⟨rfl, rfl⟩
       cases h93 : Sp.tk (Sp.skB r') 125 with
       | true =>
        have HF := hide ((unhide HI7).done (o := Sp.rval (f + 1) (123 :: r)) (by rw [unhide HRV2, unhide HXS, if_pos h93]; rfl) ((unhide HQ3).tail h93))
        have hq7l := ((unhide HQ3).tail h93).le
        clear h93
        go_wp2_with (fail)
        go_ret2
        exact unhide HF
       | false =>
        have HX2 := hide (show X = if Sp.tk (Sp.skB r') 44 then Sp.lst 125 (Sp.rmemb (Sp.rval f)) (n - 1) (Sp.skB (Sp.skB r').tail) (es ++ [(k, d)]) else none by rw [unhide HXS, if_neg (by rw [h93]; decide)])
        clear h93
        go_wp2_with (fail)
        refine (rIs_any (unhide HI7).rb.rs (unhide HQ3) 44 _ rfl).mono ?_
        rintro e w16 ⟨rfl, rfl⟩
        cases h44 : Sp.tk (Sp.skB r') 44 with
        | false =>
         have HF := hide (OvEnd.fail (o := Sp.rval (f + 1) (123 :: r)) (f := f + 1) (tw := tw) (far := far) (by rw [unhide HRV2, unhide HX2, if_neg (by rw [h44]; decide)]; rfl) (unhide HI7).kept (unhide HI7).rb)
         clear h44
         go_wp2_with (fail)
         go_ret2
         exact unhide HF
        | true =>
         have hat7 := (unhide HQ3).tail h44
         have hq7l := hat7.le
         have htl7 := tk_cons h44
         have HX3 := hide (show X = Sp.lst 125 (Sp.rmemb (Sp.rval f)) (n - 1) (Sp.skB (Sp.skB r').tail) (es ++ [(k, d)]) by rw [unhide HX2, if_pos h44])
         have HAT7 := hide hat7
         clear h44 hat7
         go_wp2_with (fail)
         refine (rOver_any (unhide HI7).rb.rs (unhide HAT7)).mono ?_
         rintro e w17 ⟨⟨q8, rfl, hq8⟩, rfl⟩
         have hq8n := hq8.len
         have hq8l := hq8.le
         have hsk8 := Sp.skB_len (Sp.skB r').tail
         have HQ8 := hide hq8
         have hfin : q < q8 ∧ (Sp.skB (Sp.skB r').tail).length + 1 < r0.length + 1 := by omega
         clear hq8
         go_wp2_with (fail)
         go_roundw
         case rel => (repeat apply Exists.intro); exact ⟨rfl, unhide HQ8, skB_idem _, by omega, by omega, (unhide HX3).symm, unhide HI7, by simp; omega⟩
         case measure => simp only [intOf]; omega
      ·have HF := hide (OvEnd.fail (o := Sp.rval (f + 1) (123 :: r)) (f := f + 1) (tw := tw) (far := far) (unhide HNO (rmemb_v (unhide HS) hs5)) ((unhide HI5).kept.trans hk9) hrb)
       clear hs5 hk9 hrb
       go_wp2_with (fail)
       go_ret2
       exact unhide HF
    ·have HF := hide (OvEnd.fail (o := Sp.rval (f + 1) (123 :: r)) (f := f + 1) (tw := tw) (far := far) (unhide HNO (rmemb_q hs)) (unhide HI5).kept (unhide HI5).rb)
     clear hs hb5 HI5 HI
     go_wp2_with (fail)
     go_ret2
     exact unhide HF
end Go.Proofs.YtdpomdelmdofmaaGreatDoor

namespace Go.Proofs.YtdpomdelmdofmaaGreatDoor
open Go.RowKit
def rwL (j : Nat) : Sp.By := if j = 0 then [110, 117, 108, 108] else if j = 1 then [102, 97, 108, 115, 101] else [116, 114, 117, 101]
def rwK (j : Nat) : Nat := if j = 0 then 0 else if j = 1 then 2 else 1
theorem rwL_len (j : Nat) : (rwL j).length ≤ 5 ∧ 0 < (rwL j).length := by
 unfold rwL
 repeat' split
 all_goals decide
theorem rwK_lt (j : Nat) : rwK j < 3 := by
 unfold rwK
 repeat' split
 all_goals omega
theorem rwK_word (j : Nat) : Sp.words.getD (rwK j) [] = rwL j := by
 unfold rwK rwL
 repeat' split
 all_goals rfl
theorem rval_word (f : Nat) (l : Sp.By) (j : Nat) (hj : j < 3) (h : Lib.hasPrefix l (rwL j) = true) : Sp.rval (f + 1) l = some (Sp.oWord (rwK j), l.drop (rwL j).length) := by
 unfold Lib.hasPrefix at h
 obtain ⟨r, rfl⟩ := List.isPrefixOf_iff_prefix.1 h
 match j, hj with
 | 0, _ => simp [Sp.rval, rwL, rwK, Sp.pk, Sp.wordIn, Sp.words, Lib.hasPrefix, List.isPrefixOf]
 | 1, _ => simp [Sp.rval, rwL, rwK, Sp.pk, Sp.wordIn, Sp.words, Lib.hasPrefix, List.isPrefixOf]
 | 2, _ => simp [Sp.rval, rwL, rwK, Sp.pk, Sp.wordIn, Sp.words, Lib.hasPrefix, List.isPrefixOf]
theorem pk_no {l : Sp.By} {c : UInt8} (h : Sp.tk l c = false) (hc : 0 < c.toNat) : ¬ Sp.pk l = c.toNat := by
 cases l with
 | nil => show ¬ 0 = _; omega
 | cons a r =>
  intro e
  have : a = c := UInt8.toNat_inj.1 e
  rw [this] at h
  simp [Sp.tk] at h
theorem dgH_pk (l : Sp.By) : Sp.dgH l = true ↔ 48 ≤ Sp.pk l ∧ Sp.pk l ≤ 57 := by
 cases l with
 | nil => simp [Sp.dgH, Sp.pk]
 | cons a r => exact isD_iff a
theorem tk_pk {l : Sp.By} {c : UInt8} (h : Sp.tk l c = true) : Sp.pk l = c.toNat := by
 obtain ⟨r, rfl⟩ := tk_form h; rfl
theorem rval_none (f : Nat) (l : Sp.By) (h : ∀ j, j < 3 → Lib.hasPrefix l (rwL j) = false) (hd : Sp.dgH l = false) (h45 : Sp.tk l 45 = false) (h34 : Sp.tk l 34 = false) (h91 : Sp.tk l 91 = false) (h123 : Sp.tk l 123 = false) : Sp.rval (f + 1) l = none := by
 have e1 : ¬ Sp.pk l = 45 := pk_no h45 (by decide)
 have e2 : ¬ Sp.pk l = 34 := pk_no h34 (by decide)
 have e3 : ¬ Sp.pk l = 91 := pk_no h91 (by decide)
 have e4 : ¬ Sp.pk l = 123 := pk_no h123 (by decide)
 have e5 : ¬ (48 ≤ Sp.pk l ∧ Sp.pk l ≤ 57) := by rw [← dgH_pk, hd]; decide
 have w0 : Lib.hasPrefix l [110, 117, 108, 108] = false := h 0 (by omega)
 have w1 : Lib.hasPrefix l [102, 97, 108, 115, 101] = false := h 1 (by omega)
 have w2 : Lib.hasPrefix l [116, 114, 117, 101] = false := h 2 (by omega)
 unfold Sp.rval
 rw [if_neg e4, if_neg e3, if_neg e2, if_neg (fun h => h.elim e1 e5)]
 simp [Sp.wordIn, Sp.words, w0, w1, w2]
theorem rval_num (f : Nat) (l : Sp.By) (h : Sp.dgH l = true ∨ Sp.tk l 45 = true) : Sp.rval (f + 1) l = (Sp.num l).map fun x => (Sp.oNum x.1 (Sp.rex l), x.2) := by
 have hp : Sp.pk l = 45 ∨ (48 ≤ Sp.pk l ∧ Sp.pk l ≤ 57) := h.elim (fun h => Or.inr ((dgH_pk l).1 h)) (fun h => Or.inl (tk_pk h))
 unfold Sp.rval
 rw [if_neg (by omega), if_neg (by omega), if_neg (by omega), if_pos hp]
 cases Sp.num l <;> rfl
theorem rval_str (f : Nat) (r : Sp.By) : Sp.rval (f + 1) (34 :: r) = (Sp.quo (34 :: r)).map fun x => (Sp.oStr x.1, x.2) := by
 unfold Sp.rval
 rw [if_neg (by simp [Sp.pk]), if_neg (by simp [Sp.pk]), if_pos (by simp [Sp.pk])]
 cases Sp.quo (34 :: r) <;> rfl
theorem OvEnd.up {o : Option (Sp.O × Sp.By)} {f : Nat} {t : ByteArray} {R : Nat} {mo : Int} {tw far : Bool} {w wa w' : World} {e : Ending} (h : OvEnd o f t R mo tw far wa e w') (hk : KeptX R w wa) : OvEnd o f t R mo tw far w e w' := by
 obtain ⟨h1, h2⟩ := h
 refine ⟨hk.trans h1, h2.imp ?_ id⟩
 rintro ⟨d, r, V, q, a1, a2, a3, a4, a5⟩
 have := hk.size
 exact ⟨d, r, V, q, a1, a2, a3, a4.move (fun k h1 _ => ⟨rfl, by omega⟩), a5⟩
theorem NumEnd.ov {l : Sp.By} {f : Nat} {t : ByteArray} {R : Nat} {mo : Int} {tw far : Bool} {w w' : World} {e : Ending} (h : NumEnd (Sp.num l) (Sp.rex l) t R mo tw far w e w') (hp : Sp.dgH l = true ∨ Sp.tk l 45 = true) : OvEnd (Sp.rval (f + 1) l) (f + 1) t R mo tw far w e w' := by
 obtain ⟨h1, h2⟩ := h
 rw [rval_num f l hp]
 refine ⟨h1, ?_⟩
 rcases h2 with ⟨n, r, V, q, ds, a1, a2, a3, a4, a5, a6, a7⟩ | ⟨a1, a2, a3⟩
 ·refine Or.inl ⟨Sp.oNum n (Sp.rex l), r, V, q, by rw [a1]; rfl, a2, a3, ⟨V, rfl, a4, Or.inr (Or.inl ⟨n, Sp.rex l, rfl, a6.ob a5⟩)⟩, ?_⟩
  show RB w' R t mo (tw || false) _
  rw [Bool.or_false]
  exact a7
 ·exact Or.inr ⟨by rw [a1]; rfl, a2, tw, far, a3⟩
end Go.Proofs.YtdpomdelmdofmaaGreatDoor
