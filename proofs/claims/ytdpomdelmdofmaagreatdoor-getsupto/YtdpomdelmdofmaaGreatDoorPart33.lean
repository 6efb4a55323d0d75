/-
  Walk of the statement's own strings in two spellings.
-/
import Derived.Test.YtdpomdelmdofmaaGreatDoorPart32
import Derived.Test.YtdpomdelmdofmaaGreatDoorPart31
import Derived.Lib.MapLaws
namespace Go.Proofs.YtdpomdelmdofmaaGreatDoor
open Go.RowKit
def plCells : Array Value := #[.string ⟨#[97]⟩, .string ⟨#[195, 169]⟩, .string ⟨#[240, 159, 152, 128]⟩, .string ⟨#[92, 34]⟩, .string ⟨#[92, 110]⟩, .string ⟨#[47]⟩, .string ⟨#[92, 92]⟩, .string ⟨#[226, 130, 172]⟩]
def otCells : Array Value := #[.string ⟨#[92, 117, 48, 48, 54, 49]⟩, .string ⟨#[92, 117, 48, 48, 69, 57]⟩, .string ⟨#[92, 117, 100, 56, 51, 68, 92, 117, 68, 101, 48, 48]⟩, .string ⟨#[92, 117, 48, 48, 50, 50]⟩, .string ⟨#[92, 117, 48, 48, 48, 65]⟩, .string ⟨#[92, 47]⟩, .string ⟨#[92, 117, 48, 48, 53, 99]⟩, .string ⟨#[92, 117, 50, 48, 97, 67]⟩]
theorem pl_len {k : Nat} (hk : k < 8) : (Sp.plain.getD k []).length ≤ 12 := by
 have h : ∀ j : Fin 8, (Sp.plain.getD j.val []).length ≤ 12 := by decide
 exact h ⟨k, hk⟩
theorem ot_len {k : Nat} (hk : k < 8) : (Sp.other.getD k []).length ≤ 12 := by
 have h : ∀ j : Fin 8, (Sp.other.getD j.val []).length ≤ 12 := by decide
 exact h ⟨k, hk⟩
def Op (A : ByteArray) (cs : List Nat) (n : Nat) : Prop := ∃ A', A.data.toList = 34 :: A' ∧ Sp.Chs A' cs ∧ A.size ≤ 1 + 12 * n
theorem Op.nil : Op ⟨#[34]⟩ [] 0 := ⟨[], rfl, Sp.Chs.nil, by decide⟩
theorem Op.next {A p : ByteArray} {cs : List Nat} {n c : Nat} (h : Op A cs n) (hp : Sp.Ch p.data.toList c) (hl : p.size ≤ 12) : Op (A ++ p) (cs ++ [c]) (n + 1) := by
 obtain ⟨A', h1, h2, h3⟩ := h
 exact ⟨A' ++ p.data.toList, by simp [h1], h2.snoc hp, by simp; omega⟩
theorem Op.two {A B : ByteArray} {cs : List Nat} {n : Nat} (h : Op A cs n) (k : Op B cs n) (hn : n ≤ 3) : Sp.Two 0 (A ++ ⟨#[34]⟩ : ByteArray).data.toList (B ++ ⟨#[34]⟩ : ByteArray).data.toList ∧ (A ++ ⟨#[34]⟩ : ByteArray).size ≤ 50 ∧ (B ++ ⟨#[34]⟩ : ByteArray).size ≤ 50 := by
 obtain ⟨A', h1, h2, h3⟩ := h
 obtain ⟨B', k1, k2, k3⟩ := k
 have s1 : (⟨#[34]⟩ : ByteArray).size = 1 := rfl
 have e : ∀ {X : ByteArray} {X' : Sp.By}, X.data.toList = 34 :: X' → (X ++ ⟨#[34]⟩ : ByteArray).data.toList = 34 :: (X' ++ [34]) := by
  intro X X' hX
  simp [hX]
 refine ⟨⟨_, by rw [e h1]; exact rdV_str h2, by rw [e k1]; exact rdV_str k2⟩, ?_, ?_⟩
 ·rw [ByteArray.size_append, s1]; omega
 ·rw [ByteArray.size_append, s1]; omega
set_option maxHeartbeats 8000000 in
theorem ktext_any {w : World} {R : Nat} {pa : Option Addr} {m cap : Nat} (h : FD w R pa m cap) :
  Calls Tryz.prog 33 #[.pointer (some ⟨R, 0, none⟩)] w fun x w' => (∃ a b : ByteArray, Sp.Two 0 a.data.toList b.data.toList ∧ a.size ≤ 50 ∧ b.size ≤ 50 ∧ x = .returned (.tuple #[.string a, .string b])) ∧ FK R pa m cap w w' := by
 have hb1 : Below w.heap.size w (w.alloc (.cells plCells 9)) := (Below.refl _ _).alloc (Nat.le_refl _) _
 have hb2 : Below w.heap.size w ((w.alloc (.cells plCells 9)).alloc (.cells otCells 9)) := hb1.alloc hb1.size _
 have hlt := h.lt
 have hg1 : Tx ((w.alloc (.cells plCells 9)).alloc (.cells otCells 9)) w.heap.size Sp.plain := by
  have := Tx.new w Sp.plain (cs := plCells) (by rfl)
  exact this.kept (R := R) ((KeptX.refl R _).alloc _) (by omega)
 have hg2 : Tx ((w.alloc (.cells plCells 9)).alloc (.cells otCells 9)) (w.heap.size + 1) Sp.other := by
  have := Tx.new (w.alloc (.cells plCells 9)) Sp.other (cs := otCells) (by rfl)
  simpa using this
 have HFK := hide (show FK R pa m cap w ((w.alloc (.cells plCells 9)).alloc (.cells otCells 9)) from ⟨h.low hb2, KeptX.of_below hb2⟩)
 have HG1 := hide hg1
 have HG2 := hide hg2
 clear h hb1 hb2 hg1 hg2
 go_enter Tryz.func33, Tryz.ntmps33
 go_wp2_with (fail)
 refine (next_any (unhide HFK).1 4 (by omega) (by omega)).mono ?_
 rintro x w2 ⟨⟨k0, hk0, rfl⟩, hfk⟩
 have HG3 := hide ((unhide HG1).kept hfk.2 (by omega))
 have HG4 := hide ((unhide HG2).kept hfk.2 (by omega))
 have HFK2 := hide ((unhide HFK).trans hfk)
 clear hfk HG1 HG2 HFK
 go_wp2_with (fail)
 go_loopw [6, 7, 8] (fun a b n wr => ∃ (j : Nat) (A B : ByteArray) (cs : List Nat), j ≤ k0 ∧ n = .int .i64 j ∧ a = .string A ∧ b = .string B ∧ Op A cs (k0 - j) ∧ Op B cs (k0 - j) ∧ FK R pa m cap w wr ∧ Tx wr w.heap.size Sp.plain ∧ Tx wr (w.heap.size + 1) Sp.other) (fun _ _ n _ => (intOf n).toNat)
 case atStart => exact ⟨k0, _, _, [], Nat.le_refl _, rfl, rfl, rfl, by rw [Nat.sub_self]; exact Op.nil, by rw [Nat.sub_self]; exact Op.nil, unhide HFK2, unhide HG3, unhide HG4⟩
 case round =>
  obtain ⟨j, A, B, cs, hj, rfl, rfl, rfl, hA, hB, hfk, hg1, hg2⟩ := hrel
  have HA := hide hA
  have HB := hide hB
  have HF := hide hfk
  have HG5 := hide hg1
  have HG6 := hide hg2
  have hAs : A.size ≤ 37 := by obtain ⟨_, _, _, hs⟩ := hA; omega
  have hBs : B.size ≤ 37 := by obtain ⟨_, _, _, hs⟩ := hB; omega
  clear hA hB hfk hg1 hg2 HG3 HG4 HFK2
  by_cases h0 : 0 < j
  ·go_wp2_with (fail)
   refine (next_any (unhide HF).1 8 (by omega) (by omega)).mono ?_
   rintro x w5 ⟨⟨k, hk, rfl⟩, hf5⟩
   have hg5 := (unhide HG5).kept hf5.2 (by omega)
   obtain ⟨p, cp, ep⟩ := hg5.at k (by exact hk)
   have hps : p.size ≤ 12 := by rw [Lib.size_eq, ep]; exact pl_len hk
   have HEP := hide ep
   have HG7 := hide hg5
   have HG8 := hide ((unhide HG6).kept hf5.2 (by omega))
   have HF5 := hide ((unhide HF).trans hf5)
   clear ep hg5 hf5 HG5 HG6 HF
   go_wp2_with (fail)
   refine (next_any (unhide HF5).1 2 (by omega) (by omega)).mono ?_
   rintro x w6 ⟨⟨t, ht, rfl⟩, hf6⟩
   have hg7 := (unhide HG7).kept hf6.2 (by omega)
   have hg8 := (unhide HG8).kept hf6.2 (by omega)
   obtain ⟨p2, cp2, ep2⟩ := hg7.at k (by exact hk)
   obtain ⟨o, co, eo⟩ := hg8.at k (by exact hk)
   have hp2s : p2.size ≤ 12 := by rw [Lib.size_eq, ep2]; exact pl_len hk
   have hos : o.size ≤ 12 := by rw [Lib.size_eq, eo]; exact ot_len hk
   have HEP2 := hide ep2
   have HEO := hide eo
   have HG9 := hide hg7
   have HG10 := hide hg8
   have HF6 := hide ((unhide HF5).trans hf6)
   clear ep2 eo hg7 hg8 hf6 HG7 HG8 HF5
   by_cases ht0 : t = 0
   ·subst ht0
    go_wp2_with (fail)
    exact ⟨⟨j - 1, _, _, cs ++ [Sp.chrC.getD k 0], by omega, by rw [show ((j : Int) - 1) = ((j - 1 : Nat) : Int) by omega], rfl, rfl, by
     rw [show k0 - (j - 1) = k0 - j + 1 by omega]
     exact (unhide HA).next (by rw [unhide HEP]; exact ch_plain k hk) hps, by
     rw [show k0 - (j - 1) = k0 - j + 1 by omega]
     exact (unhide HB).next (by rw [unhide HEP2]; exact ch_plain k hk) hp2s, unhide HF6, unhide HG9, unhide HG10⟩, by simp only [intOf]; omega⟩
   ·have ht1 : ((t : Int) == 0) = false := by simp; omega
    clear ht0
    go_wp2_with (fail)
    exact ⟨⟨j - 1, _, _, cs ++ [Sp.chrC.getD k 0], by omega, by rw [show ((j : Int) - 1) = ((j - 1 : Nat) : Int) by omega], rfl, rfl, by
     rw [show k0 - (j - 1) = k0 - j + 1 by omega]
     exact (unhide HA).next (by rw [unhide HEP]; exact ch_plain k hk) hps, by
     rw [show k0 - (j - 1) = k0 - j + 1 by omega]
     exact (unhide HB).next (by rw [unhide HEO]; exact ch_other k hk) hos, unhide HF6, unhide HG9, unhide HG10⟩, by simp only [intOf]; omega⟩
  ·obtain rfl : j = 0 := by omega
   go_wp2_with (fail)
   go_ret2
   obtain ⟨t1, t2, t3⟩ := (unhide HA).two (unhide HB) (by omega)
   exact ⟨⟨_, _, t1, t2, t3, rfl⟩, unhide HF⟩
end Go.Proofs.YtdpomdelmdofmaaGreatDoor

namespace Go.Proofs.YtdpomdelmdofmaaGreatDoor
open Go.RowKit
def bnd : Nat → Nat
 | 0 => 50
 | k + 1 => 3 * bnd k + 100
theorem bnd_le : ∀ k : Nat, k ≤ 3 → bnd k ≤ 3000
 | 0, _ => by decide
 | 1, _ => by decide
 | 2, _ => by decide
 | 3, _ => by decide
theorem bnd_ge (k : Nat) : 50 ≤ bnd k := by
 induction k with
 | zero => exact Nat.le_refl _
 | succ k ih => unfold bnd; omega
def TwoEnd (k : Nat) (x : Ending) : Prop := ∃ a b : ByteArray, Sp.Two k a.data.toList b.data.toList ∧ a.size ≤ bnd k ∧ b.size ≤ bnd k ∧ x = .returned (.tuple #[.string a, .string b])
def ValT (k : Nat) : Prop := ∀ (w : World) (R : Nat) (pa : Option Addr) (m cap : Nat), FD w R pa m cap → Calls Tryz.prog 21 #[.pointer (some ⟨R, 0, none⟩), .int .i64 (k : Nat)] w fun x w' => TwoEnd k x ∧ FK R pa m cap w w'
def sofar (j : Nat) (xs : List Sp.By) : Sp.By := if j = 0 then Sp.joinC xs else Sp.pre xs
theorem sofar_last (xs : List Sp.By) (t : Sp.By) : sofar 0 (xs ++ [t]) = sofar 1 xs ++ t := by
 unfold sofar
 rw [if_pos rfl, if_neg (by omega), joinC_pre]
theorem sofar_next (j : Nat) (hj : 1 < j) (xs : List Sp.By) (t : Sp.By) : sofar (j - 1) (xs ++ [t]) = sofar j xs ++ (t ++ [44]) := by
 unfold sofar
 rw [if_neg (by omega), if_neg (by omega), pre_snoc]
theorem sofar_nil (j : Nat) : sofar j [] = [] := by
 unfold sofar
 split <;> rfl
theorem sofar_one {j : Nat} (hj : 0 < j) (xs : List Sp.By) : sofar j xs = sofar 1 xs := by
 unfold sofar
 rw [if_neg (by omega), if_neg (by omega)]
structure ArI (k : Nat) (es : List Sp.El) (j : Nat) (A B : ByteArray) : Prop where
 ok : ∀ e ∈ es, e.ok k
 a : A.data.toList = 91 :: sofar j (es.map Sp.El.x)
 b : B.data.toList = 91 :: sofar j (es.map Sp.El.b)
 sa : A.size ≤ 1 + es.length * (bnd k + 6)
 sb : B.size ≤ 1 + es.length * (bnd k + 6)
theorem ArI.nil (k j : Nat) : ArI k [] j ⟨#[91]⟩ ⟨#[91]⟩ := ⟨by simp, by rw [List.map_nil, sofar_nil], by rw [List.map_nil, sofar_nil], by show 1 ≤ 1 + _; omega, by show 1 ≤ 1 + _; omega⟩
theorem size_app (a b : ByteArray) : (a ++ b).size = a.size + b.size := ByteArray.size_append
theorem ArI.last {k : Nat} {es : List Sp.El} {A B x y p q : ByteArray} (h : ArI k es 1 A B) {v : Sp.V} (hx : Sp.RdV k x.data.toList v) (hy : Sp.RdV k y.data.toList v) (sx : x.size ≤ bnd k) (sy : y.size ≤ bnd k) (hp : Sp.Bl p.data.toList) (hq : Sp.Bl q.data.toList) (sp : p.size ≤ 2) (sq : q.size ≤ 2) :
  ArI k (es ++ [⟨x.data.toList, p.data.toList, y.data.toList, q.data.toList, v⟩]) 0 (A ++ x) (B ++ p ++ y ++ q) := by
 refine ⟨fun e he => ?_, ?_, ?_, ?_, ?_⟩
 ·rcases List.mem_append.1 he with he | he
  ·exact h.ok e he
  ·rw [List.mem_singleton] at he; subst he; exact ⟨hx, hy, hp, hq⟩
 ·rw [List.map_append, List.map_singleton, sofar_last]
  simp [h.a]
 ·rw [List.map_append, List.map_singleton, sofar_last]
  simp [h.b, Sp.El.b]
 ·have := h.sa
  rw [size_app, List.length_append, List.length_singleton, Nat.add_mul]; omega
 ·have := h.sb
  rw [size_app, size_app, size_app, List.length_append, List.length_singleton, Nat.add_mul]; omega
theorem ArI.next {k j : Nat} (hj : 1 < j) {es : List Sp.El} {A B x y p q : ByteArray} (h : ArI k es j A B) {v : Sp.V} (hx : Sp.RdV k x.data.toList v) (hy : Sp.RdV k y.data.toList v) (sx : x.size ≤ bnd k) (sy : y.size ≤ bnd k) (hp : Sp.Bl p.data.toList) (hq : Sp.Bl q.data.toList) (sp : p.size ≤ 2) (sq : q.size ≤ 2) :
  ArI k (es ++ [⟨x.data.toList, p.data.toList, y.data.toList, q.data.toList, v⟩]) (j - 1) (A ++ x ++ ⟨#[44]⟩) (B ++ p ++ y ++ q ++ ⟨#[44]⟩) := by
 have s1 : (⟨#[44]⟩ : ByteArray).size = 1 := rfl
 refine ⟨fun e he => ?_, ?_, ?_, ?_, ?_⟩
 ·rcases List.mem_append.1 he with he | he
  ·exact h.ok e he
  ·rw [List.mem_singleton] at he; subst he; exact ⟨hx, hy, hp, hq⟩
 ·rw [List.map_append, List.map_singleton, sofar_next j hj]
  simp [h.a]
 ·rw [List.map_append, List.map_singleton, sofar_next j hj]
  simp [h.b, Sp.El.b]
 ·have := h.sa
  rw [size_app, size_app, s1, List.length_append, List.length_singleton, Nat.add_mul]; omega
 ·have := h.sb
  rw [size_app, size_app, size_app, size_app, s1, List.length_append, List.length_singleton, Nat.add_mul]; omega
theorem ArI.fin {k : Nat} {es : List Sp.El} {A B z : ByteArray} (h : ArI k es 0 A B) (hl : es.length ≤ 3) (hz : Sp.Bl z.data.toList) (sz : z.size ≤ 2) : TwoEnd (k + 1) (.returned (.tuple #[.string (A ++ ⟨#[93]⟩), .string (B ++ z ++ ⟨#[93]⟩)])) := by
 have s1 : (⟨#[93]⟩ : ByteArray).size = 1 := rfl
 have hb : es.length * (bnd k + 6) ≤ 3 * (bnd k + 6) := Nat.mul_le_mul_right _ hl
 refine ⟨_, _, ?_, ?_, ?_, rfl⟩
 ·have e1 : (A ++ ⟨#[93]⟩ : ByteArray).data.toList = 91 :: (Sp.joinC (es.map Sp.El.x) ++ [93]) := by simp [h.a, sofar]
  have e2 : (B ++ z ++ ⟨#[93]⟩ : ByteArray).data.toList = 91 :: (Sp.joinC (es.map Sp.El.b) ++ (z.data.toList ++ [93])) := by simp [h.b, sofar]
  rw [e1, e2]
  exact two_arr h.ok hz
 ·have := h.sa
  rw [size_app, s1]; simp only [bnd]; omega
 ·have := h.sb
  rw [size_app, size_app, s1]; simp only [bnd]; omega
set_option maxHeartbeats 8000000 in
theorem karray_any {k : Nat} (hk : k < 3) (hV : ValT k) {w : World} {R : Nat} {pa : Option Addr} {m cap : Nat} (h : FD w R pa m cap) :
  Calls Tryz.prog 34 #[.pointer (some ⟨R, 0, none⟩), .int .i64 ((k : Int) + 1)] w fun x w' => TwoEnd (k + 1) x ∧ FK R pa m cap w w' := by
 have H := hide h
 have HV := hide hV
 have hbk := bnd_le k (by omega)
 clear h hV
 go_enter Tryz.func34, Tryz.ntmps34
 go_wp2_with (fail)
 refine (next_any (unhide H) 4 (by omega) (by omega)).mono ?_
 rintro x w2 ⟨⟨k0, hk0, rfl⟩, hfk⟩
 have HFK := hide hfk
 clear hfk H
 go_wp2_with (fail)
 go_loopw [6, 7, 8] (fun a b n wr => ∃ (j : Nat) (A B : ByteArray) (es : List Sp.El), es.length + j = k0 ∧ n = .int .i64 j ∧ a = .string A ∧ b = .string B ∧ ArI k es j A B ∧ FK R pa m cap w wr) (fun _ _ n _ => (intOf n).toNat)
 case atStart => exact ⟨k0, _, _, [], by simp, rfl, rfl, rfl, ArI.nil k k0, unhide HFK⟩
 case round =>
  obtain ⟨j, A, B, es, hj, rfl, rfl, rfl, hI, hfk⟩ := hrel
  have HI := hide hI
  have HF := hide hfk
  have HJ := hide hj
  have hlen : es.length * (bnd k + 6) ≤ 3 * (bnd k + 6) := Nat.mul_le_mul_right _ (by omega)
  have hAs : A.size ≤ 20000 := by have := hI.sa; omega
  have hBs : B.size ≤ 20000 := by have := hI.sb; omega
  have hjk : j ≤ k0 := by omega
  clear hI hfk hlen HFK hj
  by_cases h0 : 0 < j
  ·go_wp2_with (fail)
   refine (unhide HV _ _ _ _ _ (unhide HF).1).mono ?_
   rintro x w5 ⟨⟨x, y, ⟨v, hvx, hvy⟩, sx, sy, rfl⟩, hf5⟩
   have HVX := hide hvx
   have HVY := hide hvy
   have HF5 := hide ((unhide HF).trans hf5)
   have HSX := hide sx
   have HSY := hide sy
   have hsx : x.size ≤ 3000 := by omega
   have hsy : y.size ≤ 3000 := by omega
   clear hvx hvy hf5 HF sx sy
   go_wp2_with (fail)
   refine (blank_any (unhide HF5).1).mono ?_
   rintro r w6 ⟨⟨p, hp, sp, rfl⟩, hf6⟩
   have HP := hide hp
   have HF6 := hide ((unhide HF5).trans hf6)
   clear hp hf6 HF5
   go_wp2_with (fail)
   refine (blank_any (unhide HF6).1).mono ?_
   rintro r w7 ⟨⟨q, hq, sq, rfl⟩, hf7⟩
   have HQ := hide hq
   have HF7 := hide ((unhide HF6).trans hf7)
   clear hq hf7 HF6
   by_cases h1 : 1 < j
   ·go_wp2_with (fail)
    exact ⟨⟨j - 1, _, _, _, by have := unhide HJ; simp; omega, by rw [show ((j : Int) - 1) = ((j - 1 : Nat) : Int) by omega], rfl, rfl, (unhide HI).next h1 (unhide HVX) (unhide HVY) (unhide HSX) (unhide HSY) (unhide HP) (unhide HQ) sp sq, unhide HF7⟩, by simp only [intOf]; omega⟩
   ·obtain rfl : j = 1 := by omega
    go_wp2_with (fail)
    exact ⟨⟨0, _, _, _, by have := unhide HJ; simp; omega, rfl, rfl, rfl, (unhide HI).last (unhide HVX) (unhide HVY) (unhide HSX) (unhide HSY) (unhide HP) (unhide HQ) sp sq, unhide HF7⟩, by simp only [intOf]; omega⟩
  ·obtain rfl : j = 0 := by omega
   go_wp2_with (fail)
   refine (blank_any (unhide HF).1).mono ?_
   rintro r w6 ⟨⟨z, hz, sz, rfl⟩, hf6⟩
   have HZ := hide hz
   have HF6 := hide ((unhide HF).trans hf6)
   clear hz hf6 HF
   go_wp2_with (fail)
   go_ret2
   exact ⟨(unhide HI).fin (by have := unhide HJ; omega) (unhide HZ) sz, unhide HF6⟩
end Go.Proofs.YtdpomdelmdofmaaGreatDoor

namespace Go.Proofs.YtdpomdelmdofmaaGreatDoor
open Go.RowKit
theorem sca_chr {c : UInt8} {r : Sp.By} (h92 : Sp.tk (c :: r) 92 = false) : (Sp.sca (c :: r) = (0, 0) ∧ Sp.chr (c :: r) = none) ∨
  ∃ v n, Sp.sca (c :: r) = (v, n) ∧ 1 ≤ n ∧ n ≤ (c :: r).length ∧ Sp.encN v = (c :: r).take n ∧ Sp.chr (c :: r) = if v < 32 then none else some (v, (c :: r).drop n) := by
 have hch : Sp.chr (c :: r) = if (Sp.dec (c :: r)).1 < 32 ∨ ((Sp.dec (c :: r)).1 = 65533 ∧ (Sp.dec (c :: r)).2 < 2) then none else some ((Sp.dec (c :: r)).1, (c :: r).drop (Sp.dec (c :: r)).2) := by
  unfold Sp.chr; rw [h92, if_neg (by decide)]
 have hpos := dec_pos (c :: r) (by simp)
 rcases sca_eq c r with ⟨hb, hs⟩ | ⟨hb, hs⟩
 ·left
  refine ⟨hs, ?_⟩
  rw [hch, if_pos (Or.inr hb)]
 ·right
  have hdl : Lib.decodeL (c :: r) = Sp.dec (c :: r) := by unfold Sp.dec; rw [if_neg (by simp)]; rfl
  have henc := Lib.encode_decode (c :: r) (by simp) (by rw [hdl]; intro h; exact hb ⟨h.1, by omega⟩)
  rw [hdl] at henc
  refine ⟨(Sp.dec (c :: r)).1, (Sp.dec (c :: r)).2, hs, hpos, dec_le _, henc, ?_⟩
  rw [hch]
  by_cases h32 : (Sp.dec (c :: r)).1 < 32
  ·rw [if_pos (Or.inl h32), if_pos h32]
  ·rw [if_neg (fun h => h.elim h32 hb), if_neg h32]
def TxtEnd (o : Option (Sp.By × Sp.By)) (t : ByteArray) (w : World) (e : Ending) (w' : World) : Prop :=
 ((∃ (s r : Sp.By) (b : ByteArray) (q : Nat), o = some (s, r) ∧ e = .returned (.tuple #[.string b, .int .i64 q]) ∧ b.data.toList = s ∧ At t q r ∧ 0 < q) ∨ (o = none ∧ e = .returned (.tuple #[.string ⟨#[]⟩, .int .i64 0]))) ∧ Below w.heap.size w w'
def TxtI (o : Option (Sp.By × Sp.By)) (l : Sp.By) (A : ByteArray) : Prop := ∃ f, l.length < f ∧ o = (Sp.chrs f l).map fun x => (A.data.toList ++ x.1, x.2)
theorem TxtI.nil {o : Option (Sp.By × Sp.By)} {A : ByteArray} (h : TxtI o [] A) : o = none := by
 obtain ⟨f, hf, h⟩ := h
 match f, hf with
 | f + 1, _ => rw [h]; rfl
theorem TxtI.quo {o : Option (Sp.By × Sp.By)} {A : ByteArray} {l : Sp.By} (h : TxtI o (34 :: l) A) : o = some (A.data.toList, l) := by
 obtain ⟨f, hf, h⟩ := h
 match f, hf with
 | f + 1, _ =>
  rw [h, Sp.chrs, if_pos (by rfl)]
  simp
theorem TxtI.none {o : Option (Sp.By × Sp.By)} {A : ByteArray} {l : Sp.By} (h : TxtI o l A) (h34 : Sp.tk l 34 = false) (hc : Sp.chr l = Option.none) : o = Option.none := by
 obtain ⟨f, hf, h⟩ := h
 match f, hf with
 | f + 1, _ => rw [h, Sp.chrs, h34, if_neg (by decide), hc]; rfl
theorem TxtI.some {o : Option (Sp.By × Sp.By)} {A s : ByteArray} {l r : Sp.By} {c : Nat} (h : TxtI o l A) (h34 : Sp.tk l 34 = false) (hc : Sp.chr l = Option.some (c, r)) (hs : s.data.toList = Sp.encN c) : TxtI o r (A ++ s) := by
 obtain ⟨f, hf, h⟩ := h
 have hl := (chr_len hc).1
 match f, hf with
 | f + 1, hf =>
  refine ⟨f, by omega, ?_⟩
  rw [h, Sp.chrs, h34, if_neg (by decide), hc]
  simp only
  cases Sp.chrs f r with
  | none => rfl
  | some x => obtain ⟨a, b⟩ := x; simp [hs]
set_option maxRecDepth 100000 in
set_option maxHeartbeats 8000000 in
theorem rText_any {w : World} {R : Nat} {t : ByteArray} {p : Nat} {r : Sp.By} (h : RS w R t) (ha : At t p (34 :: r)) (hR : R < w.heap.size) :
  Calls Tryz.prog 128 #[.pointer (some ⟨R, 0, none⟩), .int .i64 p] w fun e w' => TxtEnd (Sp.quo (34 :: r)) t w e w' := by
 have HRS := hide h
 have HI0 : Hid (TxtI (Sp.quo (34 :: r)) r ⟨#[]⟩) := ⟨(34 :: r).length + 1, by simp; omega, by
  unfold Sp.quo
  rw [if_pos (by rfl), List.tail_cons]
  cases Sp.chrs ((34 :: r).length + 1) r with
  | none => rfl
  | some x => simp⟩
 have HA := hide ha.next
 have hsz := ha.small
 have hln := ha.next.len
 have hple := ha.le
 clear h ha
 go_enter Tryz.func128, Tryz.ntmps128
 go_wp2_with (fail)
 go_loopw [1, 6] (fun i out wr => ∃ (q : Nat) (l' : Sp.By) (A : ByteArray), i = .int .i64 q ∧ out = .string A ∧ At t q l' ∧ TxtI (Sp.quo (34 :: r)) l' A ∧ A.size + 4 * l'.length ≤ 8000 ∧ 0 < q ∧ Below w.heap.size w wr) (fun i _ _ => t.size - (intOf i).toNat)
 case atStart => exact ⟨p + 1, r, ⟨#[]⟩, by go_num, rfl, unhide HA, unhide HI0, by show 0 + _ ≤ _; omega, by omega, bel_same⟩
 case round =>
  obtain ⟨q, l', A, rfl, rfl, hat, hI, hAs, hq0, hbel⟩ := hrel
  have HI := hide hI
  have HQ := hide hat
  have HB := hide hbel
  have c0 : wr.cell? ⟨R, 0, none⟩ = some (.string t) := (hbel.cell (p := ⟨R, 0, none⟩) hR).trans (unhide HRS)
  have hRr : R < wr.heap.size := Nat.lt_of_lt_of_le hR hbel.size
  cases l' with
  | nil =>
   have hp := hat.nil
   have e1 : ¬ q < t.size := by omega
   have e2 : t.size ≤ q := by omega
   have HO := hide hI.nil
   clear hat hI hbel hp
   go_wp2_with (fail)
   go_ret2
   exact ⟨Or.inr ⟨unhide HO, rfl⟩, unhide HB⟩
  | cons d l' =>
   have hlt := hat.lt
   have hlt2 : ¬ t.size ≤ q := by omega
   have hby : t[q]'hlt = d := hat.byte
   have HBY := hide hby
   by_cases h34 : d = 34
   ·subst h34
    have e3 : (((t[q]'hlt).toNat : Int) != 34) = false := by rw [hby]; rfl
    have HO := hide hI.quo
    clear hat hI hbel hby
    go_wp2_with (fail)
    go_ret2
    exact ⟨Or.inl ⟨_, l', A, q + 1, unhide HO, by go_num, rfl, (unhide HQ).next, by omega⟩, unhide HB⟩
   ·have k34 : Sp.tk (d :: l') 34 = false := by rw [tk_hd, beq_eq_false_iff_ne]; exact h34
    have e3 : (((t[q]'hlt).toNat : Int) != 34) = true := by
     rw [hby, bne_iff_ne]
     intro k; exact h34 (UInt8.toNat_inj.1 (by exact_mod_cast k))
    have K34 := hide k34
    by_cases h92 : d = 92
    ·subst h92
     have e4 : (((t[q]'hlt).toNat : Int) == 92) = true := by rw [hby]; rfl
     have hce : Sp.chr (92 :: l') = Sp.esc l' := by unfold Sp.chr; rw [if_pos (by rfl), List.tail_cons]
     have HCE := hide hce
     have HAS := hide hAs
     clear hat hI hbel hby k34 hce h34
     go_wp2_with (fail)
     refine (rEscape_any (w := wr) (R := R) (by exact c0) (unhide HQ)).mono ?_
     rintro e w2 ⟨⟨c, r', s, q2, ho, rfl, hs, hat2, hq2⟩ | ⟨ho, rfl⟩, hb2⟩
     ·have hc := (unhide HCE).trans ho
      have hI2 := (unhide HI).some (unhide K34) hc hs
      have hbd := (chr_len hc).1
      have hsl : s.size ≤ 4 := by rw [Lib.size_eq, hs]; exact enc_len _
      have HI2 := hide hI2
      have HAT2 := hide hat2
      have HB2 := hide ((unhide HB).trans (hb2.mono (unhide HB).size))
      have hz0 : ((q2 : Int) == 0) = false := by simp; omega
      have hb3 : A.size + s.size + 4 * r'.length ≤ 8000 := by have := unhide HAS; simp at this hbd; omega
      have HB3 := hide hb3
      have hAz : A.size ≤ 8000 := by omega
      have hl1 := hat2.len
      have hl2 := (unhide HQ).len
      have HM := hide (show t.size - q2 < t.size - q by simp at hbd hl2; omega)
      clear ho hs hat2 hb2 hc hI2 hbd hb3 hl1 hl2
      go_wp2_with (fail)
      exact ⟨⟨q2, r', A ++ s, rfl, rfl, unhide HAT2, unhide HI2, by rw [size_app]; exact unhide HB3, hq2, unhide HB2⟩, by simp only [intOf]; exact unhide HM⟩
     ·have HO := hide ((unhide HI).none (unhide K34) ((unhide HCE).trans ho))
      have HB2 := hide ((unhide HB).trans (hb2.mono (unhide HB).size))
      clear ho hb2
      go_wp2_with (fail)
      go_ret2
      exact ⟨Or.inr ⟨unhide HO, rfl⟩, unhide HB2⟩
    ·have k92 : Sp.tk (d :: l') 92 = false := by rw [tk_hd, beq_eq_false_iff_ne]; exact h92
     have e4 : (((t[q]'hlt).toNat : Int) == 92) = false := by
      rw [hby, beq_eq_false_iff_ne]
      intro k; exact h92 (UInt8.toNat_inj.1 (by exact_mod_cast k))
     have HSC := hide (sca_chr k92)
     have HAS := hide hAs
     clear hat hI hbel hby k34 k92 h34 h92
     go_wp2_with (fail)
     refine (rScalar_any (unhide HQ) _).mono ?_
     rintro e w2 ⟨rfl, hb2⟩
     have HB2 := hide ((unhide HB).trans (hb2.mono (unhide HB).size))
     have c02 : w2.cell? ⟨R, 0, none⟩ = some (.string t) := (hb2.cell (p := ⟨R, 0, none⟩) hRr).trans c0
     clear hb2
     rcases unhide HSC with ⟨hs, hc⟩ | ⟨v, n, hs, hn1, hn2, henc, hc⟩
     ·have HO := hide ((unhide HI).none (unhide K34) hc)
      rw [hs]
      clear hs hc
      go_wp2_with (fail)
      go_ret2
      exact ⟨Or.inr ⟨unhide HO, rfl⟩, unhide HB2⟩
     ·have hn0 : ((n : Int) == 0) = false := by simp; omega
      by_cases h32 : v < 32
      ·have f32 : decide ((v : Int) < 32) = true := decide_eq_true (by omega)
       have HO := hide ((unhide HI).none (unhide K34) (by rw [hc, if_pos h32]))
       rw [hs]
       clear hs hc henc h32 hn1 hn2
       go_wp2_with (fail)
       go_ret2
       exact ⟨Or.inr ⟨unhide HO, rfl⟩, unhide HB2⟩
      ·have f32 : decide ((v : Int) < 32) = false := decide_eq_false (by omega)
       have hc2 : Sp.chr (d :: l') = some (v, (d :: l').drop n) := by rw [hc, if_neg h32]
       have hn4 : n ≤ 4 := by
        have h1 := congrArg List.length henc
        rw [List.length_take, Nat.min_eq_left hn2] at h1
        have : (Sp.encN v).length ≤ 4 := enc_len (v : Int)
        omega
       have hat := unhide HQ
       have hl1 := hat.len
       obtain ⟨qn, hqn⟩ : ∃ qn, qn = q + n := ⟨_, rfl⟩
       have hqi : (q : Int) + (n : Int) = (qn : Int) := by omega
       have hle1 : q ≤ qn := by omega
       have hle2 : qn ≤ t.size := by omega
       have hex : (t.extract q qn).data.toList = Sp.encN v := by
        rw [henc, ← hat.eq, hqn]
        simp [List.take_drop]
       have hsl : (t.extract q qn).size ≤ 4 := by rw [Lib.size_eq, hex]; exact enc_len _
       have hI2 := (unhide HI).some (s := t.extract q qn) (unhide K34) hc2 hex
       have HI2 := hide hI2
       have hbd : ((d :: l').drop n).length + n = (d :: l').length := by rw [List.length_drop]; omega
       have HB3 := hide (show A.size + (t.extract q qn).size + 4 * ((d :: l').drop n).length ≤ 8000 by have := unhide HAS; omega)
       have hAz : A.size ≤ 8000 := by have := unhide HAS; omega
       have HAT2 := hide (show At t qn ((d :: l').drop n) by rw [hqn]; exact hat.add n hn2)
       have HM := hide (show t.size - qn < t.size - q by omega)
       have HN := hide hn1
       rw [hs]
       clear hs hc hc2 henc h32 hn1 hn2 hat hl1 hqn hex hI2 hbd
       go_wp2_with (fail)
       exact ⟨⟨qn, (d :: l').drop n, A ++ t.extract q qn, rfl, rfl, unhide HAT2, unhide HI2, by rw [size_app]; exact unhide HB3, by omega, unhide HB2⟩, by simp only [intOf]; exact unhide HM⟩
end Go.Proofs.YtdpomdelmdofmaaGreatDoor
