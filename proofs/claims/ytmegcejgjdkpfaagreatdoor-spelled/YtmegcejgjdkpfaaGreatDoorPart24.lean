/-
  Walk of the statement's own strings in two spellings.
  Walk of the statement's own arrays in two spellings, from that of the values in them.
  Walk of the statement's own objects in two spellings, from that of the values in them.
-/
import Derived.Test.YtmegcejgjdkpfaaGreatDoorPart23
namespace Go.Proofs.YtmegcejgjdkpfaaGreatDoor
open Go.RowKit

def plCells : Array Value := #[.string ⟨#[97]⟩, .string ⟨#[195, 169]⟩, .string ⟨#[240, 159, 152, 128]⟩, .string ⟨#[92, 34]⟩, .string ⟨#[92, 110]⟩, .string ⟨#[47]⟩, .string ⟨#[92, 92]⟩, .string ⟨#[226, 130, 172]⟩]
def otCells : Array Value := #[.string ⟨#[92, 117, 48, 48, 54, 49]⟩, .string ⟨#[92, 117, 48, 48, 69, 57]⟩, .string ⟨#[92, 117, 100, 56, 51, 68, 92, 117, 68, 101, 48, 48]⟩, .string ⟨#[92, 117, 48, 48, 50, 50]⟩, .string ⟨#[92, 117, 48, 48, 48, 65]⟩, .string ⟨#[92, 47]⟩, .string ⟨#[92, 117, 48, 48, 53, 99]⟩, .string ⟨#[92, 117, 50, 48, 97, 67]⟩]
theorem pl_len {k : Nat} (hk : k < 8) : (Sp.plain.getD k []).length ≤ 12 := by
  have h : ∀ j : Fin 8, (Sp.plain.getD j.val []).length ≤ 12 := by decide
  exact h ⟨k, hk⟩
theorem ot_len {k : Nat} (hk : k < 8) : (Sp.other.getD k []).length ≤ 12 := by
  have h : ∀ j : Fin 8, (Sp.other.getD j.val []).length ≤ 12 := by decide
  exact h ⟨k, hk⟩
/-- an opened string, its characters spelled -/
def Op (A : ByteArray) (cs : List Nat) (n : Nat) : Prop := ∃ A', A.data.toList = 34 :: A' ∧ Sp.Chs A' cs ∧ A.size ≤ 1 + 12 * n
theorem Op.nil : Op ⟨#[34]⟩ [] 0 := ⟨[], rfl, Sp.Chs.nil, by decide⟩
theorem Op.next {A p : ByteArray} {cs : List Nat} {n c : Nat} (h : Op A cs n) (hp : Sp.Ch p.data.toList c) (hl : p.size ≤ 12) : Op (A ++ p) (cs ++ [c]) (n + 1) := by
  obtain ⟨A', h1, h2, h3⟩ := h
  exact ⟨A' ++ p.data.toList, by simp [h1], h2.snoc hp, by simp; omega⟩
theorem Op.two {A B : ByteArray} {cs : List Nat} {n : Nat} (h : Op A cs n) (k : Op B cs n) (hn : n ≤ 3) : Sp.Two 0 (A ++ ⟨#[34]⟩ : ByteArray).data.toList (B ++ ⟨#[34]⟩ : ByteArray).data.toList ∧ (A ++ ⟨#[34]⟩ : ByteArray).size ≤ 50 ∧ (B ++ ⟨#[34]⟩ : ByteArray).size ≤ 50 := by
  obtain ⟨A', h1, h2, h3⟩ := h
  obtain ⟨B', k1, k2, k3⟩ := k
  have s1 : (⟨#[34]⟩ : ByteArray).size = 1 := rfl
  have e : ∀ {X : ByteArray} {X' : Sp.By}, X.data.toList = 34 :: X' → (X ++ ⟨#[34]⟩ : ByteArray).data.toList = 34 :: (X' ++ [34]) := by
    intro X X' hX
    simp [hX]
  refine ⟨⟨_, by rw [e h1]; exact rdV_str h2, by rw [e k1]; exact rdV_str k2⟩, ?_, ?_⟩
  · rw [ByteArray.size_append, s1]; omega
  · rw [ByteArray.size_append, s1]; omega

set_option maxHeartbeats 8000000 in
theorem ktext_any {w : World} {R : Nat} {pa : Option Addr} {m cap : Nat} (h : FD w R pa m cap) :
    Calls Tryz.prog 25 #[.pointer (some ⟨R, 0, none⟩)] w fun x w' => (∃ a b : ByteArray, Sp.Two 0 a.data.toList b.data.toList ∧ a.size ≤ 50 ∧ b.size ≤ 50 ∧ x = .returned (.tuple #[.string a, .string b])) ∧ FK R pa m cap w w' := by
  have hb1 : Below w.heap.size w (w.alloc (.cells plCells 9)) := (Below.refl _ _).alloc (Nat.le_refl _) _
  have hb2 : Below w.heap.size w ((w.alloc (.cells plCells 9)).alloc (.cells otCells 9)) := hb1.alloc hb1.size _
  have hlt := h.lt
  have hg1 : Tx ((w.alloc (.cells plCells 9)).alloc (.cells otCells 9)) w.heap.size Sp.plain := by
    have := Tx.new w Sp.plain (cs := plCells) (by rfl)
    exact this.kept (R := R) ((KeptX.refl R _).alloc _) (by omega)
  have hg2 : Tx ((w.alloc (.cells plCells 9)).alloc (.cells otCells 9)) (w.heap.size + 1) Sp.other := by
    have := Tx.new (w.alloc (.cells plCells 9)) Sp.other (cs := otCells) (by rfl)
    simpa using this
  have HFK := hide (show FK R pa m cap w ((w.alloc (.cells plCells 9)).alloc (.cells otCells 9)) from ⟨h.low hb2, KeptX.of_below hb2⟩)
  have HG1 := hide hg1
  have HG2 := hide hg2
  clear h hb1 hb2 hg1 hg2
  go_enter Tryz.func25, Tryz.ntmps25
  go_wp2_with (fail)
  refine (next_any (unhide HFK).1 4 (by omega) (by omega)).mono ?_
  rintro x w2 ⟨⟨k0, hk0, rfl⟩, hfk⟩
  have HG3 := hide ((unhide HG1).kept hfk.2 (by omega))
  have HG4 := hide ((unhide HG2).kept hfk.2 (by omega))
  have HFK2 := hide ((unhide HFK).trans hfk)
  clear hfk HG1 HG2 HFK
  go_wp2_with (fail)
  go_loopw [6, 7, 8] (fun a b n wr => ∃ (j : Nat) (A B : ByteArray) (cs : List Nat), j ≤ k0 ∧ n = .int .i64 j ∧ a = .string A ∧ b = .string B ∧ Op A cs (k0 - j) ∧ Op B cs (k0 - j) ∧ FK R pa m cap w wr ∧ Tx wr w.heap.size Sp.plain ∧ Tx wr (w.heap.size + 1) Sp.other) (fun _ _ n _ => (intOf n).toNat)
  case atStart => exact ⟨k0, _, _, [], Nat.le_refl _, rfl, rfl, rfl, by rw [Nat.sub_self]; exact Op.nil, by rw [Nat.sub_self]; exact Op.nil, unhide HFK2, unhide HG3, unhide HG4⟩
  case round =>
    obtain ⟨j, A, B, cs, hj, rfl, rfl, rfl, hA, hB, hfk, hg1, hg2⟩ := hrel
    have HA := hide hA
    have HB := hide hB
    have HF := hide hfk
    have HG5 := hide hg1
    have HG6 := hide hg2
    have hAs : A.size ≤ 37 := by obtain ⟨_, _, _, hs⟩ := hA; omega
    have hBs : B.size ≤ 37 := by obtain ⟨_, _, _, hs⟩ := hB; omega
    clear hA hB hfk hg1 hg2 HG3 HG4 HFK2
    by_cases h0 : 0 < j
    · go_wp2_with (fail)
      refine (next_any (unhide HF).1 8 (by omega) (by omega)).mono ?_
      rintro x w5 ⟨⟨k, hk, rfl⟩, hf5⟩
      have hg5 := (unhide HG5).kept hf5.2 (by omega)
      obtain ⟨p, cp, ep⟩ := hg5.at k (by exact hk)
      have hps : p.size ≤ 12 := by rw [Lib.size_eq, ep]; exact pl_len hk
      have HEP := hide ep
      have HG7 := hide hg5
      have HG8 := hide ((unhide HG6).kept hf5.2 (by omega))
      have HF5 := hide ((unhide HF).trans hf5)
      clear ep hg5 hf5 HG5 HG6 HF
      go_wp2_with (fail)
      refine (next_any (unhide HF5).1 2 (by omega) (by omega)).mono ?_
      rintro x w6 ⟨⟨t, ht, rfl⟩, hf6⟩
      have hg7 := (unhide HG7).kept hf6.2 (by omega)
      have hg8 := (unhide HG8).kept hf6.2 (by omega)
      obtain ⟨p2, cp2, ep2⟩ := hg7.at k (by exact hk)
      obtain ⟨o, co, eo⟩ := hg8.at k (by exact hk)
      have hp2s : p2.size ≤ 12 := by rw [Lib.size_eq, ep2]; exact pl_len hk
      have hos : o.size ≤ 12 := by rw [Lib.size_eq, eo]; exact ot_len hk
      have HEP2 := hide ep2
      have HEO := hide eo
      have HG9 := hide hg7
      have HG10 := hide hg8
      have HF6 := hide ((unhide HF5).trans hf6)
      clear ep2 eo hg7 hg8 hf6 HG7 HG8 HF5
      by_cases ht0 : t = 0
      · subst ht0
        go_wp2_with (fail)
        exact ⟨⟨j - 1, _, _, cs ++ [Sp.chrC.getD k 0], by omega, by rw [show ((j : Int) - 1) = ((j - 1 : Nat) : Int) by omega], rfl, rfl, by
          rw [show k0 - (j - 1) = k0 - j + 1 by omega]
          exact (unhide HA).next (by rw [unhide HEP]; exact ch_plain k hk) hps, by
          rw [show k0 - (j - 1) = k0 - j + 1 by omega]
          exact (unhide HB).next (by rw [unhide HEP2]; exact ch_plain k hk) hp2s, unhide HF6, unhide HG9, unhide HG10⟩, by simp only [intOf]; omega⟩
      · have ht1 : ((t : Int) == 0) = false := by simp; omega
        clear ht0
        go_wp2_with (fail)
        exact ⟨⟨j - 1, _, _, cs ++ [Sp.chrC.getD k 0], by omega, by rw [show ((j : Int) - 1) = ((j - 1 : Nat) : Int) by omega], rfl, rfl, by
          rw [show k0 - (j - 1) = k0 - j + 1 by omega]
          exact (unhide HA).next (by rw [unhide HEP]; exact ch_plain k hk) hps, by
          rw [show k0 - (j - 1) = k0 - j + 1 by omega]
          exact (unhide HB).next (by rw [unhide HEO]; exact ch_other k hk) hos, unhide HF6, unhide HG9, unhide HG10⟩, by simp only [intOf]; omega⟩
    · obtain rfl : j = 0 := by omega
      go_wp2_with (fail)
      go_ret2
      obtain ⟨t1, t2, t3⟩ := (unhide HA).two (unhide HB) (by omega)
      exact ⟨⟨_, _, t1, t2, t3, rfl⟩, unhide HF⟩

end Go.Proofs.YtmegcejgjdkpfaaGreatDoor

namespace Go.Proofs.YtmegcejgjdkpfaaGreatDoor
open Go.RowKit

/-- how long a spelling is at most -/
def bnd : Nat → Nat
  | 0 => 50
  | k + 1 => 3 * bnd k + 100
theorem bnd_le : ∀ k : Nat, k ≤ 3 → bnd k ≤ 3000
  | 0, _ => by decide
  | 1, _ => by decide
  | 2, _ => by decide
  | 3, _ => by decide
theorem bnd_ge (k : Nat) : 50 ≤ bnd k := by
  induction k with
  | zero => exact Nat.le_refl _
  | succ k ih => unfold bnd; omega
/-- two spellings are told -/
def TwoEnd (k : Nat) (x : Ending) : Prop := ∃ a b : ByteArray, Sp.Two k a.data.toList b.data.toList ∧ a.size ≤ bnd k ∧ b.size ≤ bnd k ∧ x = .returned (.tuple #[.string a, .string b])
/-- the contract of value, so deep -/
def ValT (k : Nat) : Prop := ∀ (w : World) (R : Nat) (pa : Option Addr) (m cap : Nat), FD w R pa m cap → Calls Tryz.prog 16 #[.pointer (some ⟨R, 0, none⟩), .int .i64 (k : Nat)] w fun x w' => TwoEnd k x ∧ FK R pa m cap w w'

/-- what stands so far: with a comma behind, if more come -/
def sofar (j : Nat) (xs : List Sp.By) : Sp.By := if j = 0 then Sp.joinC xs else Sp.pre xs
theorem sofar_last (xs : List Sp.By) (t : Sp.By) : sofar 0 (xs ++ [t]) = sofar 1 xs ++ t := by
  unfold sofar
  rw [if_pos rfl, if_neg (by omega), joinC_pre]
theorem sofar_next (j : Nat) (hj : 1 < j) (xs : List Sp.By) (t : Sp.By) : sofar (j - 1) (xs ++ [t]) = sofar j xs ++ (t ++ [44]) := by
  unfold sofar
  rw [if_neg (by omega), if_neg (by omega), pre_snoc]
theorem sofar_nil (j : Nat) : sofar j [] = [] := by
  unfold sofar
  split <;> rfl
theorem sofar_one {j : Nat} (hj : 0 < j) (xs : List Sp.By) : sofar j xs = sofar 1 xs := by
  unfold sofar
  rw [if_neg (by omega), if_neg (by omega)]

/-- an array's two texts, so many elements in, j to come -/
structure ArI (k : Nat) (es : List Sp.El) (j : Nat) (A B : ByteArray) : Prop where
  ok : ∀ e ∈ es, e.ok k
  a : A.data.toList = 91 :: sofar j (es.map Sp.El.x)
  b : B.data.toList = 91 :: sofar j (es.map Sp.El.b)
  sa : A.size ≤ 1 + es.length * (bnd k + 6)
  sb : B.size ≤ 1 + es.length * (bnd k + 6)
theorem ArI.nil (k j : Nat) : ArI k [] j ⟨#[91]⟩ ⟨#[91]⟩ := ⟨by simp, by rw [List.map_nil, sofar_nil], by rw [List.map_nil, sofar_nil], by show 1 ≤ 1 + _; omega, by show 1 ≤ 1 + _; omega⟩
theorem size_app (a b : ByteArray) : (a ++ b).size = a.size + b.size := ByteArray.size_append
theorem ArI.last {k : Nat} {es : List Sp.El} {A B x y p q : ByteArray} (h : ArI k es 1 A B) {v : Sp.V} (hx : Sp.RdV k x.data.toList v) (hy : Sp.RdV k y.data.toList v) (sx : x.size ≤ bnd k) (sy : y.size ≤ bnd k) (hp : Sp.Bl p.data.toList) (hq : Sp.Bl q.data.toList) (sp : p.size ≤ 2) (sq : q.size ≤ 2) :
    ArI k (es ++ [⟨x.data.toList, p.data.toList, y.data.toList, q.data.toList, v⟩]) 0 (A ++ x) (B ++ p ++ y ++ q) := by
  refine ⟨fun e he => ?_, ?_, ?_, ?_, ?_⟩
  · rcases List.mem_append.1 he with he | he
    · exact h.ok e he
    · rw [List.mem_singleton] at he; subst he; exact ⟨hx, hy, hp, hq⟩
  · rw [List.map_append, List.map_singleton, sofar_last]
    simp [h.a]
  · rw [List.map_append, List.map_singleton, sofar_last]
    simp [h.b, Sp.El.b]
  · have := h.sa
    rw [size_app, List.length_append, List.length_singleton, Nat.add_mul]; omega
  · have := h.sb
    rw [size_app, size_app, size_app, List.length_append, List.length_singleton, Nat.add_mul]; omega
theorem ArI.next {k j : Nat} (hj : 1 < j) {es : List Sp.El} {A B x y p q : ByteArray} (h : ArI k es j A B) {v : Sp.V} (hx : Sp.RdV k x.data.toList v) (hy : Sp.RdV k y.data.toList v) (sx : x.size ≤ bnd k) (sy : y.size ≤ bnd k) (hp : Sp.Bl p.data.toList) (hq : Sp.Bl q.data.toList) (sp : p.size ≤ 2) (sq : q.size ≤ 2) :
    ArI k (es ++ [⟨x.data.toList, p.data.toList, y.data.toList, q.data.toList, v⟩]) (j - 1) (A ++ x ++ ⟨#[44]⟩) (B ++ p ++ y ++ q ++ ⟨#[44]⟩) := by
  have s1 : (⟨#[44]⟩ : ByteArray).size = 1 := rfl
  refine ⟨fun e he => ?_, ?_, ?_, ?_, ?_⟩
  · rcases List.mem_append.1 he with he | he
    · exact h.ok e he
    · rw [List.mem_singleton] at he; subst he; exact ⟨hx, hy, hp, hq⟩
  · rw [List.map_append, List.map_singleton, sofar_next j hj]
    simp [h.a]
  · rw [List.map_append, List.map_singleton, sofar_next j hj]
    simp [h.b, Sp.El.b]
  · have := h.sa
    rw [size_app, size_app, s1, List.length_append, List.length_singleton, Nat.add_mul]; omega
  · have := h.sb
    rw [size_app, size_app, size_app, size_app, s1, List.length_append, List.length_singleton, Nat.add_mul]; omega
theorem ArI.fin {k : Nat} {es : List Sp.El} {A B z : ByteArray} (h : ArI k es 0 A B) (hl : es.length ≤ 3) (hz : Sp.Bl z.data.toList) (sz : z.size ≤ 2) : TwoEnd (k + 1) (.returned (.tuple #[.string (A ++ ⟨#[93]⟩), .string (B ++ z ++ ⟨#[93]⟩)])) := by
  have s1 : (⟨#[93]⟩ : ByteArray).size = 1 := rfl
  have hb : es.length * (bnd k + 6) ≤ 3 * (bnd k + 6) := Nat.mul_le_mul_right _ hl
  refine ⟨_, _, ?_, ?_, ?_, rfl⟩
  · have e1 : (A ++ ⟨#[93]⟩ : ByteArray).data.toList = 91 :: (Sp.joinC (es.map Sp.El.x) ++ [93]) := by simp [h.a, sofar]
    have e2 : (B ++ z ++ ⟨#[93]⟩ : ByteArray).data.toList = 91 :: (Sp.joinC (es.map Sp.El.b) ++ (z.data.toList ++ [93])) := by simp [h.b, sofar]
    rw [e1, e2]
    exact two_arr h.ok hz
  · have := h.sa
    rw [size_app, s1]; simp only [bnd]; omega
  · have := h.sb
    rw [size_app, size_app, s1]; simp only [bnd]; omega

set_option maxHeartbeats 8000000 in
theorem karray_any {k : Nat} (hk : k < 3) (hV : ValT k) {w : World} {R : Nat} {pa : Option Addr} {m cap : Nat} (h : FD w R pa m cap) :
    Calls Tryz.prog 26 #[.pointer (some ⟨R, 0, none⟩), .int .i64 ((k : Int) + 1)] w fun x w' => TwoEnd (k + 1) x ∧ FK R pa m cap w w' := by
  have H := hide h
  have HV := hide hV
  have hbk := bnd_le k (by omega)
  clear h hV
  go_enter Tryz.func26, Tryz.ntmps26
  go_wp2_with (fail)
  refine (next_any (unhide H) 4 (by omega) (by omega)).mono ?_
  rintro x w2 ⟨⟨k0, hk0, rfl⟩, hfk⟩
  have HFK := hide hfk
  clear hfk H
  go_wp2_with (fail)
  go_loopw [6, 7, 8] (fun a b n wr => ∃ (j : Nat) (A B : ByteArray) (es : List Sp.El), es.length + j = k0 ∧ n = .int .i64 j ∧ a = .string A ∧ b = .string B ∧ ArI k es j A B ∧ FK R pa m cap w wr) (fun _ _ n _ => (intOf n).toNat)
  case atStart => exact ⟨k0, _, _, [], by simp, rfl, rfl, rfl, ArI.nil k k0, unhide HFK⟩
  case round =>
    obtain ⟨j, A, B, es, hj, rfl, rfl, rfl, hI, hfk⟩ := hrel
    have HI := hide hI
    have HF := hide hfk
    have HJ := hide hj
    have hlen : es.length * (bnd k + 6) ≤ 3 * (bnd k + 6) := Nat.mul_le_mul_right _ (by omega)
    have hAs : A.size ≤ 20000 := by have := hI.sa; omega
    have hBs : B.size ≤ 20000 := by have := hI.sb; omega
    have hjk : j ≤ k0 := by omega
    clear hI hfk hlen HFK hj
    by_cases h0 : 0 < j
    · go_wp2_with (fail)
      refine (unhide HV _ _ _ _ _ (unhide HF).1).mono ?_
      rintro x w5 ⟨⟨x, y, ⟨v, hvx, hvy⟩, sx, sy, rfl⟩, hf5⟩
      have HVX := hide hvx
      have HVY := hide hvy
      have HF5 := hide ((unhide HF).trans hf5)
      have HSX := hide sx
      have HSY := hide sy
      have hsx : x.size ≤ 3000 := by omega
      have hsy : y.size ≤ 3000 := by omega
      clear hvx hvy hf5 HF sx sy
      go_wp2_with (fail)
      refine (blank_any (unhide HF5).1).mono ?_
      rintro r w6 ⟨⟨p, hp, sp, rfl⟩, hf6⟩
      have HP := hide hp
      have HF6 := hide ((unhide HF5).trans hf6)
      clear hp hf6 HF5
      go_wp2_with (fail)
      refine (blank_any (unhide HF6).1).mono ?_
      rintro r w7 ⟨⟨q, hq, sq, rfl⟩, hf7⟩
      have HQ := hide hq
      have HF7 := hide ((unhide HF6).trans hf7)
      clear hq hf7 HF6
      by_cases h1 : 1 < j
      · go_wp2_with (fail)
        exact ⟨⟨j - 1, _, _, _, by have := unhide HJ; simp; omega, by rw [show ((j : Int) - 1) = ((j - 1 : Nat) : Int) by omega], rfl, rfl, (unhide HI).next h1 (unhide HVX) (unhide HVY) (unhide HSX) (unhide HSY) (unhide HP) (unhide HQ) sp sq, unhide HF7⟩, by simp only [intOf]; omega⟩
      · obtain rfl : j = 1 := by omega
        go_wp2_with (fail)
        exact ⟨⟨0, _, _, _, by have := unhide HJ; simp; omega, rfl, rfl, rfl, (unhide HI).last (unhide HVX) (unhide HVY) (unhide HSX) (unhide HSY) (unhide HP) (unhide HQ) sp sq, unhide HF7⟩, by simp only [intOf]; omega⟩
    · obtain rfl : j = 0 := by omega
      go_wp2_with (fail)
      refine (blank_any (unhide HF).1).mono ?_
      rintro r w6 ⟨⟨z, hz, sz, rfl⟩, hf6⟩
      have HZ := hide hz
      have HF6 := hide ((unhide HF).trans hf6)
      clear hz hf6 HF
      go_wp2_with (fail)
      go_ret2
      exact ⟨(unhide HI).fin (by have := unhide HJ; omega) (unhide HZ) sz, unhide HF6⟩

end Go.Proofs.YtmegcejgjdkpfaaGreatDoor

namespace Go.Proofs.YtmegcejgjdkpfaaGreatDoor
open Go.RowKit

theorem kA_len {j : Nat} (hj : j < 4) : (Sp.kA.getD j []).length ≤ 14 := by
  have h : ∀ j : Fin 4, (Sp.kA.getD j.val []).length ≤ 14 := by decide
  exact h ⟨j, hj⟩
theorem kB_len {j : Nat} (hj : j < 4) : (Sp.kB.getD j []).length ≤ 14 := by
  have h : ∀ j : Fin 4, (Sp.kB.getD j.val []).length ≤ 14 := by decide
  exact h ⟨j, hj⟩
theorem joinC_one (t : Sp.By) : Sp.joinC [t] = t := by simp [Sp.joinC, Sp.joinR]
theorem joinC_snoc {xs : List Sp.By} (h : xs ≠ []) (t : Sp.By) : Sp.joinC (xs ++ [t]) = Sp.joinC xs ++ 44 :: t := by
  cases xs with
  | nil => exact absurd rfl h
  | cons y r => simp [Sp.joinC, Sp.joinR_snoc]
theorem joinC_cons {xs : List Sp.By} (h : xs ≠ []) (t : Sp.By) : Sp.joinC (t :: xs) = t ++ 44 :: Sp.joinC xs := by
  cases xs with
  | nil => exact absurd rfl h
  | cons y r => simp [Sp.joinC, Sp.joinR]

/-- an object's two texts, so many members in, j to come of n -/
structure ObI (k n : Nat) (ms : List Sp.Om) (j : Nat) (A B : ByteArray) : Prop where
  ok : ∀ m ∈ ms, m.ok k
  ix : ms.map Sp.Om.i ++ Sp.idxs j = Sp.idxs n
  a : A.data.toList = Sp.joinC (ms.map Sp.Om.at)
  b : B.data.toList = Sp.joinC (ms.reverse.map Sp.Om.bt)
  sa : A.size ≤ ms.length * (bnd k + 30)
  sb : B.size ≤ ms.length * (bnd k + 30)
theorem ObI.nil (k n : Nat) : ObI k n [] n ⟨#[]⟩ ⟨#[]⟩ := ⟨by simp, by simp, rfl, rfl, by show 0 ≤ _; omega, by show 0 ≤ _; omega⟩
theorem ObI.len {k n j : Nat} {ms : List Sp.Om} {A B : ByteArray} (h : ObI k n ms j A B) : ms.length + j = n := by
  have hl : ∀ n, (Sp.idxs n).length = n := by
    intro n
    induction n with
    | zero => rfl
    | succ n ih => simp [Sp.idxs, ih]
  have := congrArg List.length h.ix
  rw [List.length_append, List.length_map, hl, hl] at this
  exact this
theorem ObI.empty {k n j : Nat} {A B : ByteArray} (h : ObI k n [] j A B) : A = ⟨#[]⟩ ∧ B = ⟨#[]⟩ := by
  have e : ∀ X : ByteArray, X.data.toList = [] → X = ⟨#[]⟩ := by
    intro X hX
    obtain ⟨⟨l⟩⟩ := X
    simp at hX
    rw [hX]
  exact ⟨e A h.a, e B h.b⟩
theorem ObI.full {k n j : Nat} {ms : List Sp.Om} (hne : ms ≠ []) {A B : ByteArray} (h : ObI k n ms j A B) : A.data.toList ≠ [] := by
  rw [h.a]
  cases ms with
  | nil => exact absurd rfl hne
  | cons m r => simp [Sp.joinC, Sp.Om.at]
/-- what one member adds -/
structure OneM (k j : Nat) (ka kb x y p p1 p2 q : ByteArray) (v : Sp.V) : Prop where
  hx : Sp.RdV k x.data.toList v
  hy : Sp.RdV k y.data.toList v
  sx : x.size ≤ bnd k
  sy : y.size ≤ bnd k
  ea : ka.data.toList = Sp.kA.getD j []
  eb : kb.data.toList = Sp.kB.getD j []
  hp : Sp.Bl p.data.toList
  hp1 : Sp.Bl p1.data.toList
  hp2 : Sp.Bl p2.data.toList
  hq : Sp.Bl q.data.toList
  sp : p.size ≤ 2
  sp1 : p1.size ≤ 2
  sp2 : p2.size ≤ 2
  sq : q.size ≤ 2
def omOf (j : Nat) (x y p p1 p2 q : ByteArray) (v : Sp.V) : Sp.Om := ⟨j, x.data.toList, y.data.toList, p.data.toList, p1.data.toList, p2.data.toList, q.data.toList, v⟩
theorem OneM.okm {k j : Nat} {ka kb x y p p1 p2 q : ByteArray} {v : Sp.V} (o : OneM k j ka kb x y p p1 p2 q v) : (omOf j x y p p1 p2 q v).ok k := ⟨o.hx, o.hy, o.hp, o.hp1, o.hp2, o.hq⟩
theorem OneM.at {k j : Nat} {ka kb x y p p1 p2 q : ByteArray} {v : Sp.V} (o : OneM k j ka kb x y p p1 p2 q v) : (omOf j x y p p1 p2 q v).at = (ka ++ ⟨#[58]⟩ ++ x : ByteArray).data.toList := by
  simp [Sp.Om.at, omOf, o.ea]
theorem OneM.bt {k j : Nat} {ka kb x y p p1 p2 q : ByteArray} {v : Sp.V} (o : OneM k j ka kb x y p p1 p2 q v) : (omOf j x y p p1 p2 q v).bt = (p ++ kb ++ p1 ++ ⟨#[58]⟩ ++ p2 ++ y ++ q : ByteArray).data.toList := by
  simp [Sp.Om.bt, omOf, o.eb]
theorem OneM.szA {k j : Nat} (hj : j < 4) {ka kb x y p p1 p2 q : ByteArray} {v : Sp.V} (o : OneM k j ka kb x y p p1 p2 q v) : ka.size ≤ 14 := by rw [Lib.size_eq, o.ea]; exact kA_len hj
theorem OneM.szB {k j : Nat} (hj : j < 4) {ka kb x y p p1 p2 q : ByteArray} {v : Sp.V} (o : OneM k j ka kb x y p p1 p2 q v) : kb.size ≤ 14 := by rw [Lib.size_eq, o.eb]; exact kB_len hj
theorem idx_snoc {l : List Nat} {n j : Nat} (hj : 0 < j) (h : l ++ Sp.idxs j = Sp.idxs n) : (l ++ [j]) ++ Sp.idxs (j - 1) = Sp.idxs n := by
  obtain ⟨i, rfl⟩ : ∃ i, j = i + 1 := ⟨j - 1, by omega⟩
  rw [← h]; simp [Sp.idxs]
theorem ObI.first {k n j : Nat} (hj : 0 < j) (hj4 : j < 4) {ka kb x y p p1 p2 q : ByteArray} {v : Sp.V} (h : ObI k n [] j ⟨#[]⟩ ⟨#[]⟩) (o : OneM k j ka kb x y p p1 p2 q v) :
    ObI k n [omOf j x y p p1 p2 q v] (j - 1) (⟨#[]⟩ ++ ka ++ ⟨#[58]⟩ ++ x) (p ++ kb ++ p1 ++ ⟨#[58]⟩ ++ p2 ++ y ++ q ++ ⟨#[]⟩) := by
  have s1 : (⟨#[58]⟩ : ByteArray).size = 1 := rfl
  have s0 : (⟨#[]⟩ : ByteArray).size = 0 := rfl
  have ha := o.szA hj4
  have hb := o.szB hj4
  have := o.sx; have := o.sy; have := o.sp; have := o.sp1; have := o.sp2; have := o.sq
  refine ⟨fun m hm => ?_, ?_, ?_, ?_, ?_, ?_⟩
  · rw [List.mem_singleton] at hm; subst hm; exact o.okm
  · exact idx_snoc hj h.ix
  · rw [List.map_singleton, joinC_one, o.at]; simp
  · rw [List.reverse_singleton, List.map_singleton, joinC_one, o.bt]; simp
  · simp only [size_app, s1, s0, List.length_singleton]; omega
  · simp only [size_app, s1, s0, List.length_singleton]; omega
theorem ObI.next {k n j : Nat} (hj : 0 < j) (hj4 : j < 4) {ms : List Sp.Om} (hne : ms ≠ []) {A B ka kb x y p p1 p2 q : ByteArray} {v : Sp.V} (h : ObI k n ms j A B) (o : OneM k j ka kb x y p p1 p2 q v) :
    ObI k n (ms ++ [omOf j x y p p1 p2 q v]) (j - 1) (A ++ ⟨#[44]⟩ ++ ka ++ ⟨#[58]⟩ ++ x) (p ++ kb ++ p1 ++ ⟨#[58]⟩ ++ p2 ++ y ++ q ++ (⟨#[44]⟩ ++ B)) := by
  have s1 : (⟨#[58]⟩ : ByteArray).size = 1 := rfl
  have s0 : (⟨#[44]⟩ : ByteArray).size = 1 := rfl
  have ha := o.szA hj4
  have hb := o.szB hj4
  have := o.sx; have := o.sy; have := o.sp; have := o.sp1; have := o.sp2; have := o.sq; have := h.sa; have := h.sb
  refine ⟨fun m hm => ?_, ?_, ?_, ?_, ?_, ?_⟩
  · rcases List.mem_append.1 hm with hm | hm
    · exact h.ok m hm
    · rw [List.mem_singleton] at hm; subst hm; exact o.okm
  · rw [List.map_append]; exact idx_snoc hj h.ix
  · rw [List.map_append, List.map_singleton, joinC_snoc (by simpa using hne), o.at]; simp [h.a]
  · rw [List.reverse_append, List.reverse_singleton, List.singleton_append, List.map_cons, joinC_cons (by simpa using hne), o.bt]; simp [h.b]
  · simp only [size_app, s1, s0, List.length_append, List.length_singleton, Nat.add_mul]; omega
  · simp only [size_app, s1, s0, List.length_append, List.length_singleton, Nat.add_mul]; omega
theorem ObI.fin {k n : Nat} (hn : n ≤ 3) {ms : List Sp.Om} {A B : ByteArray} (h : ObI k n ms 0 A B) : TwoEnd (k + 1) (.returned (.tuple #[.string (⟨#[123]⟩ ++ A ++ ⟨#[125]⟩), .string (⟨#[123]⟩ ++ B ++ ⟨#[125]⟩)])) := by
  have s1 : (⟨#[123]⟩ : ByteArray).size = 1 := rfl
  have s2 : (⟨#[125]⟩ : ByteArray).size = 1 := rfl
  have hlen := h.len
  have hb : ms.length * (bnd k + 30) ≤ 3 * (bnd k + 30) := Nat.mul_le_mul_right _ (by omega)
  have := h.sa; have := h.sb
  refine ⟨_, _, ?_, ?_, ?_, rfl⟩
  · have e1 : (⟨#[123]⟩ ++ A ++ ⟨#[125]⟩ : ByteArray).data.toList = 123 :: (Sp.joinC (ms.map Sp.Om.at) ++ [125]) := by simp [h.a]
    have e2 : (⟨#[123]⟩ ++ B ++ ⟨#[125]⟩ : ByteArray).data.toList = 123 :: (Sp.joinC (ms.reverse.map Sp.Om.bt) ++ [125]) := by simp [h.b]
    rw [e1, e2]
    exact two_obj hn (by have := h.ix; simpa [Sp.idxs] using this) h.ok
  · simp only [size_app, s1, s2, bnd]; omega
  · simp only [size_app, s1, s2, bnd]; omega

set_option maxHeartbeats 8000000 in
theorem kobject_any {k : Nat} (hk : k < 3) (hV : ValT k) {w : World} {R : Nat} {pa : Option Addr} {m cap : Nat} (h : FD w R pa m cap) :
    Calls Tryz.prog 27 #[.pointer (some ⟨R, 0, none⟩), .int .i64 ((k : Int) + 1)] w fun x w' => TwoEnd (k + 1) x ∧ FK R pa m cap w w' := by
  have H := hide h
  have HV := hide hV
  have hbk := bnd_le k (by omega)
  have hRw := h.lt
  clear h hV
  go_enter Tryz.func27, Tryz.ntmps27
  go_wp2_with (fail)
  refine (next_any (unhide H) 4 (by omega) (by omega)).mono ?_
  rintro x w2 ⟨⟨k0, hk0, rfl⟩, hfk⟩
  have HFK := hide hfk
  clear hfk H
  go_wp2_with (fail)
  go_loopw [6, 7, 8] (fun a b n wr => ∃ (j : Nat) (A B : ByteArray) (ms : List Sp.Om), n = .int .i64 j ∧ a = .string A ∧ b = .string B ∧ ObI k k0 ms j A B ∧ FK R pa m cap w wr) (fun _ _ n _ => (intOf n).toNat)
  case atStart => exact ⟨k0, _, _, [], rfl, rfl, rfl, ObI.nil k k0, unhide HFK⟩
  case round =>
    obtain ⟨j, A, B, ms, rfl, rfl, rfl, hI, hfk⟩ := hrel
    have HI := hide hI
    have HF := hide hfk
    have HJ := hide hI.len
    have hlen : ms.length * (bnd k + 30) ≤ 3 * (bnd k + 30) := Nat.mul_le_mul_right _ (by have := hI.len; omega)
    have hAs : A.size ≤ 20000 := by have := hI.sa; omega
    have hBs : B.size ≤ 20000 := by have := hI.sb; omega
    have hj4 : j < 4 := by have := hI.len; omega
    have hRr := hfk.1.lt
    clear hI hlen HFK hfk
    by_cases h0 : 0 < j
    · have hb2 : Below wr.heap.size wr ((wr.alloc (.cells #[.string ⟨#[]⟩, .string ⟨#[34, 107, 34]⟩, .string ⟨#[34, 92, 117, 48, 48, 54, 98, 92, 117, 48, 48, 54, 66, 34]⟩, .string ⟨#[34, 126, 47, 34]⟩] 9)).alloc (.cells #[.string ⟨#[]⟩, .string ⟨#[34, 92, 117, 48, 48, 54, 98, 34]⟩, .string ⟨#[34, 107, 107, 34]⟩, .string ⟨#[34, 92, 117, 48, 48, 55, 101, 92, 47, 34]⟩] 9)) := ((Below.refl _ _).alloc (Nat.le_refl _) _).alloc (by simp) _
      have HF2 := hide ((unhide HF).low hb2)
      obtain ⟨ka, ca, ea⟩ := (Tx.new wr Sp.kA (cs := #[.string ⟨#[]⟩, .string ⟨#[34, 107, 34]⟩, .string ⟨#[34, 92, 117, 48, 48, 54, 98, 92, 117, 48, 48, 54, 66, 34]⟩, .string ⟨#[34, 126, 47, 34]⟩]) (by rfl)).at j (by exact hj4)
      obtain ⟨kb, cb, eb⟩ := (Tx.new (wr.alloc (.cells #[.string ⟨#[]⟩, .string ⟨#[34, 107, 34]⟩, .string ⟨#[34, 92, 117, 48, 48, 54, 98, 92, 117, 48, 48, 54, 66, 34]⟩, .string ⟨#[34, 126, 47, 34]⟩] 9)) Sp.kB (cs := #[.string ⟨#[]⟩, .string ⟨#[34, 92, 117, 48, 48, 54, 98, 34]⟩, .string ⟨#[34, 107, 107, 34]⟩, .string ⟨#[34, 92, 117, 48, 48, 55, 101, 92, 47, 34]⟩]) (by rfl)).at j (by exact hj4)
      rw [show (wr.alloc (.cells #[.string ⟨#[]⟩, .string ⟨#[34, 107, 34]⟩, .string ⟨#[34, 92, 117, 48, 48, 54, 98, 92, 117, 48, 48, 54, 66, 34]⟩, .string ⟨#[34, 126, 47, 34]⟩] 9)).heap.size = wr.heap.size + 1 by simp] at cb
      have hka : ka.size ≤ 14 := by rw [Lib.size_eq, ea]; exact kA_len hj4
      have hkb : kb.size ≤ 14 := by rw [Lib.size_eq, eb]; exact kB_len hj4
      have HEA := hide ea
      have HEB := hide eb
      clear hb2 ea eb HF
      go_wp2_with (fail)
      refine (unhide HV _ _ _ _ _ (unhide HF2).1).mono ?_
      rintro x w5 ⟨⟨x, y, ⟨v, hvx, hvy⟩, sx, sy, rfl⟩, hf5⟩
      have HVX := hide hvx
      have HVY := hide hvy
      have HF5 := hide ((unhide HF2).trans hf5)
      have HSX := hide sx
      have HSY := hide sy
      have hsx : x.size ≤ 3000 := by omega
      have hsy : y.size ≤ 3000 := by omega
      clear hvx hvy hf5 HF2 sx sy ca cb
      cases ms with
      | nil =>
        obtain ⟨rfl, rfl⟩ := (unhide HI).empty
        go_wp2_with (fail)
        refine (blank_any (unhide HF5).1).mono ?_
        rintro r w6 ⟨⟨p, hp, sp, rfl⟩, hf6⟩
        have HP := hide hp
        have HF6 := hide ((unhide HF5).trans hf6)
        clear hp hf6 HF5
        go_wp2_with (fail)
        refine (blank_any (unhide HF6).1).mono ?_
        rintro r w7 ⟨⟨p1, hp1, sp1, rfl⟩, hf7⟩
        have HP1 := hide hp1
        have HF7 := hide ((unhide HF6).trans hf7)
        clear hp1 hf7 HF6
        go_wp2_with (fail)
        refine (blank_any (unhide HF7).1).mono ?_
        rintro r w8 ⟨⟨p2, hp2, sp2, rfl⟩, hf8⟩
        have HP2 := hide hp2
        have HF8 := hide ((unhide HF7).trans hf8)
        clear hp2 hf8 HF7
        go_wp2_with (fail)
        refine (blank_any (unhide HF8).1).mono ?_
        rintro r w9 ⟨⟨q, hq, sq, rfl⟩, hf9⟩
        have HQ := hide hq
        have HF9 := hide ((unhide HF8).trans hf9)
        clear hq hf9 HF8
        go_wp2_with (fail)
        have o : OneM k j ka kb x y p p1 p2 q v := ⟨unhide HVX, unhide HVY, unhide HSX, unhide HSY, unhide HEA, unhide HEB, unhide HP, unhide HP1, unhide HP2, unhide HQ, sp, sp1, sp2, sq⟩
        exact ⟨⟨j - 1, _, _, _, by rw [show ((j : Int) - 1) = ((j - 1 : Nat) : Int) by omega], rfl, rfl, (unhide HI).first h0 hj4 o, unhide HF9⟩, by simp only [intOf]; omega⟩
      | cons m0 mr =>
        have hne : A.toList.isEmpty = false := by
          rw [ByteArray.toList_eq, List.isEmpty_eq_false_iff]
          exact (unhide HI).full (by simp)
        go_wp2_with (fail)
        refine (blank_any (unhide HF5).1).mono ?_
        rintro r w6 ⟨⟨p, hp, sp, rfl⟩, hf6⟩
        have HP := hide hp
        have HF6 := hide ((unhide HF5).trans hf6)
        clear hp hf6 HF5
        go_wp2_with (fail)
        refine (blank_any (unhide HF6).1).mono ?_
        rintro r w7 ⟨⟨p1, hp1, sp1, rfl⟩, hf7⟩
        have HP1 := hide hp1
        have HF7 := hide ((unhide HF6).trans hf7)
        clear hp1 hf7 HF6
        go_wp2_with (fail)
        refine (blank_any (unhide HF7).1).mono ?_
        rintro r w8 ⟨⟨p2, hp2, sp2, rfl⟩, hf8⟩
        have HP2 := hide hp2
        have HF8 := hide ((unhide HF7).trans hf8)
        clear hp2 hf8 HF7
        go_wp2_with (fail)
        refine (blank_any (unhide HF8).1).mono ?_
        rintro r w9 ⟨⟨q, hq, sq, rfl⟩, hf9⟩
        have HQ := hide hq
        have HF9 := hide ((unhide HF8).trans hf9)
        clear hq hf9 HF8
        go_wp2_with (fail)
        have o : OneM k j ka kb x y p p1 p2 q v := ⟨unhide HVX, unhide HVY, unhide HSX, unhide HSY, unhide HEA, unhide HEB, unhide HP, unhide HP1, unhide HP2, unhide HQ, sp, sp1, sp2, sq⟩
        exact ⟨⟨j - 1, _, _, _, by rw [show ((j : Int) - 1) = ((j - 1 : Nat) : Int) by omega], rfl, rfl, (unhide HI).next h0 hj4 (by simp) o, unhide HF9⟩, by simp only [intOf]; omega⟩
    · obtain rfl : j = 0 := by omega
      go_wp2_with (fail)
      go_ret2
      exact ⟨(unhide HI).fin (by omega), unhide HF⟩

end Go.Proofs.YtmegcejgjdkpfaaGreatDoor
