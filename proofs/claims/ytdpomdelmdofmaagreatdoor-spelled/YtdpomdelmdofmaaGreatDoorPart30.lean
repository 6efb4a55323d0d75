/-
  Walk of the statement's own numbers in two spellings.
  Walk of the statement's own strings in two spellings.
  Walk of the statement's own arrays in two spellings, from that of the values in them.
-/
import Derived.Test.YtdpomdelmdofmaaGreatDoorPart29
namespace Go.Proofs.YtdpomdelmdofmaaGreatDoor
open Go.RowKit

/-- texts in cells -/
def strCells (l : List Sp.By) : List Value := l.map fun s => Value.string ⟨s.toArray⟩
/-- block g holds the texts l -/
def Tx (w : World) (g : Nat) (l : List Sp.By) : Prop := ∃ cs : Array Value, w.heap[g]? = some (.cells cs 9 (0, 0)) ∧ cs.toList = strCells l
theorem Tx.at {w : World} {g : Nat} {l : List Sp.By} (h : Tx w g l) (k : Nat) (hk : k < l.length) : ∃ b : ByteArray, w.cell? ⟨g, k, none⟩ = some (.string b) ∧ b.data.toList = l.getD k [] := by
  obtain ⟨cs, h1, h2⟩ := h
  refine ⟨⟨(l.getD k []).toArray⟩, ?_, rfl⟩
  simp only [World.cell?, h1]
  have : cs[k]? = some (.string ⟨(l.getD k []).toArray⟩) := by
    rw [← Array.getElem?_toList, h2, strCells, List.getElem?_map, List.getElem?_eq_getElem hk]
    simp [List.getD, hk]
  rw [this]
  rfl
theorem Tx.kept {w w' : World} {g R : Nat} {l : List Sp.By} (h : Tx w g l) (hk : KeptX R w w') (hg : g ≠ R) : Tx w' g l := by
  obtain ⟨cs, h1, h2⟩ := h
  exact ⟨cs, (hk.block g (Array.getElem?_eq_some_iff.1 h1).1 hg).trans h1, h2⟩
theorem Tx.new (w : World) (l : List Sp.By) {cs : Array Value} (h : cs.toList = strCells l) : Tx (w.alloc (.cells cs 9)) w.heap.size l := ⟨cs, heap_new _ _ _ rfl, h⟩

theorem Tx.drew {w : World} {g : Nat} {l : List Sp.By} (h : Tx w g l) : Tx w.drew g l := h
theorem FD.drew {w : World} {R : Nat} {pa : Option Addr} {m cap : Nat} (h : FD w R pa m cap) : FD w.drew R pa m cap := h.low ⟨rfl, rfl, rfl, Nat.le_refl _, fun _ _ => rfl⟩

def numAll : List Sp.By := Sp.num7 ++ Sp.num0
def numCells : Array Value := #[.string ⟨#[55]⟩, .string ⟨#[55, 46, 48]⟩, .string ⟨#[55, 48, 101, 45, 49]⟩, .string ⟨#[48, 46, 55, 69, 49]⟩, .string ⟨#[55, 101, 48]⟩, .string ⟨#[55, 46, 48, 48, 101, 43, 48]⟩, .string ⟨#[55, 48, 48, 69, 45, 50]⟩, .string ⟨#[48, 46, 48, 48, 55, 101, 51]⟩,
  .string ⟨#[45, 48]⟩, .string ⟨#[48]⟩, .string ⟨#[48, 46, 48]⟩, .string ⟨#[48, 101, 57, 57]⟩, .string ⟨#[45, 48, 46, 48, 69, 45, 53]⟩]

theorem eight (k : Nat) (hk : k < 5) : ∃ j : Nat, (8 : Int) + (k : Int) = (j : Int) ∧ j < 13 ∧ Hid (j = 8 + k) ∧ IntKind.i64.wrap (j : Int) = (j : Int) := ⟨8 + k, by omega, by omega, rfl, by rw [IntKind.wrap_i64]; omega⟩

theorem num0_at {j k : Nat} (hk : k < 5) (hj : j = 8 + k) : numAll.getD j [] ∈ Sp.num0 := by
  subst hj
  match k, hk with
  | 0, _ => decide
  | 1, _ => decide
  | 2, _ => decide
  | 3, _ => decide
  | 4, _ => decide
theorem num7_at {k : Nat} (hk : k < 8) : numAll.getD k [] ∈ Sp.num7 := by
  match k, hk with
  | 0, _ => decide
  | 1, _ => decide
  | 2, _ => decide
  | 3, _ => decide
  | 4, _ => decide
  | 5, _ => decide
  | 6, _ => decide
  | 7, _ => decide
theorem num_len {j : Nat} (hj : j < 13) : (numAll.getD j []).length ≤ 8 := by
  have h : ∀ j : Fin 13, (numAll.getD j.val []).length ≤ 8 := by decide
  exact h ⟨j, hj⟩
theorem tn0 {a b : ByteArray} {i j k l : Nat} (hk : k < 5) (hl : l < 5) (hi : i = 8 + k) (hj : j = 8 + l) (ea : a.data.toList = numAll.getD i []) (eb : b.data.toList = numAll.getD j []) : Sp.Two 0 a.data.toList b.data.toList ∧ a.size ≤ 50 ∧ b.size ≤ 50 := by
  have h1 : a.size ≤ 8 := by rw [Lib.size_eq, ea]; exact num_len (by omega)
  have h2 : b.size ≤ 8 := by rw [Lib.size_eq, eb]; exact num_len (by omega)
  exact ⟨⟨_, by rw [ea]; exact rdV_num0 (num0_at hk hi), by rw [eb]; exact rdV_num0 (num0_at hl hj)⟩, by omega, by omega⟩
theorem tn7 (ng : Bool) {a b s1 s2 : ByteArray} {k l : Nat} (hk : k < 8) (hl : l < 8) (e1 : s1.data.toList = numAll.getD k []) (e2 : s2.data.toList = numAll.getD l []) (ea : a.data.toList = Sp.sgn ng ++ s1.data.toList) (eb : b.data.toList = Sp.sgn ng ++ s2.data.toList) :
    Sp.Two 0 a.data.toList b.data.toList ∧ a.size ≤ 50 ∧ b.size ≤ 50 := by
  have h0 : (Sp.sgn ng).length ≤ 1 := by cases ng <;> simp [Sp.sgn]
  have h1 : a.size ≤ 9 := by rw [Lib.size_eq, ea, e1, List.length_append]; have := num_len (j := k) (by omega); omega
  have h2 : b.size ≤ 9 := by rw [Lib.size_eq, eb, e2, List.length_append]; have := num_len (j := l) (by omega); omega
  exact ⟨⟨_, by rw [ea, e1]; exact rdV_num7 ng (num7_at hk), by rw [eb, e2]; exact rdV_num7 ng (num7_at hl)⟩, by omega, by omega⟩
theorem tn7t {s1 s2 : ByteArray} {k l : Nat} (hk : k < 8) (hl : l < 8) (e1 : s1.data.toList = numAll.getD k []) (e2 : s2.data.toList = numAll.getD l []) :
    Sp.Two 0 (⟨#[45]⟩ ++ s1 : ByteArray).data.toList (⟨#[45]⟩ ++ s2 : ByteArray).data.toList ∧ (⟨#[45]⟩ ++ s1 : ByteArray).size ≤ 50 ∧ (⟨#[45]⟩ ++ s2 : ByteArray).size ≤ 50 :=
  tn7 true hk hl e1 e2 (by simp [Sp.sgn]) (by simp [Sp.sgn])
theorem tn7f {s1 s2 : ByteArray} {k l : Nat} (hk : k < 8) (hl : l < 8) (e1 : s1.data.toList = numAll.getD k []) (e2 : s2.data.toList = numAll.getD l []) :
    Sp.Two 0 (⟨#[]⟩ ++ s1 : ByteArray).data.toList (⟨#[]⟩ ++ s2 : ByteArray).data.toList ∧ (⟨#[]⟩ ++ s1 : ByteArray).size ≤ 50 ∧ (⟨#[]⟩ ++ s2 : ByteArray).size ≤ 50 :=
  tn7 false hk hl e1 e2 (by simp [Sp.sgn]) (by simp [Sp.sgn])
theorem not_big {s : ByteArray} {j : Nat} (hj : j < 13) (e : s.data.toList = numAll.getD j []) : ¬ 9223372036854775807 < 1 + s.size ∧ ¬ 9223372036854775807 < s.size := by
  have h1 : s.size ≤ 8 := by rw [Lib.size_eq, e]; exact num_len hj
  exact ⟨by omega, by omega⟩
theorem KeptX.undrew {X : Nat} {w w' : World} (h : KeptX X w.drew w') : KeptX X w w' := ⟨h.os, h.tape, h.output, h.size, h.block⟩

set_option maxHeartbeats 8000000 in
theorem knumber_any {w : World} {R : Nat} {pa : Option Addr} {m cap : Nat} (h : FD w R pa m cap) :
    Calls Tryz.prog 32 #[.pointer (some ⟨R, 0, none⟩)] w fun x w' => (∃ a b : ByteArray, Sp.Two 0 a.data.toList b.data.toList ∧ a.size ≤ 50 ∧ b.size ≤ 50 ∧ x = .returned (.tuple #[.string a, .string b])) ∧ FK R pa m cap w w' := by
  have hb1 : Below w.heap.size w (w.alloc (.cells numCells 9)) := (Below.refl _ _).alloc (Nat.le_refl _) _
  have hg : Tx (w.alloc (.cells numCells 9)) w.heap.size numAll := Tx.new _ _ (by rfl)
  have h1 := h.low hb1
  have hlt := h.lt
  have HK1 := hide (KeptX.of_below (X := R) hb1)
  have H1 := hide h1
  have HG := hide hg
  clear h h1 hb1 hg
  go_enter Tryz.func32, Tryz.ntmps32
  go_wp2_with (fail)
  refine (next_any (unhide H1) 3 (by omega) (by omega)).mono ?_
  rintro x w2 ⟨⟨k, hk, rfl⟩, hfk2⟩
  have hg2 := (unhide HG).kept hfk2.2 (by omega)
  have HK2 := hide ((unhide HK1).trans hfk2.2)
  have H2 := hide hfk2.1
  have HG2 := hide hg2
  clear hfk2 hg2 HG H1 HK1
  by_cases h0 : k = 0
  · subst h0
    go_wp2_with (fail)
    go_region_with (first
      | (go_at_call 31; refine (next_any (unhide H3) 5 (by omega) (by omega)).mono ?_; rintro x w4 ⟨⟨k4, hk4, rfl⟩, hfk4⟩; obtain ⟨j4, q4, q4b, q4c, q4w⟩ := eight k4 hk4; obtain ⟨s4, c4, e4⟩ := ((unhide HG3).kept hfk4.2 (by omega)).at j4 q4b; obtain ⟨s5, c5, e5⟩ := ((unhide HG3).kept hfk4.2 (by omega)).at j3 q3b)
      | (go_at_call 31; refine (next_any (FD.drew (unhide H2)) 5 (by omega) (by omega)).mono ?_; rintro x w3 ⟨⟨k3, hk3, rfl⟩, hfk3⟩; have HG3 := hide ((Tx.drew (unhide HG2)).kept hfk3.2 (by omega)); have H3 := hide hfk3.1; obtain ⟨j3, q3, q3b, q3c, q3w⟩ := eight k3 hk3; obtain ⟨s3, c3, e3⟩ := (unhide HG3).at j3 q3b))
    all_goals (
      have HF := hide (show FK R pa m cap w w4 from ⟨hfk4.1, ((unhide HK2).trans hfk3.2.undrew).trans hfk4.2⟩)
      have HT3 := hide (tn0 hk3 hk4 q3c q4c e3 e4)
      have HT5 := hide (tn0 hk3 hk4 q3c q4c e5 e4)
      clear hfk3 hfk4 e3 e4 e5 q3 q4
      go_wp2_with (fail)
      go_ret2
      first
        | exact ⟨⟨s3, s4, (unhide HT3).1, (unhide HT3).2.1, (unhide HT3).2.2, rfl⟩, unhide HF⟩
        | exact ⟨⟨s5, s4, (unhide HT5).1, (unhide HT5).2.1, (unhide HT5).2.2, rfl⟩, unhide HF⟩)
  · have hk0 : ((k : Int) == 0) = false := by simp; omega
    clear hk h0
    go_wp2_with (fail)
    refine (next_any (unhide H2) 2 (by omega) (by omega)).mono ?_
    rintro x w5 ⟨⟨k5, hk5, rfl⟩, hfk5⟩
    have hg5 := (unhide HG2).kept hfk5.2 (by omega)
    have HK5 := hide ((unhide HK2).trans hfk5.2)
    have H5 := hide hfk5.1
    have HG5 := hide hg5
    clear hfk5 hg5 HG2 H2 HK2 hk0
    by_cases h5 : k5 = 0
    · subst h5
      go_wp2_with (fail)
      go_region_with (first
        | (go_at_call 31; refine (next_any (unhide H3) 8 (by omega) (by omega)).mono ?_; rintro x w4 ⟨⟨k4, hk4, rfl⟩, hfk4⟩; obtain ⟨s4, c4, e4⟩ := ((unhide HG3).kept hfk4.2 (by omega)).at k4 (by exact Nat.lt_of_lt_of_le hk4 (by decide)); obtain ⟨s5, c5, e5⟩ := ((unhide HG3).kept hfk4.2 (by omega)).at k3 (by exact Nat.lt_of_lt_of_le hk3 (by decide)); have hk13b : k4 < 13 := Nat.lt_of_lt_of_le hk4 (by decide); obtain ⟨b1, b2⟩ := not_big hk13b e4; obtain ⟨b3, b4⟩ := not_big hk13 e5)
        | (go_at_call 31; refine (next_any (FD.drew (unhide H5)) 8 (by omega) (by omega)).mono ?_; rintro x w3 ⟨⟨k3, hk3, rfl⟩, hfk3⟩; have HG3 := hide ((Tx.drew (unhide HG5)).kept hfk3.2 (by omega)); have H3 := hide hfk3.1; obtain ⟨s3, c3, e3⟩ := (unhide HG3).at k3 (by exact Nat.lt_of_lt_of_le hk3 (by decide)); have hk13 : k3 < 13 := Nat.lt_of_lt_of_le hk3 (by decide); obtain ⟨b5, b6⟩ := not_big hk13 e3))
      all_goals (
        have HF := hide (show FK R pa m cap w w4 from ⟨hfk4.1, ((unhide HK5).trans hfk3.2.undrew).trans hfk4.2⟩)
        have HT := hide (show Hid (k3 < 8) ∧ Hid (k4 < 8) ∧ Hid (s3.data.toList = numAll.getD k3 []) ∧ Hid (s4.data.toList = numAll.getD k4 []) ∧ Hid (s5.data.toList = numAll.getD k3 []) from ⟨hk3, hk4, e3, e4, e5⟩)
        clear hfk3 hfk4 e3 e4 e5
        go_wp2_with (fail)
        go_ret2
        obtain ⟨a1, a2, a3, a4, a5⟩ := unhide HT
        first
          | exact ⟨⟨_, _, (tn7t a1 a2 a3 a4).1, (tn7t a1 a2 a3 a4).2.1, (tn7t a1 a2 a3 a4).2.2, rfl⟩, unhide HF⟩
          | exact ⟨⟨_, _, (tn7t a1 a2 a5 a4).1, (tn7t a1 a2 a5 a4).2.1, (tn7t a1 a2 a5 a4).2.2, rfl⟩, unhide HF⟩)
    · have hk5 : ((k5 : Int) == 0) = false := by simp; omega
      clear h5
      go_wp2_with (fail)
      go_region_with (first
        | (go_at_call 31; refine (next_any (unhide H3) 8 (by omega) (by omega)).mono ?_; rintro x w4 ⟨⟨k4, hk4, rfl⟩, hfk4⟩; obtain ⟨s4, c4, e4⟩ := ((unhide HG3).kept hfk4.2 (by omega)).at k4 (by exact Nat.lt_of_lt_of_le hk4 (by decide)); obtain ⟨s5, c5, e5⟩ := ((unhide HG3).kept hfk4.2 (by omega)).at k3 (by exact Nat.lt_of_lt_of_le hk3 (by decide)); have hk13b : k4 < 13 := Nat.lt_of_lt_of_le hk4 (by decide); obtain ⟨b1, b2⟩ := not_big hk13b e4; obtain ⟨b3, b4⟩ := not_big hk13 e5)
        | (go_at_call 31; refine (next_any (FD.drew (unhide H5)) 8 (by omega) (by omega)).mono ?_; rintro x w3 ⟨⟨k3, hk3, rfl⟩, hfk3⟩; have HG3 := hide ((Tx.drew (unhide HG5)).kept hfk3.2 (by omega)); have H3 := hide hfk3.1; obtain ⟨s3, c3, e3⟩ := (unhide HG3).at k3 (by exact Nat.lt_of_lt_of_le hk3 (by decide)); have hk13 : k3 < 13 := Nat.lt_of_lt_of_le hk3 (by decide); obtain ⟨b5, b6⟩ := not_big hk13 e3))
      all_goals (
        have HF := hide (show FK R pa m cap w w4 from ⟨hfk4.1, ((unhide HK5).trans hfk3.2.undrew).trans hfk4.2⟩)
        have HT := hide (show Hid (k3 < 8) ∧ Hid (k4 < 8) ∧ Hid (s3.data.toList = numAll.getD k3 []) ∧ Hid (s4.data.toList = numAll.getD k4 []) ∧ Hid (s5.data.toList = numAll.getD k3 []) from ⟨hk3, hk4, e3, e4, e5⟩)
        clear hfk3 hfk4 e3 e4 e5
        go_wp2_with (fail)
        go_ret2
        obtain ⟨a1, a2, a3, a4, a5⟩ := unhide HT
        first
          | exact ⟨⟨_, _, (tn7f a1 a2 a3 a4).1, (tn7f a1 a2 a3 a4).2.1, (tn7f a1 a2 a3 a4).2.2, rfl⟩, unhide HF⟩
          | exact ⟨⟨_, _, (tn7f a1 a2 a5 a4).1, (tn7f a1 a2 a5 a4).2.1, (tn7f a1 a2 a5 a4).2.2, rfl⟩, unhide HF⟩)

end Go.Proofs.YtdpomdelmdofmaaGreatDoor

namespace Go.Proofs.YtdpomdelmdofmaaGreatDoor
open Go.RowKit

def plCells : Array Value := #[.string ⟨#[97]⟩, .string ⟨#[195, 169]⟩, .string ⟨#[240, 159, 152, 128]⟩, .string ⟨#[92, 34]⟩, .string ⟨#[92, 110]⟩, .string ⟨#[47]⟩, .string ⟨#[92, 92]⟩, .string ⟨#[226, 130, 172]⟩]
def otCells : Array Value := #[.string ⟨#[92, 117, 48, 48, 54, 49]⟩, .string ⟨#[92, 117, 48, 48, 69, 57]⟩, .string ⟨#[92, 117, 100, 56, 51, 68, 92, 117, 68, 101, 48, 48]⟩, .string ⟨#[92, 117, 48, 48, 50, 50]⟩, .string ⟨#[92, 117, 48, 48, 48, 65]⟩, .string ⟨#[92, 47]⟩, .string ⟨#[92, 117, 48, 48, 53, 99]⟩, .string ⟨#[92, 117, 50, 48, 97, 67]⟩]
theorem pl_len {k : Nat} (hk : k < 8) : (Sp.plain.getD k []).length ≤ 12 := by
  have h : ∀ j : Fin 8, (Sp.plain.getD j.val []).length ≤ 12 := by decide
  exact h ⟨k, hk⟩
theorem ot_len {k : Nat} (hk : k < 8) : (Sp.other.getD k []).length ≤ 12 := by
  have h : ∀ j : Fin 8, (Sp.other.getD j.val []).length ≤ 12 := by decide
  exact h ⟨k, hk⟩
/-- an opened string, its characters spelled -/
def Op (A : ByteArray) (cs : List Nat) (n : Nat) : Prop := ∃ A', A.data.toList = 34 :: A' ∧ Sp.Chs A' cs ∧ A.size ≤ 1 + 12 * n
theorem Op.nil : Op ⟨#[34]⟩ [] 0 := ⟨[], rfl, Sp.Chs.nil, by decide⟩
theorem Op.next {A p : ByteArray} {cs : List Nat} {n c : Nat} (h : Op A cs n) (hp : Sp.Ch p.data.toList c) (hl : p.size ≤ 12) : Op (A ++ p) (cs ++ [c]) (n + 1) := by
  obtain ⟨A', h1, h2, h3⟩ := h
  exact ⟨A' ++ p.data.toList, by simp [h1], h2.snoc hp, by simp; omega⟩
theorem Op.two {A B : ByteArray} {cs : List Nat} {n : Nat} (h : Op A cs n) (k : Op B cs n) (hn : n ≤ 3) : Sp.Two 0 (A ++ ⟨#[34]⟩ : ByteArray).data.toList (B ++ ⟨#[34]⟩ : ByteArray).data.toList ∧ (A ++ ⟨#[34]⟩ : ByteArray).size ≤ 50 ∧ (B ++ ⟨#[34]⟩ : ByteArray).size ≤ 50 := by
  obtain ⟨A', h1, h2, h3⟩ := h
  obtain ⟨B', k1, k2, k3⟩ := k
  have s1 : (⟨#[34]⟩ : ByteArray).size = 1 := rfl
  have e : ∀ {X : ByteArray} {X' : Sp.By}, X.data.toList = 34 :: X' → (X ++ ⟨#[34]⟩ : ByteArray).data.toList = 34 :: (X' ++ [34]) := by
    intro X X' hX
    simp [hX]
  refine ⟨⟨_, by rw [e h1]; exact rdV_str h2, by rw [e k1]; exact rdV_str k2⟩, ?_, ?_⟩
  · rw [ByteArray.size_append, s1]; omega
  · rw [ByteArray.size_append, s1]; omega

set_option maxHeartbeats 8000000 in
theorem ktext_any {w : World} {R : Nat} {pa : Option Addr} {m cap : Nat} (h : FD w R pa m cap) :
    Calls Tryz.prog 33 #[.pointer (some ⟨R, 0, none⟩)] w fun x w' => (∃ a b : ByteArray, Sp.Two 0 a.data.toList b.data.toList ∧ a.size ≤ 50 ∧ b.size ≤ 50 ∧ x = .returned (.tuple #[.string a, .string b])) ∧ FK R pa m cap w w' := by
  have hb1 : Below w.heap.size w (w.alloc (.cells plCells 9)) := (Below.refl _ _).alloc (Nat.le_refl _) _
  have hb2 : Below w.heap.size w ((w.alloc (.cells plCells 9)).alloc (.cells otCells 9)) := hb1.alloc hb1.size _
  have hlt := h.lt
  have hg1 : Tx ((w.alloc (.cells plCells 9)).alloc (.cells otCells 9)) w.heap.size Sp.plain := by
    have := Tx.new w Sp.plain (cs := plCells) (by rfl)
    exact this.kept (R := R) ((KeptX.refl R _).alloc _) (by omega)
  have hg2 : Tx ((w.alloc (.cells plCells 9)).alloc (.cells otCells 9)) (w.heap.size + 1) Sp.other := by
    have := Tx.new (w.alloc (.cells plCells 9)) Sp.other (cs := otCells) (by rfl)
    simpa using this
  have HFK := hide (show FK R pa m cap w ((w.alloc (.cells plCells 9)).alloc (.cells otCells 9)) from ⟨h.low hb2, KeptX.of_below hb2⟩)
  have HG1 := hide hg1
  have HG2 := hide hg2
  clear h hb1 hb2 hg1 hg2
  go_enter Tryz.func33, Tryz.ntmps33
  go_wp2_with (fail)
  refine (next_any (unhide HFK).1 4 (by omega) (by omega)).mono ?_
  rintro x w2 ⟨⟨k0, hk0, rfl⟩, hfk⟩
  have HG3 := hide ((unhide HG1).kept hfk.2 (by omega))
  have HG4 := hide ((unhide HG2).kept hfk.2 (by omega))
  have HFK2 := hide ((unhide HFK).trans hfk)
  clear hfk HG1 HG2 HFK
  go_wp2_with (fail)
  go_loopw [6, 7, 8] (fun a b n wr => ∃ (j : Nat) (A B : ByteArray) (cs : List Nat), j ≤ k0 ∧ n = .int .i64 j ∧ a = .string A ∧ b = .string B ∧ Op A cs (k0 - j) ∧ Op B cs (k0 - j) ∧ FK R pa m cap w wr ∧ Tx wr w.heap.size Sp.plain ∧ Tx wr (w.heap.size + 1) Sp.other) (fun _ _ n _ => (intOf n).toNat)
  case atStart => exact ⟨k0, _, _, [], Nat.le_refl _, rfl, rfl, rfl, by rw [Nat.sub_self]; exact Op.nil, by rw [Nat.sub_self]; exact Op.nil, unhide HFK2, unhide HG3, unhide HG4⟩
  case round =>
    obtain ⟨j, A, B, cs, hj, rfl, rfl, rfl, hA, hB, hfk, hg1, hg2⟩ := hrel
    have HA := hide hA
    have HB := hide hB
    have HF := hide hfk
    have HG5 := hide hg1
    have HG6 := hide hg2
    have hAs : A.size ≤ 37 := by obtain ⟨_, _, _, hs⟩ := hA; omega
    have hBs : B.size ≤ 37 := by obtain ⟨_, _, _, hs⟩ := hB; omega
    clear hA hB hfk hg1 hg2 HG3 HG4 HFK2
    by_cases h0 : 0 < j
    · go_wp2_with (fail)
      refine (next_any (unhide HF).1 8 (by omega) (by omega)).mono ?_
      rintro x w5 ⟨⟨k, hk, rfl⟩, hf5⟩
      have hg5 := (unhide HG5).kept hf5.2 (by omega)
      obtain ⟨p, cp, ep⟩ := hg5.at k (by exact hk)
      have hps : p.size ≤ 12 := by rw [Lib.size_eq, ep]; exact pl_len hk
      have HEP := hide ep
      have HG7 := hide hg5
      have HG8 := hide ((unhide HG6).kept hf5.2 (by omega))
      have HF5 := hide ((unhide HF).trans hf5)
      clear ep hg5 hf5 HG5 HG6 HF
      go_wp2_with (fail)
      refine (next_any (unhide HF5).1 2 (by omega) (by omega)).mono ?_
      rintro x w6 ⟨⟨t, ht, rfl⟩, hf6⟩
      have hg7 := (unhide HG7).kept hf6.2 (by omega)
      have hg8 := (unhide HG8).kept hf6.2 (by omega)
      obtain ⟨p2, cp2, ep2⟩ := hg7.at k (by exact hk)
      obtain ⟨o, co, eo⟩ := hg8.at k (by exact hk)
      have hp2s : p2.size ≤ 12 := by rw [Lib.size_eq, ep2]; exact pl_len hk
      have hos : o.size ≤ 12 := by rw [Lib.size_eq, eo]; exact ot_len hk
      have HEP2 := hide ep2
      have HEO := hide eo
      have HG9 := hide hg7
      have HG10 := hide hg8
      have HF6 := hide ((unhide HF5).trans hf6)
      clear ep2 eo hg7 hg8 hf6 HG7 HG8 HF5
      by_cases ht0 : t = 0
      · subst ht0
        go_wp2_with (fail)
        exact ⟨⟨j - 1, _, _, cs ++ [Sp.chrC.getD k 0], by omega, by rw [show ((j : Int) - 1) = ((j - 1 : Nat) : Int) by omega], rfl, rfl, by
          rw [show k0 - (j - 1) = k0 - j + 1 by omega]
          exact (unhide HA).next (by rw [unhide HEP]; exact ch_plain k hk) hps, by
          rw [show k0 - (j - 1) = k0 - j + 1 by omega]
          exact (unhide HB).next (by rw [unhide HEP2]; exact ch_plain k hk) hp2s, unhide HF6, unhide HG9, unhide HG10⟩, by simp only [intOf]; omega⟩
      · have ht1 : ((t : Int) == 0) = false := by simp; omega
        clear ht0
        go_wp2_with (fail)
        exact ⟨⟨j - 1, _, _, cs ++ [Sp.chrC.getD k 0], by omega, by rw [show ((j : Int) - 1) = ((j - 1 : Nat) : Int) by omega], rfl, rfl, by
          rw [show k0 - (j - 1) = k0 - j + 1 by omega]
          exact (unhide HA).next (by rw [unhide HEP]; exact ch_plain k hk) hps, by
          rw [show k0 - (j - 1) = k0 - j + 1 by omega]
          exact (unhide HB).next (by rw [unhide HEO]; exact ch_other k hk) hos, unhide HF6, unhide HG9, unhide HG10⟩, by simp only [intOf]; omega⟩
    · obtain rfl : j = 0 := by omega
      go_wp2_with (fail)
      go_ret2
      obtain ⟨t1, t2, t3⟩ := (unhide HA).two (unhide HB) (by omega)
      exact ⟨⟨_, _, t1, t2, t3, rfl⟩, unhide HF⟩

end Go.Proofs.YtdpomdelmdofmaaGreatDoor

namespace Go.Proofs.YtdpomdelmdofmaaGreatDoor
open Go.RowKit

/-- how long a spelling is at most -/
def bnd : Nat → Nat
  | 0 => 50
  | k + 1 => 3 * bnd k + 100
theorem bnd_le : ∀ k : Nat, k ≤ 3 → bnd k ≤ 3000
  | 0, _ => by decide
  | 1, _ => by decide
  | 2, _ => by decide
  | 3, _ => by decide
theorem bnd_ge (k : Nat) : 50 ≤ bnd k := by
  induction k with
  | zero => exact Nat.le_refl _
  | succ k ih => unfold bnd; omega
/-- two spellings are told -/
def TwoEnd (k : Nat) (x : Ending) : Prop := ∃ a b : ByteArray, Sp.Two k a.data.toList b.data.toList ∧ a.size ≤ bnd k ∧ b.size ≤ bnd k ∧ x = .returned (.tuple #[.string a, .string b])
/-- the contract of value, so deep -/
def ValT (k : Nat) : Prop := ∀ (w : World) (R : Nat) (pa : Option Addr) (m cap : Nat), FD w R pa m cap → Calls Tryz.prog 21 #[.pointer (some ⟨R, 0, none⟩), .int .i64 (k : Nat)] w fun x w' => TwoEnd k x ∧ FK R pa m cap w w'

/-- what stands so far: with a comma behind, if more come -/
def sofar (j : Nat) (xs : List Sp.By) : Sp.By := if j = 0 then Sp.joinC xs else Sp.pre xs
theorem sofar_last (xs : List Sp.By) (t : Sp.By) : sofar 0 (xs ++ [t]) = sofar 1 xs ++ t := by
  unfold sofar
  rw [if_pos rfl, if_neg (by omega), joinC_pre]
theorem sofar_next (j : Nat) (hj : 1 < j) (xs : List Sp.By) (t : Sp.By) : sofar (j - 1) (xs ++ [t]) = sofar j xs ++ (t ++ [44]) := by
  unfold sofar
  rw [if_neg (by omega), if_neg (by omega), pre_snoc]
theorem sofar_nil (j : Nat) : sofar j [] = [] := by
  unfold sofar
  split <;> rfl
theorem sofar_one {j : Nat} (hj : 0 < j) (xs : List Sp.By) : sofar j xs = sofar 1 xs := by
  unfold sofar
  rw [if_neg (by omega), if_neg (by omega)]

/-- an array's two texts, so many elements in, j to come -/
structure ArI (k : Nat) (es : List Sp.El) (j : Nat) (A B : ByteArray) : Prop where
  ok : ∀ e ∈ es, e.ok k
  a : A.data.toList = 91 :: sofar j (es.map Sp.El.x)
  b : B.data.toList = 91 :: sofar j (es.map Sp.El.b)
  sa : A.size ≤ 1 + es.length * (bnd k + 6)
  sb : B.size ≤ 1 + es.length * (bnd k + 6)
theorem ArI.nil (k j : Nat) : ArI k [] j ⟨#[91]⟩ ⟨#[91]⟩ := ⟨by simp, by rw [List.map_nil, sofar_nil], by rw [List.map_nil, sofar_nil], by show 1 ≤ 1 + _; omega, by show 1 ≤ 1 + _; omega⟩
theorem size_app (a b : ByteArray) : (a ++ b).size = a.size + b.size := ByteArray.size_append
theorem ArI.last {k : Nat} {es : List Sp.El} {A B x y p q : ByteArray} (h : ArI k es 1 A B) {v : Sp.V} (hx : Sp.RdV k x.data.toList v) (hy : Sp.RdV k y.data.toList v) (sx : x.size ≤ bnd k) (sy : y.size ≤ bnd k) (hp : Sp.Bl p.data.toList) (hq : Sp.Bl q.data.toList) (sp : p.size ≤ 2) (sq : q.size ≤ 2) :
    ArI k (es ++ [⟨x.data.toList, p.data.toList, y.data.toList, q.data.toList, v⟩]) 0 (A ++ x) (B ++ p ++ y ++ q) := by
  refine ⟨fun e he => ?_, ?_, ?_, ?_, ?_⟩
  · rcases List.mem_append.1 he with he | he
    · exact h.ok e he
    · rw [List.mem_singleton] at he; subst he; exact ⟨hx, hy, hp, hq⟩
  · rw [List.map_append, List.map_singleton, sofar_last]
    simp [h.a]
  · rw [List.map_append, List.map_singleton, sofar_last]
    simp [h.b, Sp.El.b]
  · have := h.sa
    rw [size_app, List.length_append, List.length_singleton, Nat.add_mul]; omega
  · have := h.sb
    rw [size_app, size_app, size_app, List.length_append, List.length_singleton, Nat.add_mul]; omega
theorem ArI.next {k j : Nat} (hj : 1 < j) {es : List Sp.El} {A B x y p q : ByteArray} (h : ArI k es j A B) {v : Sp.V} (hx : Sp.RdV k x.data.toList v) (hy : Sp.RdV k y.data.toList v) (sx : x.size ≤ bnd k) (sy : y.size ≤ bnd k) (hp : Sp.Bl p.data.toList) (hq : Sp.Bl q.data.toList) (sp : p.size ≤ 2) (sq : q.size ≤ 2) :
    ArI k (es ++ [⟨x.data.toList, p.data.toList, y.data.toList, q.data.toList, v⟩]) (j - 1) (A ++ x ++ ⟨#[44]⟩) (B ++ p ++ y ++ q ++ ⟨#[44]⟩) := by
  have s1 : (⟨#[44]⟩ : ByteArray).size = 1 := rfl
  refine ⟨fun e he => ?_, ?_, ?_, ?_, ?_⟩
  · rcases List.mem_append.1 he with he | he
    · exact h.ok e he
    · rw [List.mem_singleton] at he; subst he; exact ⟨hx, hy, hp, hq⟩
  · rw [List.map_append, List.map_singleton, sofar_next j hj]
    simp [h.a]
  · rw [List.map_append, List.map_singleton, sofar_next j hj]
    simp [h.b, Sp.El.b]
  · have := h.sa
    rw [size_app, size_app, s1, List.length_append, List.length_singleton, Nat.add_mul]; omega
  · have := h.sb
    rw [size_app, size_app, size_app, size_app, s1, List.length_append, List.length_singleton, Nat.add_mul]; omega
theorem ArI.fin {k : Nat} {es : List Sp.El} {A B z : ByteArray} (h : ArI k es 0 A B) (hl : es.length ≤ 3) (hz : Sp.Bl z.data.toList) (sz : z.size ≤ 2) : TwoEnd (k + 1) (.returned (.tuple #[.string (A ++ ⟨#[93]⟩), .string (B ++ z ++ ⟨#[93]⟩)])) := by
  have s1 : (⟨#[93]⟩ : ByteArray).size = 1 := rfl
  have hb : es.length * (bnd k + 6) ≤ 3 * (bnd k + 6) := Nat.mul_le_mul_right _ hl
  refine ⟨_, _, ?_, ?_, ?_, rfl⟩
  · have e1 : (A ++ ⟨#[93]⟩ : ByteArray).data.toList = 91 :: (Sp.joinC (es.map Sp.El.x) ++ [93]) := by simp [h.a, sofar]
    have e2 : (B ++ z ++ ⟨#[93]⟩ : ByteArray).data.toList = 91 :: (Sp.joinC (es.map Sp.El.b) ++ (z.data.toList ++ [93])) := by simp [h.b, sofar]
    rw [e1, e2]
    exact two_arr h.ok hz
  · have := h.sa
    rw [size_app, s1]; simp only [bnd]; omega
  · have := h.sb
    rw [size_app, size_app, s1]; simp only [bnd]; omega

set_option maxHeartbeats 8000000 in
theorem karray_any {k : Nat} (hk : k < 3) (hV : ValT k) {w : World} {R : Nat} {pa : Option Addr} {m cap : Nat} (h : FD w R pa m cap) :
    Calls Tryz.prog 34 #[.pointer (some ⟨R, 0, none⟩), .int .i64 ((k : Int) + 1)] w fun x w' => TwoEnd (k + 1) x ∧ FK R pa m cap w w' := by
  have H := hide h
  have HV := hide hV
  have hbk := bnd_le k (by omega)
  clear h hV
  go_enter Tryz.func34, Tryz.ntmps34
  go_wp2_with (fail)
  refine (next_any (unhide H) 4 (by omega) (by omega)).mono ?_
  rintro x w2 ⟨⟨k0, hk0, rfl⟩, hfk⟩
  have HFK := hide hfk
  clear hfk H
  go_wp2_with (fail)
  go_loopw [6, 7, 8] (fun a b n wr => ∃ (j : Nat) (A B : ByteArray) (es : List Sp.El), es.length + j = k0 ∧ n = .int .i64 j ∧ a = .string A ∧ b = .string B ∧ ArI k es j A B ∧ FK R pa m cap w wr) (fun _ _ n _ => (intOf n).toNat)
  case atStart => exact ⟨k0, _, _, [], by simp, rfl, rfl, rfl, ArI.nil k k0, unhide HFK⟩
  case round =>
    obtain ⟨j, A, B, es, hj, rfl, rfl, rfl, hI, hfk⟩ := hrel
    have HI := hide hI
    have HF := hide hfk
    have HJ := hide hj
    have hlen : es.length * (bnd k + 6) ≤ 3 * (bnd k + 6) := Nat.mul_le_mul_right _ (by omega)
    have hAs : A.size ≤ 20000 := by have := hI.sa; omega
    have hBs : B.size ≤ 20000 := by have := hI.sb; omega
    have hjk : j ≤ k0 := by omega
    clear hI hfk hlen HFK hj
    by_cases h0 : 0 < j
    · go_wp2_with (fail)
      refine (unhide HV _ _ _ _ _ (unhide HF).1).mono ?_
      rintro x w5 ⟨⟨x, y, ⟨v, hvx, hvy⟩, sx, sy, rfl⟩, hf5⟩
      have HVX := hide hvx
      have HVY := hide hvy
      have HF5 := hide ((unhide HF).trans hf5)
      have HSX := hide sx
      have HSY := hide sy
      have hsx : x.size ≤ 3000 := by omega
      have hsy : y.size ≤ 3000 := by omega
      clear hvx hvy hf5 HF sx sy
      go_wp2_with (fail)
      refine (blank_any (unhide HF5).1).mono ?_
      rintro r w6 ⟨⟨p, hp, sp, rfl⟩, hf6⟩
      have HP := hide hp
      have HF6 := hide ((unhide HF5).trans hf6)
      clear hp hf6 HF5
      go_wp2_with (fail)
      refine (blank_any (unhide HF6).1).mono ?_
      rintro r w7 ⟨⟨q, hq, sq, rfl⟩, hf7⟩
      have HQ := hide hq
      have HF7 := hide ((unhide HF6).trans hf7)
      clear hq hf7 HF6
      by_cases h1 : 1 < j
      · go_wp2_with (fail)
        exact ⟨⟨j - 1, _, _, _, by have := unhide HJ; simp; omega, by rw [show ((j : Int) - 1) = ((j - 1 : Nat) : Int) by omega], rfl, rfl, (unhide HI).next h1 (unhide HVX) (unhide HVY) (unhide HSX) (unhide HSY) (unhide HP) (unhide HQ) sp sq, unhide HF7⟩, by simp only [intOf]; omega⟩
      · obtain rfl : j = 1 := by omega
        go_wp2_with (fail)
        exact ⟨⟨0, _, _, _, by have := unhide HJ; simp; omega, rfl, rfl, rfl, (unhide HI).last (unhide HVX) (unhide HVY) (unhide HSX) (unhide HSY) (unhide HP) (unhide HQ) sp sq, unhide HF7⟩, by simp only [intOf]; omega⟩
    · obtain rfl : j = 0 := by omega
      go_wp2_with (fail)
      refine (blank_any (unhide HF).1).mono ?_
      rintro r w6 ⟨⟨z, hz, sz, rfl⟩, hf6⟩
      have HZ := hide hz
      have HF6 := hide ((unhide HF).trans hf6)
      clear hz hf6 HF
      go_wp2_with (fail)
      go_ret2
      exact ⟨(unhide HI).fin (by have := unhide HJ; omega) (unhide HZ) sz, unhide HF6⟩

end Go.Proofs.YtdpomdelmdofmaaGreatDoor
