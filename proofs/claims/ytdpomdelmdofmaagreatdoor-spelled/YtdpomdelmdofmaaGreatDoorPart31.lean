/-
  Walk of the statement's own objects in two spellings, from that of the values in them.
  Walk of the statement's own values in two spellings, by their depth.
  Walk of the statement on reading again what a document says.
-/
import Derived.Test.YtdpomdelmdofmaaGreatDoorPart30
import Derived.Test.YtdpomdelmdofmaaGreatDoorPart29
namespace Go.Proofs.YtdpomdelmdofmaaGreatDoor
open Go.RowKit

theorem kA_len {j : Nat} (hj : j < 4) : (Sp.kA.getD j []).length ≤ 14 := by
  have h : ∀ j : Fin 4, (Sp.kA.getD j.val []).length ≤ 14 := by decide
  exact h ⟨j, hj⟩
theorem kB_len {j : Nat} (hj : j < 4) : (Sp.kB.getD j []).length ≤ 14 := by
  have h : ∀ j : Fin 4, (Sp.kB.getD j.val []).length ≤ 14 := by decide
  exact h ⟨j, hj⟩
theorem joinC_one (t : Sp.By) : Sp.joinC [t] = t := by simp [Sp.joinC, Sp.joinR]
theorem joinC_snoc {xs : List Sp.By} (h : xs ≠ []) (t : Sp.By) : Sp.joinC (xs ++ [t]) = Sp.joinC xs ++ 44 :: t := by
  cases xs with
  | nil => exact absurd rfl h
  | cons y r => simp [Sp.joinC, Sp.joinR_snoc]
theorem joinC_cons {xs : List Sp.By} (h : xs ≠ []) (t : Sp.By) : Sp.joinC (t :: xs) = t ++ 44 :: Sp.joinC xs := by
  cases xs with
  | nil => exact absurd rfl h
  | cons y r => simp [Sp.joinC, Sp.joinR]

/-- an object's two texts, so many members in, j to come of n -/
structure ObI (k n : Nat) (ms : List Sp.Om) (j : Nat) (A B : ByteArray) : Prop where
  ok : ∀ m ∈ ms, m.ok k
  ix : ms.map Sp.Om.i ++ Sp.idxs j = Sp.idxs n
  a : A.data.toList = Sp.joinC (ms.map Sp.Om.at)
  b : B.data.toList = Sp.joinC (ms.reverse.map Sp.Om.bt)
  sa : A.size ≤ ms.length * (bnd k + 30)
  sb : B.size ≤ ms.length * (bnd k + 30)
theorem ObI.nil (k n : Nat) : ObI k n [] n ⟨#[]⟩ ⟨#[]⟩ := ⟨by simp, by simp, rfl, rfl, by show 0 ≤ _; omega, by show 0 ≤ _; omega⟩
theorem ObI.len {k n j : Nat} {ms : List Sp.Om} {A B : ByteArray} (h : ObI k n ms j A B) : ms.length + j = n := by
  have hl : ∀ n, (Sp.idxs n).length = n := by
    intro n
    induction n with
    | zero => rfl
    | succ n ih => simp [Sp.idxs, ih]
  have := congrArg List.length h.ix
  rw [List.length_append, List.length_map, hl, hl] at this
  exact this
theorem ObI.empty {k n j : Nat} {A B : ByteArray} (h : ObI k n [] j A B) : A = ⟨#[]⟩ ∧ B = ⟨#[]⟩ := by
  have e : ∀ X : ByteArray, X.data.toList = [] → X = ⟨#[]⟩ := by
    intro X hX
    obtain ⟨⟨l⟩⟩ := X
    simp at hX
    rw [hX]
  exact ⟨e A h.a, e B h.b⟩
theorem ObI.full {k n j : Nat} {ms : List Sp.Om} (hne : ms ≠ []) {A B : ByteArray} (h : ObI k n ms j A B) : A.data.toList ≠ [] := by
  rw [h.a]
  cases ms with
  | nil => exact absurd rfl hne
  | cons m r => simp [Sp.joinC, Sp.Om.at]
/-- what one member adds -/
structure OneM (k j : Nat) (ka kb x y p p1 p2 q : ByteArray) (v : Sp.V) : Prop where
  hx : Sp.RdV k x.data.toList v
  hy : Sp.RdV k y.data.toList v
  sx : x.size ≤ bnd k
  sy : y.size ≤ bnd k
  ea : ka.data.toList = Sp.kA.getD j []
  eb : kb.data.toList = Sp.kB.getD j []
  hp : Sp.Bl p.data.toList
  hp1 : Sp.Bl p1.data.toList
  hp2 : Sp.Bl p2.data.toList
  hq : Sp.Bl q.data.toList
  sp : p.size ≤ 2
  sp1 : p1.size ≤ 2
  sp2 : p2.size ≤ 2
  sq : q.size ≤ 2
def omOf (j : Nat) (x y p p1 p2 q : ByteArray) (v : Sp.V) : Sp.Om := ⟨j, x.data.toList, y.data.toList, p.data.toList, p1.data.toList, p2.data.toList, q.data.toList, v⟩
theorem OneM.okm {k j : Nat} {ka kb x y p p1 p2 q : ByteArray} {v : Sp.V} (o : OneM k j ka kb x y p p1 p2 q v) : (omOf j x y p p1 p2 q v).ok k := ⟨o.hx, o.hy, o.hp, o.hp1, o.hp2, o.hq⟩
theorem OneM.at {k j : Nat} {ka kb x y p p1 p2 q : ByteArray} {v : Sp.V} (o : OneM k j ka kb x y p p1 p2 q v) : (omOf j x y p p1 p2 q v).at = (ka ++ ⟨#[58]⟩ ++ x : ByteArray).data.toList := by
  simp [Sp.Om.at, omOf, o.ea]
theorem OneM.bt {k j : Nat} {ka kb x y p p1 p2 q : ByteArray} {v : Sp.V} (o : OneM k j ka kb x y p p1 p2 q v) : (omOf j x y p p1 p2 q v).bt = (p ++ kb ++ p1 ++ ⟨#[58]⟩ ++ p2 ++ y ++ q : ByteArray).data.toList := by
  simp [Sp.Om.bt, omOf, o.eb]
theorem OneM.szA {k j : Nat} (hj : j < 4) {ka kb x y p p1 p2 q : ByteArray} {v : Sp.V} (o : OneM k j ka kb x y p p1 p2 q v) : ka.size ≤ 14 := by rw [Lib.size_eq, o.ea]; exact kA_len hj
theorem OneM.szB {k j : Nat} (hj : j < 4) {ka kb x y p p1 p2 q : ByteArray} {v : Sp.V} (o : OneM k j ka kb x y p p1 p2 q v) : kb.size ≤ 14 := by rw [Lib.size_eq, o.eb]; exact kB_len hj
theorem idx_snoc {l : List Nat} {n j : Nat} (hj : 0 < j) (h : l ++ Sp.idxs j = Sp.idxs n) : (l ++ [j]) ++ Sp.idxs (j - 1) = Sp.idxs n := by
  obtain ⟨i, rfl⟩ : ∃ i, j = i + 1 := ⟨j - 1, by omega⟩
  rw [← h]; simp [Sp.idxs]
theorem ObI.first {k n j : Nat} (hj : 0 < j) (hj4 : j < 4) {ka kb x y p p1 p2 q : ByteArray} {v : Sp.V} (h : ObI k n [] j ⟨#[]⟩ ⟨#[]⟩) (o : OneM k j ka kb x y p p1 p2 q v) :
    ObI k n [omOf j x y p p1 p2 q v] (j - 1) (⟨#[]⟩ ++ ka ++ ⟨#[58]⟩ ++ x) (p ++ kb ++ p1 ++ ⟨#[58]⟩ ++ p2 ++ y ++ q ++ ⟨#[]⟩) := by
  have s1 : (⟨#[58]⟩ : ByteArray).size = 1 := rfl
  have s0 : (⟨#[]⟩ : ByteArray).size = 0 := rfl
  have ha := o.szA hj4
  have hb := o.szB hj4
  have := o.sx; have := o.sy; have := o.sp; have := o.sp1; have := o.sp2; have := o.sq
  refine ⟨fun m hm => ?_, ?_, ?_, ?_, ?_, ?_⟩
  · rw [List.mem_singleton] at hm; subst hm; exact o.okm
  · exact idx_snoc hj h.ix
  · rw [List.map_singleton, joinC_one, o.at]; simp
  · rw [List.reverse_singleton, List.map_singleton, joinC_one, o.bt]; simp
  · simp only [size_app, s1, s0, List.length_singleton]; omega
  · simp only [size_app, s1, s0, List.length_singleton]; omega
theorem ObI.next {k n j : Nat} (hj : 0 < j) (hj4 : j < 4) {ms : List Sp.Om} (hne : ms ≠ []) {A B ka kb x y p p1 p2 q : ByteArray} {v : Sp.V} (h : ObI k n ms j A B) (o : OneM k j ka kb x y p p1 p2 q v) :
    ObI k n (ms ++ [omOf j x y p p1 p2 q v]) (j - 1) (A ++ ⟨#[44]⟩ ++ ka ++ ⟨#[58]⟩ ++ x) (p ++ kb ++ p1 ++ ⟨#[58]⟩ ++ p2 ++ y ++ q ++ (⟨#[44]⟩ ++ B)) := by
  have s1 : (⟨#[58]⟩ : ByteArray).size = 1 := rfl
  have s0 : (⟨#[44]⟩ : ByteArray).size = 1 := rfl
  have ha := o.szA hj4
  have hb := o.szB hj4
  have := o.sx; have := o.sy; have := o.sp; have := o.sp1; have := o.sp2; have := o.sq; have := h.sa; have := h.sb
  refine ⟨fun m hm => ?_, ?_, ?_, ?_, ?_, ?_⟩
  · rcases List.mem_append.1 hm with hm | hm
    · exact h.ok m hm
    · rw [List.mem_singleton] at hm; subst hm; exact o.okm
  · rw [List.map_append]; exact idx_snoc hj h.ix
  · rw [List.map_append, List.map_singleton, joinC_snoc (by simpa using hne), o.at]; simp [h.a]
  · rw [List.reverse_append, List.reverse_singleton, List.singleton_append, List.map_cons, joinC_cons (by simpa using hne), o.bt]; simp [h.b]
  · simp only [size_app, s1, s0, List.length_append, List.length_singleton, Nat.add_mul]; omega
  · simp only [size_app, s1, s0, List.length_append, List.length_singleton, Nat.add_mul]; omega
theorem ObI.fin {k n : Nat} (hn : n ≤ 3) {ms : List Sp.Om} {A B : ByteArray} (h : ObI k n ms 0 A B) : TwoEnd (k + 1) (.returned (.tuple #[.string (⟨#[123]⟩ ++ A ++ ⟨#[125]⟩), .string (⟨#[123]⟩ ++ B ++ ⟨#[125]⟩)])) := by
  have s1 : (⟨#[123]⟩ : ByteArray).size = 1 := rfl
  have s2 : (⟨#[125]⟩ : ByteArray).size = 1 := rfl
  have hlen := h.len
  have hb : ms.length * (bnd k + 30) ≤ 3 * (bnd k + 30) := Nat.mul_le_mul_right _ (by omega)
  have := h.sa; have := h.sb
  refine ⟨_, _, ?_, ?_, ?_, rfl⟩
  · have e1 : (⟨#[123]⟩ ++ A ++ ⟨#[125]⟩ : ByteArray).data.toList = 123 :: (Sp.joinC (ms.map Sp.Om.at) ++ [125]) := by simp [h.a]
    have e2 : (⟨#[123]⟩ ++ B ++ ⟨#[125]⟩ : ByteArray).data.toList = 123 :: (Sp.joinC (ms.reverse.map Sp.Om.bt) ++ [125]) := by simp [h.b]
    rw [e1, e2]
    exact two_obj hn (by have := h.ix; simpa [Sp.idxs] using this) h.ok
  · simp only [size_app, s1, s2, bnd]; omega
  · simp only [size_app, s1, s2, bnd]; omega

set_option maxHeartbeats 8000000 in
theorem kobject_any {k : Nat} (hk : k < 3) (hV : ValT k) {w : World} {R : Nat} {pa : Option Addr} {m cap : Nat} (h : FD w R pa m cap) :
    Calls Tryz.prog 35 #[.pointer (some ⟨R, 0, none⟩), .int .i64 ((k : Int) + 1)] w fun x w' => TwoEnd (k + 1) x ∧ FK R pa m cap w w' := by
  have H := hide h
  have HV := hide hV
  have hbk := bnd_le k (by omega)
  have hRw := h.lt
  clear h hV
  go_enter Tryz.func35, Tryz.ntmps35
  go_wp2_with (fail)
  refine (next_any (unhide H) 4 (by omega) (by omega)).mono ?_
  rintro x w2 ⟨⟨k0, hk0, rfl⟩, hfk⟩
  have HFK := hide hfk
  clear hfk H
  go_wp2_with (fail)
  go_loopw [6, 7, 8] (fun a b n wr => ∃ (j : Nat) (A B : ByteArray) (ms : List Sp.Om), n = .int .i64 j ∧ a = .string A ∧ b = .string B ∧ ObI k k0 ms j A B ∧ FK R pa m cap w wr) (fun _ _ n _ => (intOf n).toNat)
  case atStart => exact ⟨k0, _, _, [], rfl, rfl, rfl, ObI.nil k k0, unhide HFK⟩
  case round =>
    obtain ⟨j, A, B, ms, rfl, rfl, rfl, hI, hfk⟩ := hrel
    have HI := hide hI
    have HF := hide hfk
    have HJ := hide hI.len
    have hlen : ms.length * (bnd k + 30) ≤ 3 * (bnd k + 30) := Nat.mul_le_mul_right _ (by have := hI.len; omega)
    have hAs : A.size ≤ 20000 := by have := hI.sa; omega
    have hBs : B.size ≤ 20000 := by have := hI.sb; omega
    have hj4 : j < 4 := by have := hI.len; omega
    have hRr := hfk.1.lt
    clear hI hlen HFK hfk
    by_cases h0 : 0 < j
    · have hb2 : Below wr.heap.size wr ((wr.alloc (.cells #[.string ⟨#[]⟩, .string ⟨#[34, 107, 34]⟩, .string ⟨#[34, 92, 117, 48, 48, 54, 98, 92, 117, 48, 48, 54, 66, 34]⟩, .string ⟨#[34, 126, 47, 34]⟩] 9)).alloc (.cells #[.string ⟨#[]⟩, .string ⟨#[34, 92, 117, 48, 48, 54, 98, 34]⟩, .string ⟨#[34, 107, 107, 34]⟩, .string ⟨#[34, 92, 117, 48, 48, 55, 101, 92, 47, 34]⟩] 9)) := ((Below.refl _ _).alloc (Nat.le_refl _) _).alloc (by simp) _
      have HF2 := hide ((unhide HF).low hb2)
      obtain ⟨ka, ca, ea⟩ := (Tx.new wr Sp.kA (cs := #[.string ⟨#[]⟩, .string ⟨#[34, 107, 34]⟩, .string ⟨#[34, 92, 117, 48, 48, 54, 98, 92, 117, 48, 48, 54, 66, 34]⟩, .string ⟨#[34, 126, 47, 34]⟩]) (by rfl)).at j (by exact hj4)
      obtain ⟨kb, cb, eb⟩ := (Tx.new (wr.alloc (.cells #[.string ⟨#[]⟩, .string ⟨#[34, 107, 34]⟩, .string ⟨#[34, 92, 117, 48, 48, 54, 98, 92, 117, 48, 48, 54, 66, 34]⟩, .string ⟨#[34, 126, 47, 34]⟩] 9)) Sp.kB (cs := #[.string ⟨#[]⟩, .string ⟨#[34, 92, 117, 48, 48, 54, 98, 34]⟩, .string ⟨#[34, 107, 107, 34]⟩, .string ⟨#[34, 92, 117, 48, 48, 55, 101, 92, 47, 34]⟩]) (by rfl)).at j (by exact hj4)
      rw [show (wr.alloc (.cells #[.string ⟨#[]⟩, .string ⟨#[34, 107, 34]⟩, .string ⟨#[34, 92, 117, 48, 48, 54, 98, 92, 117, 48, 48, 54, 66, 34]⟩, .string ⟨#[34, 126, 47, 34]⟩] 9)).heap.size = wr.heap.size + 1 by simp] at cb
      have hka : ka.size ≤ 14 := by rw [Lib.size_eq, ea]; exact kA_len hj4
      have hkb : kb.size ≤ 14 := by rw [Lib.size_eq, eb]; exact kB_len hj4
      have HEA := hide ea
      have HEB := hide eb
      clear hb2 ea eb HF
      go_wp2_with (fail)
      refine (unhide HV _ _ _ _ _ (unhide HF2).1).mono ?_
      rintro x w5 ⟨⟨x, y, ⟨v, hvx, hvy⟩, sx, sy, rfl⟩, hf5⟩
      have HVX := hide hvx
      have HVY := hide hvy
      have HF5 := hide ((unhide HF2).trans hf5)
      have HSX := hide sx
      have HSY := hide sy
      have hsx : x.size ≤ 3000 := by omega
      have hsy : y.size ≤ 3000 := by omega
      clear hvx hvy hf5 HF2 sx sy ca cb
      cases ms with
      | nil =>
        obtain ⟨rfl, rfl⟩ := (unhide HI).empty
        go_wp2_with (fail)
        refine (blank_any (unhide HF5).1).mono ?_
        rintro r w6 ⟨⟨p, hp, sp, rfl⟩, hf6⟩
        have HP := hide hp
        have HF6 := hide ((unhide HF5).trans hf6)
        clear hp hf6 HF5
        go_wp2_with (fail)
        refine (blank_any (unhide HF6).1).mono ?_
        rintro r w7 ⟨⟨p1, hp1, sp1, rfl⟩, hf7⟩
        have HP1 := hide hp1
        have HF7 := hide ((unhide HF6).trans hf7)
        clear hp1 hf7 HF6
        go_wp2_with (fail)
        refine (blank_any (unhide HF7).1).mono ?_
        rintro r w8 ⟨⟨p2, hp2, sp2, rfl⟩, hf8⟩
        have HP2 := hide hp2
        have HF8 := hide ((unhide HF7).trans hf8)
        clear hp2 hf8 HF7
        go_wp2_with (fail)
        refine (blank_any (unhide HF8).1).mono ?_
        rintro r w9 ⟨⟨q, hq, sq, rfl⟩, hf9⟩
        have HQ := hide hq
        have HF9 := hide ((unhide HF8).trans hf9)
        clear hq hf9 HF8
        go_wp2_with (fail)
        have o : OneM k j ka kb x y p p1 p2 q v := ⟨unhide HVX, unhide HVY, unhide HSX, unhide HSY, unhide HEA, unhide HEB, unhide HP, unhide HP1, unhide HP2, unhide HQ, sp, sp1, sp2, sq⟩
        exact ⟨⟨j - 1, _, _, _, by rw [show ((j : Int) - 1) = ((j - 1 : Nat) : Int) by omega], rfl, rfl, (unhide HI).first h0 hj4 o, unhide HF9⟩, by simp only [intOf]; omega⟩
      | cons m0 mr =>
        have hne : A.toList.isEmpty = false := by
          rw [ByteArray.toList_eq, List.isEmpty_eq_false_iff]
          exact (unhide HI).full (by simp)
        go_wp2_with (fail)
        refine (blank_any (unhide HF5).1).mono ?_
        rintro r w6 ⟨⟨p, hp, sp, rfl⟩, hf6⟩
        have HP := hide hp
        have HF6 := hide ((unhide HF5).trans hf6)
        clear hp hf6 HF5
        go_wp2_with (fail)
        refine (blank_any (unhide HF6).1).mono ?_
        rintro r w7 ⟨⟨p1, hp1, sp1, rfl⟩, hf7⟩
        have HP1 := hide hp1
        have HF7 := hide ((unhide HF6).trans hf7)
        clear hp1 hf7 HF6
        go_wp2_with (fail)
        refine (blank_any (unhide HF7).1).mono ?_
        rintro r w8 ⟨⟨p2, hp2, sp2, rfl⟩, hf8⟩
        have HP2 := hide hp2
        have HF8 := hide ((unhide HF7).trans hf8)
        clear hp2 hf8 HF7
        go_wp2_with (fail)
        refine (blank_any (unhide HF8).1).mono ?_
        rintro r w9 ⟨⟨q, hq, sq, rfl⟩, hf9⟩
        have HQ := hide hq
        have HF9 := hide ((unhide HF8).trans hf9)
        clear hq hf9 HF8
        go_wp2_with (fail)
        have o : OneM k j ka kb x y p p1 p2 q v := ⟨unhide HVX, unhide HVY, unhide HSX, unhide HSY, unhide HEA, unhide HEB, unhide HP, unhide HP1, unhide HP2, unhide HQ, sp, sp1, sp2, sq⟩
        exact ⟨⟨j - 1, _, _, _, by rw [show ((j : Int) - 1) = ((j - 1 : Nat) : Int) by omega], rfl, rfl, (unhide HI).next h0 hj4 (by simp) o, unhide HF9⟩, by simp only [intOf]; omega⟩
    · obtain rfl : j = 0 := by omega
      go_wp2_with (fail)
      go_ret2
      exact ⟨(unhide HI).fin (by omega), unhide HF⟩

end Go.Proofs.YtdpomdelmdofmaaGreatDoor

namespace Go.Proofs.YtdpomdelmdofmaaGreatDoor
open Go.RowKit

theorem two_end (k : Nat) {a b : ByteArray} (h : Sp.Two 0 a.data.toList b.data.toList) (sa : a.size ≤ 50) (sb : b.size ≤ 50) : TwoEnd k (.returned (.tuple #[.string a, .string b])) :=
  ⟨a, b, h.mono (Nat.zero_le _), Nat.le_trans sa (bnd_ge k), Nat.le_trans sb (bnd_ge k), rfl⟩
def wdCells : Array Value := #[.string ⟨#[110, 117, 108, 108]⟩, .string ⟨#[116, 114, 117, 101]⟩, .string ⟨#[102, 97, 108, 115, 101]⟩]
theorem two_word (k : Nat) {i : Nat} (hi : i < 3) {s : ByteArray} (e : s.data.toList = Sp.words.getD i []) : TwoEnd k (.returned (.tuple #[.string s, .string s])) := by
  have hl := words_len i
  have hs : s.size ≤ 5 := by rw [Lib.size_eq, e]; exact hl
  exact two_end k ⟨_, by rw [e]; exact rdV_word i hi, by rw [e]; exact rdV_word i hi⟩ (by omega) (by omega)
theorem bel_fk {R : Nat} {pa : Option Addr} {m cap : Nat} {a w w' : World} (h : FK R pa m cap a w) (e : w'.heap = w.heap := by rfl) (e1 : w'.os = w.os := by rfl) (e2 : w'.tape = w.tape := by rfl) (e3 : w'.output = w.output := by rfl) : FK R pa m cap a w' :=
  h.low ⟨e1, e2, e3, by rw [e]; exact Nat.le_refl _, fun k _ => by rw [e]⟩

set_option maxHeartbeats 8000000 in
theorem val_zero : ValT 0 := by
  intro w R pa m cap h
  have H := hide h
  clear h
  go_enter Tryz.func21, Tryz.ntmps21
  go_wp2_with (fail)
  refine (next_any (unhide H) 6 (by omega) (by omega)).mono ?_
  rintro x w2 ⟨⟨c, hc, rfl⟩, hfk⟩
  have HF := hide hfk
  clear hfk H
  rcases (show c = 0 ∨ c = 1 ∨ c = 2 ∨ c = 3 ∨ c = 4 ∨ c = 5 by omega) with rfl | rfl | rfl | rfl | rfl | rfl
  · go_wp2_with (fail)
    refine (knumber_any (unhide HF).1).mono ?_
    rintro r w3 ⟨⟨a, b, h2, sa, sb, rfl⟩, hf3⟩
    have HT := hide (two_end 0 h2 sa sb)
    have HF3 := hide ((unhide HF).trans hf3)
    clear h2 hf3 HF sa sb
    go_wp2_with (fail)
    go_ret2
    exact ⟨unhide HT, unhide HF3⟩
  · go_wp2_with (fail)
    refine (knumber_any (unhide HF).1).mono ?_
    rintro r w3 ⟨⟨a, b, h2, sa, sb, rfl⟩, hf3⟩
    have HT := hide (two_end 0 h2 sa sb)
    have HF3 := hide ((unhide HF).trans hf3)
    clear h2 hf3 HF sa sb
    go_wp2_with (fail)
    go_ret2
    exact ⟨unhide HT, unhide HF3⟩
  · go_wp2_with (fail)
    refine (ktext_any (unhide HF).1).mono ?_
    rintro r w3 ⟨⟨a, b, h2, sa, sb, rfl⟩, hf3⟩
    have HT := hide (two_end 0 h2 sa sb)
    have HF3 := hide ((unhide HF).trans hf3)
    clear h2 hf3 HF sa sb
    go_wp2_with (fail)
    go_ret2
    exact ⟨unhide HT, unhide HF3⟩
  · have hb : Below w2.heap.size w2 (w2.alloc (.cells wdCells 9)) := (Below.refl _ _).alloc (Nat.le_refl _) _
    have HFB := hide ((unhide HF).low hb)
    have HG := hide (Tx.new w2 Sp.words (cs := wdCells) (by rfl))
    have hlt := (unhide HF).1.lt
    clear hb
    go_wp2_with (fail)
    refine (next_any (unhide HFB).1 3 (by omega) (by omega)).mono ?_
    rintro r w3 ⟨⟨i, hi, rfl⟩, hf3⟩
    obtain ⟨s, cs, es⟩ := ((unhide HG).kept hf3.2 (by omega)).at i (by exact hi)
    have HT := hide (two_word 0 hi es)
    have HF3 := hide ((unhide HFB).trans hf3)
    clear es hf3 HFB HF HG
    go_wp2_with (fail)
    go_quiet (fail)
    go_wp2_with (fail)
    go_ret2
    exact ⟨unhide HT, bel_fk (unhide HF3)⟩
  · go_wp2_with (fail)
    refine (knumber_any (unhide HF).1).mono ?_
    rintro r w3 ⟨⟨a, b, h2, sa, sb, rfl⟩, hf3⟩
    have HT := hide (two_end 0 h2 sa sb)
    have HF3 := hide ((unhide HF).trans hf3)
    clear h2 hf3 HF sa sb
    go_wp2_with (fail)
    go_ret2
    exact ⟨unhide HT, unhide HF3⟩
  · go_wp2_with (fail)
    refine (knumber_any (unhide HF).1).mono ?_
    rintro r w3 ⟨⟨a, b, h2, sa, sb, rfl⟩, hf3⟩
    have HT := hide (two_end 0 h2 sa sb)
    have HF3 := hide ((unhide HF).trans hf3)
    clear h2 hf3 HF sa sb
    go_wp2_with (fail)
    go_ret2
    exact ⟨unhide HT, unhide HF3⟩

set_option maxHeartbeats 8000000 in
theorem val_succ {k : Nat} (hk : k < 3) (hV : ValT k) : ValT (k + 1) := by
  intro w R pa m cap h
  have H := hide h
  have HV := hide hV
  have e0 : (((k : Int) + 1) == 0) = false := by simp; omega
  clear h hV
  go_enter Tryz.func21, Tryz.ntmps21
  go_wp2_with (fail)
  refine (next_any (unhide H) 6 (by omega) (by omega)).mono ?_
  rintro x w2 ⟨⟨c, hc, rfl⟩, hfk⟩
  have HF := hide hfk
  clear hfk H
  rcases (show c = 0 ∨ c = 1 ∨ c = 2 ∨ c = 3 ∨ c = 4 ∨ c = 5 by omega) with rfl | rfl | rfl | rfl | rfl | rfl
  · go_wp2_with (fail)
    refine (knumber_any (unhide HF).1).mono ?_
    rintro r w3 ⟨⟨a, b, h2, sa, sb, rfl⟩, hf3⟩
    have HT := hide (two_end (k + 1) h2 sa sb)
    have HF3 := hide ((unhide HF).trans hf3)
    clear h2 hf3 HF sa sb
    go_wp2_with (fail)
    go_ret2
    exact ⟨unhide HT, unhide HF3⟩
  · go_wp2_with (fail)
    refine (knumber_any (unhide HF).1).mono ?_
    rintro r w3 ⟨⟨a, b, h2, sa, sb, rfl⟩, hf3⟩
    have HT := hide (two_end (k + 1) h2 sa sb)
    have HF3 := hide ((unhide HF).trans hf3)
    clear h2 hf3 HF sa sb
    go_wp2_with (fail)
    go_ret2
    exact ⟨unhide HT, unhide HF3⟩
  · go_wp2_with (fail)
    refine (ktext_any (unhide HF).1).mono ?_
    rintro r w3 ⟨⟨a, b, h2, sa, sb, rfl⟩, hf3⟩
    have HT := hide (two_end (k + 1) h2 sa sb)
    have HF3 := hide ((unhide HF).trans hf3)
    clear h2 hf3 HF sa sb
    go_wp2_with (fail)
    go_ret2
    exact ⟨unhide HT, unhide HF3⟩
  · have hb : Below w2.heap.size w2 (w2.alloc (.cells wdCells 9)) := (Below.refl _ _).alloc (Nat.le_refl _) _
    have HFB := hide ((unhide HF).low hb)
    have HG := hide (Tx.new w2 Sp.words (cs := wdCells) (by rfl))
    have hlt := (unhide HF).1.lt
    clear hb
    go_wp2_with (fail)
    refine (next_any (unhide HFB).1 3 (by omega) (by omega)).mono ?_
    rintro r w3 ⟨⟨i, hi, rfl⟩, hf3⟩
    obtain ⟨s, cs, es⟩ := ((unhide HG).kept hf3.2 (by omega)).at i (by exact hi)
    have HT := hide (two_word (k + 1) hi es)
    have HF3 := hide ((unhide HFB).trans hf3)
    clear es hf3 HFB HF HG
    go_wp2_with (fail)
    go_quiet (fail)
    go_wp2_with (fail)
    go_ret2
    exact ⟨unhide HT, bel_fk (unhide HF3)⟩
  · go_wp2_with (fail)
    refine (karray_any (by omega) (unhide HV) (unhide HF).1).mono ?_
    rintro r w3 ⟨⟨a, b, h2, sa, sb, rfl⟩, hf3⟩
    have HT := hide (show TwoEnd (k + 1) (.returned (.tuple #[.string a, .string b])) from ⟨a, b, h2, sa, sb, rfl⟩)
    have HF3 := hide ((unhide HF).trans hf3)
    clear h2 hf3 HF sa sb
    go_wp2_with (fail)
    go_ret2
    exact ⟨unhide HT, unhide HF3⟩
  · go_wp2_with (fail)
    refine (kobject_any (by omega) (unhide HV) (unhide HF).1).mono ?_
    rintro r w3 ⟨⟨a, b, h2, sa, sb, rfl⟩, hf3⟩
    have HT := hide (show TwoEnd (k + 1) (.returned (.tuple #[.string a, .string b])) from ⟨a, b, h2, sa, sb, rfl⟩)
    have HF3 := hide ((unhide HF).trans hf3)
    clear h2 hf3 HF sa sb
    go_wp2_with (fail)
    go_ret2
    exact ⟨unhide HT, unhide HF3⟩

theorem val_three : ValT 3 := val_succ (by omega) (val_succ (by omega) (val_succ (by omega) val_zero))

end Go.Proofs.YtdpomdelmdofmaaGreatDoor

namespace Go.Proofs.YtdpomdelmdofmaaGreatDoor
open Go.RowKit

theorem dumped_is {d e n : Int} (hc : Sp.cfg d e n = true) {t s : ByteArray} {c : Nat} (h : Sp.dmp d e t.data.toList = (c, s.data.toList)) (w : World) (hT : Laid w) :
    Calls Tryz.prog 19 #[.agg #[.int .i64 d, .int .i64 e, .int .i64 n], .string t] w fun x w' => x = .returned (.tuple #[.string s, .int .i64 c]) ∧ Below w.heap.size w w' := by
  have h1 := dumped_any hc t w hT
  rw [h] at h1
  have : (⟨s.data.toList.toArray⟩ : ByteArray) = s := by simp
  simpa only [this] using h1
theorem read_two {t : Sp.By} {d x : Int} : (∃ c, Sp.readTo t d x = (c, none) ∧ 0 < c) ∨ ∃ v, Sp.readTo t d x = (0, some v) := by
  unfold Sp.readTo
  split
  · exact Or.inl ⟨4, rfl, by omega⟩
  · split
    · exact Or.inl ⟨5, rfl, by omega⟩
    · rename_i v r fl hv
      split
      · split
        · exact Or.inl ⟨6, rfl, by omega⟩
        · split
          · exact Or.inl ⟨7, rfl, by omega⟩
          · split
            · exact Or.inl ⟨8, rfl, by omega⟩
            · exact Or.inr ⟨v, rfl⟩
      · exact Or.inl ⟨5, rfl, by omega⟩

/-- what the three loadings tell -/
theorem dmp_three (d e : Int) (he0 : 0 ≤ e) (he : e ≤ 400) (t : ByteArray) : ∃ (c : Nat) (s : ByteArray), Sp.dmp d e t.data.toList = (c, s.data.toList) ∧ s.size ≤ 80000 ∧
    ((0 < c ∧ s = ⟨#[]⟩) ∨ (c = 0 ∧ Sp.scn (false, false) s.data.toList = some (false, false) ∧
      (s.size ≤ 1998 → Sp.dmp d e s.data.toList = (0, s.data.toList) ∧ Sp.dmp d e ((⟨#[32]⟩ ++ s) ++ ⟨#[10]⟩ : ByteArray).data.toList = (0, s.data.toList)))) := by
  rcases read_two (t := t.data.toList) (d := d) (x := e) with ⟨c, h, hc⟩ | ⟨v, h⟩
  · exact ⟨c, ⟨#[]⟩, by unfold Sp.dmp; rw [h], by decide, Or.inl ⟨hc, rfl⟩⟩
  · have hg := read_gd h
    have hb := read_bd h top
    have hsz : (⟨(Sp.can top v).toArray⟩ : ByteArray).size = (Sp.can top v).length := by rw [Lib.size_eq]
    refine ⟨0, ⟨(Sp.can top v).toArray⟩, by unfold Sp.dmp; rw [h], by omega, Or.inr ⟨rfl, scn_can _ _ _ hg, fun hl => ?_⟩⟩
    have r1 := reread hg he0 (by omega) [] [] (fun l => rfl) rfl (by intro c t e; cases e) (by simp; omega)
    have r2 := reread hg he0 (by omega) [32] [10] (fun l => rfl) rfl (by intro c t e; injection e with e1 e2; subst e1; exact ⟨by decide, by decide, by decide, by decide⟩) (by simp; omega)
    constructor
    · simp only [List.nil_append, List.append_nil] at r1
      unfold Sp.dmp
      rw [r1]
    · have e1 : ((⟨#[32]⟩ ++ ⟨(Sp.can top v).toArray⟩) ++ ⟨#[10]⟩ : ByteArray).data.toList = [32] ++ (Sp.can top v ++ [10]) := by simp
      rw [e1]
      unfold Sp.dmp
      rw [r2]

theorem stp_quote {c : UInt8} (h : c.toNat = 34) {b o : Bool} {st : Bool × Bool} (hs : Sp.stp (b, o) c = some st) : st = (if o then b else !b, false) := by
  obtain rfl : c = 34 := UInt8.toNat_inj.1 h
  cases b <;> cases o <;> (injection hs with hs; exact hs.symm)
theorem stp_other {c : UInt8} (h : ¬ c.toNat = 34) {b o : Bool} {st : Bool × Bool} (hs : Sp.stp (b, o) c = some st) : st = (b, c == 92 && !o) ∧ (c.toNat = 32 → b = true) ∧ 32 ≤ c.toNat := by
  have e : (c == 34) = false := by rw [ofNat_beq]; simpa using h
  unfold Sp.stp at hs
  simp only [e, Bool.false_and, Bool.false_eq_true, if_false] at hs
  split at hs
  · cases hs
  · rename_i hn
    injection hs with hs
    refine ⟨hs.symm, fun h2 => ?_, by omega⟩
    cases b with
    | true => rfl
    | false => exact absurd (Or.inr ⟨h2, rfl⟩) hn
theorem config_int (a b : Int) (ha0 : -9223372036854775808 ≤ a) (ha1 : a ≤ 9223372036854775807) (hb0 : -9223372036854775808 ≤ b) (hb1 : b ≤ 9223372036854775807) (w : World) :
    Calls Tryz.prog 18 #[.int .i64 a, .int .i64 b, .int .i64 0] w fun x w' => (∃ (d e n : Int), Sp.cfg d e n = true ∧ 0 ≤ e ∧ e ≤ 400 ∧ x = .returned (.agg #[.int .i64 d, .int .i64 e, .int .i64 n])) ∧ Below w.heap.size w w' := by
  refine (config_any a b ha0 ha1 hb0 hb1 w).mono ?_
  rintro x w' ⟨⟨d, e, n, hd, he, hn, rfl⟩, hb⟩
  exact ⟨⟨_, _, _, by simp [Sp.cfg, Sp.inB]; omega, by omega, by omega, rfl⟩, hb⟩

set_option maxRecDepth 100000 in
set_option maxHeartbeats 8000000 in
theorem Round_any {a b : Int} (ha0 : -9223372036854775808 ≤ a) (ha1 : a ≤ 9223372036854775807) (hb0 : -9223372036854775808 ≤ b) (hb1 : b ≤ 9223372036854775807) (t : ByteArray) (w : World) (hT : Laid w) :
    Calls Tryz.prog 4 #[.int .i64 a, .int .i64 b, .string t] w fun x w' => x = .returned (.bool true) ∧ Below w.heap.size w w' := by
  have HT := hide hT
  have hng := hT.ng
  clear hT
  go_enter Tryz.func4, Tryz.ntmps4
  go_wp2_with (fail)
  refine (loading_any _ (unhide HT)).mono ?_
  rintro x w1 ⟨rfl, hb1'⟩
  have HB1 := hide hb1'
  have hs1 := hb1'.size
  clear hb1'
  go_wp2_with (fail)
  refine (config_int a b ha0 ha1 hb0 hb1 _).mono ?_
  rintro x w2 ⟨⟨d, e, n, hc, he0, he1, rfl⟩, hb2⟩
  have HC := hide hc
  have HB2 := hide (((unhide HB1).trans (hb2.mono hs1)).alloc (Nat.le_trans hs1 hb2.size) (.cells #[.int .i64 d, .int .i64 e, .int .i64 n] 23))
  have hs2 : w.heap.size ≤ w2.heap.size := Nat.le_trans hs1 hb2.size
  have hz : (w2.alloc (.cells #[.int .i64 d, .int .i64 e, .int .i64 n] 23)).heap[w2.heap.size]? = some (.cells #[.int .i64 d, .int .i64 e, .int .i64 n] 23 (0, 0)) := heap_new _ _ _ rfl
  obtain ⟨c, s, hd1, hss, hcase⟩ := dmp_three d e he0 he1 t
  have HD1 := hide hd1
  have HCS := hide hcase
  clear hb2 hc hd1 hcase he0 he1 HB1
  go_wp2_with (fail)
  generalize w2.alloc (.cells #[.int .i64 d, .int .i64 e, .int .i64 n] 23) = w3 at *
  refine (dumped_is (unhide HC) (unhide HD1) _ ((unhide HT).below ((unhide HB2).mono hng))).mono ?_
  rintro x w4 ⟨rfl, hb4⟩
  have hs3 : w2.heap.size < w3.heap.size := (Array.getElem?_eq_some_iff.1 hz).1
  have HB4 := hide ((unhide HB2).trans (hb4.mono (by omega)))
  have hs4 : w2.heap.size < w4.heap.size := Nat.lt_of_lt_of_le hs3 hb4.size
  have hz4 : w4.heap[w2.heap.size]? = some (.cells #[.int .i64 d, .int .i64 e, .int .i64 n] 23 (0, 0)) := (hb4.block _ hs3).trans hz
  have z0 : w4.cell? ⟨w2.heap.size, 0, none⟩ = some (.int .i64 d) := by simp [World.cell?, hz4]
  have z1 : w4.cell? ⟨w2.heap.size, 1, none⟩ = some (.int .i64 e) := by simp [World.cell?, hz4]
  have z2 : w4.cell? ⟨w2.heap.size, 2, none⟩ = some (.int .i64 n) := by simp [World.cell?, hz4]
  clear hb4 hz hz4
  rcases unhide HCS with ⟨hpos, rfl⟩ | ⟨rfl, hscn, htwo⟩
  · have e0 : ((c : Int) != 0) = true := by simp; omega
    clear hpos
    go_wp2_with (fail)
    go_ret
    exact ⟨rfl, bel_any (unhide HB4)⟩
  · have HSC := hide hscn
    have HTW := hide htwo
    clear hscn htwo
    by_cases hl : s.size ≤ 1998
    · obtain ⟨h2, h3⟩ := unhide HTW hl
      have HD2 := hide h2
      have HD3 := hide h3
      clear h2 h3
      have e1 : decide ((1998 : Int) < (s.size : Int)) = false := by simp; omega
      go_wp2_with (fail)
      refine (dumped_is (unhide HC) (unhide HD2) _ ((unhide HT).below ((unhide HB4).mono hng))).mono ?_
      rintro x w5 ⟨rfl, hb5⟩
      have HB5 := hide ((unhide HB4).trans (hb5.mono (by omega)))
      have hs5 : w2.heap.size < w5.heap.size := Nat.lt_of_lt_of_le hs4 hb5.size
      have y0 := (hb5.cell (p := ⟨w2.heap.size, 0, none⟩) hs4).trans z0
      have y1 := (hb5.cell (p := ⟨w2.heap.size, 1, none⟩) hs4).trans z1
      have y2 := (hb5.cell (p := ⟨w2.heap.size, 2, none⟩) hs4).trans z2
      clear hb5 z0 z1 z2 HB4 HCS HTW HD1 HD2
      go_wp2_with (fail)
      refine (dumped_is (unhide HC) (unhide HD3) _ ((unhide HT).below ((unhide HB5).mono hng))).mono ?_
      rintro x w6 ⟨rfl, hb6⟩
      have HB6 := hide ((unhide HB5).trans (hb6.mono (by omega)))
      clear hb6 y0 y1 y2 HB5 HD3
      go_wp2_with (fail)
      go_loopw [15, 16] (fun ins i wr => ∃ (k : Nat) (b o : Bool), k ≤ s.size ∧ i = .int .i64 k ∧ ins = .bool b ∧ Sp.scn (false, false) (s.data.toList.take k) = some (b, o) ∧ Below w.heap.size w wr) (fun _ i _ => s.size - (intOf i).toNat)
      case atStart => exact ⟨0, false, false, by omega, rfl, rfl, rfl, unhide HB6⟩
      case round =>
        obtain ⟨k, b, o, hk, rfl, rfl, hsn, hbel⟩ := hrel
        have HBEL := hide hbel
        clear hbel
        by_cases hlt : k < s.size
        · have hkl : k < s.data.toList.length := by simpa using hlt
          have hodd : o = decide (Sp.trB (s.data.toList.take k) % 2 = 1) := scn_odd _ (unhide HSC) k _ (by omega) hsn
          obtain ⟨st', hst, hsn'⟩ := scn_next _ _ (unhide HSC) k hkl hsn
          have hst3 : Sp.stp (b, o) (s[k]'hlt) = some st' := hst
          have HSN := hide hsn'
          have HODD := hide hodd
          have HST := hide hst3
          clear hsn hodd hst hst3 hsn' hkl
          have hnlt := (s[k]'hlt).toNat_lt
          by_cases h34 : s[k].toNat = 34
          · have f34 : ((s[k].toNat : Int) == 34) = true := by rw [h34]; rfl
            have f32 : ((s[k].toNat : Int) == 32) = false := by rw [h34]; rfl
            have flt : decide ((s[k].toNat : Int) < 32) = false := by rw [h34]; rfl
            have H34 := hide h34
            clear h34
            go_wp2_with (fail)
            refine (escaped_any s k hk hss _).mono ?_
            rintro x w7 ⟨rfl, hb7⟩
            have HB7 := hide ((unhide HBEL).trans (hb7.mono (unhide HBEL).size))
            rw [← unhide HODD]
            clear hb7
            have hst := stp_quote (unhide H34) (unhide HST)
            have HST2 := hide hst
            clear hst
            cases o with
            | true =>
              have HS3 := hide (unhide HST2)
              go_wp2_with (fail)
              exact ⟨⟨k + 1, b, false, by omega, by go_num, rfl, (unhide HSN).trans (congrArg some (unhide HS3)), bel_any (unhide HB7)⟩, by simp [intOf]; omega⟩
            | false =>
              have HS3 := hide (unhide HST2)
              go_wp2_with (fail)
              exact ⟨⟨k + 1, !b, false, by omega, by go_num, rfl, (unhide HSN).trans (congrArg some (unhide HS3)), bel_any (unhide HB7)⟩, by simp [intOf]; omega⟩
          · have f34 : ((s[k].toNat : Int) == 34) = false := by simp; omega
            obtain ⟨hst, h32, h31⟩ := stp_other h34 (unhide HST)
            have flt : decide ((s[k].toNat : Int) < 32) = false := by simp; omega
            have HST2 := hide hst
            have H32 := hide h32
            clear h34 hst h32 h31
            by_cases hb : s[k].toNat = 32
            · have f32 : ((s[k].toNat : Int) == 32) = true := by rw [hb]; rfl
              obtain rfl := unhide H32 hb
              clear hb
              go_wp2_with (fail)
              exact ⟨⟨k + 1, true, _, by omega, by go_num, rfl, (unhide HSN).trans (congrArg some (unhide HST2)), bel_any (unhide HBEL)⟩, by simp [intOf]; omega⟩
            · have f32 : ((s[k].toNat : Int) == 32) = false := by simp; omega
              clear hb
              go_wp2_with (fail)
              exact ⟨⟨k + 1, b, _, by omega, by go_num, rfl, (unhide HSN).trans (congrArg some (unhide HST2)), bel_any (unhide HBEL)⟩, by simp [intOf]; omega⟩
        · have hke : k = s.size := by omega
          have hfull : s.data.toList.take k = s.data.toList := List.take_of_length_le (by simp; omega)
          rw [hfull, unhide HSC] at hsn
          injection hsn with hsn
          injection hsn with h1 h2
          subst h1
          clear h2 hfull hke
          go_wp2_with (fail)
          go_ret
          exact ⟨rfl, bel_any (unhide HBEL)⟩
    · have e1 : decide ((1998 : Int) < (s.size : Int)) = true := by simp; omega
      go_wp2_with (fail)
      go_ret
      exact ⟨rfl, bel_any (unhide HB4)⟩

end Go.Proofs.YtdpomdelmdofmaaGreatDoor
