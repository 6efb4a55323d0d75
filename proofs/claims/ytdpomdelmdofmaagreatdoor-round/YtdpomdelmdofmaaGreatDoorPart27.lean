/-
  Walk of the statement's own loading.
  Plain facts on the functions of Sp: a canonical text has no blank outside of its strings, no byte below 32, and each string ends.
  Walks of the statement's own escaped and config.
-/
import Derived.Test.YtdpomdelmdofmaaGreatDoorPart26
import Derived.Test.YtdpomdelmdofmaaGreatDoorPart21
namespace Go.Proofs.YtdpomdelmdofmaaGreatDoor
open Go.RowKit

def lsCells : Array Value := #[.int .i64 1, .string ⟨#[32, 91, 49, 46, 48, 44, 32, 50, 93]⟩, .string ⟨#[]⟩, .int .i64 2, .string ⟨#[]⟩, .string ⟨#[]⟩, .int .i64 1, .string ⟨#[91]⟩, .string ⟨#[]⟩, .int .i64 2, .string ⟨#[]⟩, .string ⟨#[]⟩]

theorem scr_ls {w : World} {g : Nat} (h : w.heap[g]? = some (.cells lsCells 49 (0, 0))) : Scr w g 0 Sp.ls := by
  intro i hi
  have hc : ∀ j, w.cell? ⟨g, j, none⟩ = lsCells[j]? := fun j => by simp [World.cell?, h]
  rw [hc, hc, hc]
  match i, hi with
  | 0, _ => exact ⟨rfl, rfl, rfl⟩
  | 1, _ => exact ⟨rfl, rfl, rfl⟩
  | 2, _ => exact ⟨rfl, rfl, rfl⟩
  | 3, _ => exact ⟨rfl, rfl, rfl⟩

theorem plain_ls : Plain Sp.ls := by
  intro o ho
  simp only [Sp.ls, List.mem_cons, List.not_mem_nil, or_false] at ho
  rcases ho with rfl | rfl | rfl | rfl <;> exact Or.inl (Or.inl (by decide))

set_option maxRecDepth 100000 in
set_option maxHeartbeats 4000000 in
theorem loading_any (w : World) (hT : Laid w) : Calls Tryz.prog 17 #[] w fun x w' => x = .returned (.bool true) ∧ Below w.heap.size w w' := by
  have HT := hide hT
  have hng := hT.ng
  clear hT
  go_enter Tryz.func17, Tryz.ntmps17
  go_wp2_with (fail)
  refine (kstep_any 1 _ _ _).mono ?_
  rintro x w1 ⟨rfl, hb1⟩
  go_wp2_with (fail)
  refine (kstep_any 2 _ _ _).mono ?_
  rintro x w2 ⟨rfl, hb2⟩
  go_wp2_with (fail)
  refine (kstep_any 1 _ _ _).mono ?_
  rintro x w3 ⟨rfl, hb3⟩
  go_wp2_with (fail)
  refine (kstep_any 2 _ _ _).mono ?_
  rintro x w4 ⟨rfl, hb4⟩
  have hb04 : Below w.heap.size w w4 := ((hb1.trans (hb2.mono hb1.size)).trans (hb3.mono (Nat.le_trans hb1.size hb2.size))).trans (hb4.mono (Nat.le_trans hb1.size (Nat.le_trans hb2.size hb3.size)))
  have HB4 := hide hb04
  have hs4 := hb04.size
  clear hb1 hb2 hb3 hb4 hb04
  go_wp2_with (fail)
  have hb5 : Below w.heap.size w (w4.alloc (.cells lsCells 49)) := (unhide HB4).alloc hs4 _
  refine (Run_some (d := 3) (e := 9) (n := 100) (sb := w4.heap.size) (so := 0) (m := 4) (cap := 4) (l := Sp.ls) (scr_ls (heap_new w4 _ _ rfl)) plain_ls rfl (by omega) (by omega) (by omega) (by simp) ((unhide HT).below (hb5.mono hng))).mono ?_
  rintro x w6 ⟨A, cs, rfl, hA, hrow, hans, hb6⟩
  rw [run_ls] at hans
  obtain ⟨hsz, hc⟩ := hans
  have q0 := hc 0 (by simp)
  have q1 := hc 1 (by simp)
  have q2 := hc 2 (by simp)
  have q3 := hc 3 (by simp)
  simp only [List.getElem_cons_zero, List.getElem_cons_succ] at q0 q1 q2 q3
  have hcell : ∀ j, w6.cell? ⟨A, j, none⟩ = cs[j]? := fun j => by simp [World.cell?, hrow]
  have g00 := (hcell 0).trans q0.1
  have g01 := (hcell 1).trans q0.2.1
  have g02 := (hcell 2).trans q0.2.2
  have g10 := (hcell 3).trans q1.1
  have g11 := (hcell 4).trans q1.2.1
  have g12 := (hcell 5).trans q1.2.2
  have g20 := (hcell 6).trans q2.1
  have g21 := (hcell 7).trans q2.2.1
  have g22 := (hcell 8).trans q2.2.2
  have g30 := (hcell 9).trans q3.1
  have g31 := (hcell 10).trans q3.2.1
  have g32 := (hcell 11).trans q3.2.2
  have hb06 : Below w.heap.size w w6 := hb5.trans (hb6.mono hb5.size)
  have HB6 := hide hb06
  have hA6 : A < w6.heap.size := (Array.getElem?_eq_some_iff.1 hrow).1
  clear q0 q1 q2 q3 hc hcell hrow hsz hb5 hb6 hb06
  go_wp2_with (fail)
  refine (told_yes [] w6).mono ?_
  rintro x w7 ⟨rfl, hb7⟩
  have k1 := (hb7.cell (p := ⟨A, 3, none⟩) hA6).trans g10
  have k2 := (hb7.cell (p := ⟨A, 4, none⟩) hA6).trans g11
  have k3 := (hb7.cell (p := ⟨A, 5, none⟩) hA6).trans g12
  have k4 := (hb7.cell (p := ⟨A, 6, none⟩) hA6).trans g20
  have k5 := (hb7.cell (p := ⟨A, 9, none⟩) hA6).trans g30
  have k6 := (hb7.cell (p := ⟨A, 10, none⟩) hA6).trans g31
  have k7 := (hb7.cell (p := ⟨A, 11, none⟩) hA6).trans g32
  have HB7 := hide ((unhide HB6).trans (hb7.mono (unhide HB6).size))
  have hA7 : A < w7.heap.size := Nat.lt_of_lt_of_le hA6 hb7.size
  clear g00 g01 g02 g10 g11 g12 g20 g21 g22 g30 g31 g32 hb7
  go_wp2_with (fail)
  refine (told_yes Sp.t2 w7).mono ?_
  rintro x w8 ⟨rfl, hb8⟩
  have m4 := (hb8.cell (p := ⟨A, 6, none⟩) hA7).trans k4
  have m5 := (hb8.cell (p := ⟨A, 9, none⟩) hA7).trans k5
  have m6 := (hb8.cell (p := ⟨A, 10, none⟩) hA7).trans k6
  have m7 := (hb8.cell (p := ⟨A, 11, none⟩) hA7).trans k7
  have HB8 := hide ((unhide HB7).trans (hb8.mono (unhide HB7).size))
  have hA8 : A < w8.heap.size := Nat.lt_of_lt_of_le hA7 hb8.size
  clear k1 k2 k3 k4 k5 k6 k7 hb8
  go_wp2_with (fail)
  refine (told_yes Sp.t2 w8).mono ?_
  rintro x w9 ⟨rfl, hb9⟩
  have n4 := (hb9.cell (p := ⟨A, 6, none⟩) hA8).trans m4
  have HB9 := hide ((unhide HB8).trans (hb9.mono (unhide HB8).size))
  clear m4 m5 m6 m7 hb9
  go_wp2_with (fail)
  go_ret
  exact ⟨rfl, unhide HB9⟩

end Go.Proofs.YtdpomdelmdofmaaGreatDoor

namespace Go.Proofs.YtdpomdelmdofmaaGreatDoor

/-- one byte more: are we inside of a string; is the number of backslashes that stand last odd -/
def Sp.stp (st : Bool × Bool) (c : UInt8) : Option (Bool × Bool) :=
  let ins := if c == 34 && !st.2 then !st.1 else st.1
  if c.toNat < 32 ∨ (c.toNat = 32 ∧ ins = false) then none else some (ins, c == 92 && !st.2)
def Sp.scn : Bool × Bool → Sp.By → Option (Bool × Bool)
  | st, [] => some st
  | st, c :: r => match Sp.stp st c with
    | none => none
    | some st' => Sp.scn st' r
theorem scn_app (a b : Sp.By) : ∀ (st st' : Bool × Bool), Sp.scn st a = some st' → Sp.scn st (a ++ b) = Sp.scn st' b := by
  induction a with
  | nil => intro st st' h; injection h with h; subst h; rfl
  | cons c r ih =>
    intro st st' h
    unfold Sp.scn at h
    rw [List.cons_append]
    rw [Sp.scn]
    cases hs : Sp.stp st c with
    | none => rw [hs] at h; cases h
    | some st1 => rw [hs] at h; exact ih _ _ h

theorem ofNat_beq (c k : UInt8) : (c == k) = decide (c.toNat = k.toNat) := by
  rw [Bool.eq_iff_iff, beq_iff_eq, decide_eq_true_eq]
  exact ⟨fun h => by rw [h], fun h => UInt8.toNat_inj.1 h⟩
/-- a byte that is neither a mark, nor a backslash, nor a blank -/
def Sp.pl (c : UInt8) : Prop := 33 ≤ c.toNat ∧ c.toNat ≠ 34 ∧ c.toNat ≠ 92
theorem stp_pl {c : UInt8} (h : Sp.pl c) (o : Bool) (i : Bool) : Sp.stp (i, o) c = some (i, false) := by
  obtain ⟨h1, h2, h3⟩ := h
  unfold Sp.stp
  have e1 : (c == 34) = false := by rw [ofNat_beq]; simpa using h2
  have e2 : (c == 92) = false := by rw [ofNat_beq]; simpa using h3
  simp only [e1, e2, Bool.false_and]
  rw [if_neg (by omega)]
  rfl
theorem scn_pl (l : Sp.By) (h : ∀ c ∈ l, Sp.pl c) (i : Bool) : Sp.scn (i, false) l = some (i, false) := by
  induction l with
  | nil => rfl
  | cons c r ih =>
    rw [Sp.scn, stp_pl (h c (by simp))]
    exact ih fun c hc => h c (by simp [hc])
theorem hexc_pl : ∀ n : Fin 16, 33 ≤ (Sp.hexc n.val).toNat ∧ (Sp.hexc n.val).toNat ≠ 34 ∧ (Sp.hexc n.val).toNat ≠ 92 := by decide
theorem scn_escB (c : UInt8) : Sp.scn (true, false) (Sp.escB c) = some (true, false) := by
  unfold Sp.escB
  split
  · rename_i h
    rcases h with h | h
    · obtain rfl : c = 34 := UInt8.toNat_inj.1 h
      rfl
    · obtain rfl : c = 92 := UInt8.toNat_inj.1 h
      rfl
  · rename_i h
    split
    · rename_i h2
      have e : Sp.scn (true, false) ([92, 117, 48, 48] ++ [Sp.hexc (c.toNat / 16), Sp.hexc (c.toNat % 16)]) = Sp.scn (true, false) [Sp.hexc (c.toNat / 16), Sp.hexc (c.toNat % 16)] := scn_app _ _ _ _ rfl
      rw [show [92, 117, 48, 48, Sp.hexc (c.toNat / 16), Sp.hexc (c.toNat % 16)] = [92, 117, 48, 48] ++ [Sp.hexc (c.toNat / 16), Sp.hexc (c.toNat % 16)] from rfl, e]
      apply scn_pl
      intro x hx
      simp only [List.mem_cons, List.not_mem_nil, or_false] at hx
      rcases hx with rfl | rfl
      · exact hexc_pl ⟨c.toNat / 16, by omega⟩
      · exact hexc_pl ⟨c.toNat % 16, by omega⟩
    · rename_i h2
      rw [Sp.scn]
      have e1 : (c == 34) = false := by rw [ofNat_beq]; simp; omega
      have e2 : (c == 92) = false := by rw [ofNat_beq]; simp; omega
      unfold Sp.stp
      simp only [e1, e2, Bool.false_and]
      rw [if_neg (by simp; omega)]
      rfl
theorem scn_escS (s : Sp.By) : Sp.scn (true, false) (Sp.escS s) = some (true, false) := by
  induction s with
  | nil => rfl
  | cons c r ih => rw [Sp.escS, scn_app _ _ _ _ (scn_escB c), ih]
theorem scn_quoT (s : Sp.By) : Sp.scn (false, false) (Sp.quoT s) = some (false, false) := by
  unfold Sp.quoT
  rw [Sp.scn, show Sp.stp (false, false) 34 = some (true, false) from rfl]
  simp only
  rw [scn_app _ _ _ _ (scn_escS s)]
  rfl
theorem digit_pl {c : UInt8} (h : Sp.isD c = true) : Sp.pl c := by
  unfold Sp.isD at h
  simp at h
  exact ⟨by omega, by omega, by omega⟩
theorem itoa_pl (e : Int) : ∀ c ∈ Lib.itoa e, Sp.pl c := by
  unfold Lib.itoa
  split
  · intro c hc
    rcases List.mem_cons.1 hc with rfl | hc
    · exact ⟨by decide, by decide, by decide⟩
    · exact digit_pl (decD_all _ c hc)
  · intro c hc; exact digit_pl (decD_all _ c hc)
theorem numT_pl {n : Sp.Nm} (h : Sp.Gn n) : ∀ c ∈ Sp.numT n, Sp.pl c := by
  rcases h with rfl | ⟨hne, hd, _⟩
  · intro c hc
    have : c = 48 := by simpa [Sp.numT] using hc
    subst this
    exact ⟨by decide, by decide, by decide⟩
  · unfold Sp.numT
    rw [if_neg hne]
    intro c hc
    rcases List.mem_append.1 hc with hc | hc
    · split at hc
      · rw [List.mem_singleton] at hc; subst hc; exact ⟨by decide, by decide, by decide⟩
      · cases hc
    · rcases List.mem_append.1 hc with hc | hc
      · exact digit_pl (hd c hc)
      · split at hc
        · cases hc
        · rcases List.mem_cons.1 hc with rfl | hc
          · exact ⟨by decide, by decide, by decide⟩
          · exact itoa_pl _ c hc
theorem scn_join (xs : List Sp.By) (h : ∀ y ∈ xs, Sp.scn (false, false) y = some (false, false)) : Sp.scn (false, false) (Sp.joinC xs) = some (false, false) := by
  have hr : ∀ ys : List Sp.By, (∀ y ∈ ys, Sp.scn (false, false) y = some (false, false)) → Sp.scn (false, false) (Sp.joinR ys) = some (false, false) := by
    intro ys
    induction ys with
    | nil => intro _; rfl
    | cons y r ih =>
      intro hy
      rw [Sp.joinR, Sp.scn, stp_pl ⟨by decide, by decide, by decide⟩]
      simp only
      rw [scn_app _ _ _ _ (hy y (by simp))]
      exact ih fun y hh => hy y (by simp [hh])
  cases xs with
  | nil => rfl
  | cons y r =>
    rw [Sp.joinC, scn_app _ _ _ _ (h y (by simp))]
    exact hr r fun y hh => h y (by simp [hh])
theorem scn_wrap (a b : UInt8) (ha : Sp.pl a) (hb : Sp.pl b) (l : Sp.By) (h : Sp.scn (false, false) l = some (false, false)) : Sp.scn (false, false) (a :: (l ++ [b])) = some (false, false) := by
  rw [Sp.scn, stp_pl ha]
  simp only
  rw [scn_app _ _ _ _ h]
  exact scn_pl [b] (by intro c hc; rw [List.mem_singleton] at hc; subst hc; exact hb) false
theorem scn_can {d x : Int} (f : Nat) : ∀ (lv : Int) (v : Sp.V), Sp.gd d x f lv v → Sp.scn (false, false) (Sp.can f v) = some (false, false) := by
  induction f with
  | zero => intro lv v h; cases h
  | succ f ih =>
    intro lv v h
    obtain ⟨_, ⟨k, hk, rfl⟩ | ⟨s, _, rfl⟩ | ⟨n, hn, _, _, rfl⟩ | ⟨es, hes, rfl⟩ | ⟨es, hp, hes, rfl⟩⟩ := h
    · rw [Sp.can_word]
      match k, hk with
      | 0, _ => rfl
      | 1, _ => rfl
      | 2, _ => rfl
    · rw [Sp.can_str]; exact scn_quoT s
    · rw [Sp.can_num]; exact scn_pl _ (numT_pl hn) false
    · rw [Sp.can_arr]
      refine scn_wrap 91 93 ⟨by decide, by decide, by decide⟩ ⟨by decide, by decide, by decide⟩ _ (scn_join _ fun y hy => ?_)
      obtain ⟨e, he, rfl⟩ := List.mem_map.1 hy
      exact ih _ _ (hes e he)
    · rw [obj_text hp fun p hpm => let ⟨⟨s, hs, _⟩, _⟩ := hes p hpm; ⟨s, hs⟩]
      refine scn_wrap 123 125 ⟨by decide, by decide, by decide⟩ ⟨by decide, by decide, by decide⟩ _ (scn_join _ fun y hy => ?_)
      obtain ⟨e, he, rfl⟩ := List.mem_map.1 hy
      unfold Sp.entT
      rw [scn_app _ _ _ _ (scn_quoT _), Sp.scn, stp_pl ⟨by decide, by decide, by decide⟩]
      exact ih _ _ (hes e he).2

/-- how many backslashes stand last -/
def Sp.trB (l : Sp.By) : Nat := (l.reverse.takeWhile (· == 92)).length
theorem trB_snoc (l : Sp.By) (c : UInt8) : Sp.trB (l ++ [c]) = if c == 92 then Sp.trB l + 1 else 0 := by
  unfold Sp.trB
  rw [List.reverse_append, List.reverse_cons, List.reverse_nil, List.nil_append, List.cons_append, List.nil_append, List.takeWhile_cons]
  split
  · rfl
  · rfl
/-- what the scan of the first bytes gives, a byte on -/
theorem scn_next (l : Sp.By) (st : Bool × Bool) (h : Sp.scn (false, false) l = some (false, false)) (i : Nat) (hi : i < l.length) (hs : Sp.scn (false, false) (l.take i) = some st) :
    ∃ st', Sp.stp st l[i] = some st' ∧ Sp.scn (false, false) (l.take (i + 1)) = some st' := by
  have e1 : Sp.scn (false, false) (l.take i ++ l.drop i) = Sp.scn st (l.drop i) := scn_app _ _ _ _ hs
  rw [List.take_append_drop, h, List.drop_eq_getElem_cons hi, Sp.scn] at e1
  cases hst : Sp.stp st l[i] with
  | none => rw [hst] at e1; cases e1
  | some st' =>
    refine ⟨st', rfl, ?_⟩
    rw [List.take_succ_eq_append_getElem hi, scn_app _ _ _ _ hs, Sp.scn, hst]
    rfl
theorem scn_odd (l : Sp.By) (h : Sp.scn (false, false) l = some (false, false)) : ∀ (i : Nat) (st : Bool × Bool), i ≤ l.length → Sp.scn (false, false) (l.take i) = some st → st.2 = decide (Sp.trB (l.take i) % 2 = 1) := by
  intro i
  induction i with
  | zero => intro st _ hs; rw [List.take_zero] at hs ⊢; injection hs with hs; subst hs; rfl
  | succ i ih =>
    intro st hi hs
    have hlt : i < l.length := by omega
    cases hp : Sp.scn (false, false) (l.take i) with
    | none =>
      have : Sp.scn (false, false) l = none := by
        have hn : ∀ (a b : Sp.By) (s0 : Bool × Bool), Sp.scn s0 a = none → Sp.scn s0 (a ++ b) = none := by
          intro a b
          induction a with
          | nil => intro s0 h; cases h
          | cons c r ihr =>
            intro s0 h
            rw [Sp.scn] at h
            rw [List.cons_append, Sp.scn]
            cases hc : Sp.stp s0 c with
            | none => rfl
            | some s1 => rw [hc] at h; exact ihr s1 h
        have := hn _ (l.drop i) _ hp
        rwa [List.take_append_drop] at this
      rw [this] at h; cases h
    | some st0 =>
      obtain ⟨st', h1, h2⟩ := scn_next l st0 h i hlt hp
      rw [h2] at hs
      injection hs with hs
      subst hs
      have h0 := ih st0 (by omega) hp
      rw [List.take_succ_eq_append_getElem hlt, trB_snoc]
      have h3 : st'.2 = (l[i] == 92 && !st0.2) := by
        unfold Sp.stp at h1
        simp only at h1
        generalize (if (l[i] == 34 && !st0.2) = true then !st0.1 else st0.1) = ins at h1
        split at h1
        · cases h1
        · injection h1 with h1; rw [← h1]
      rw [h3, h0]
      split
      · rename_i hc
        rw [hc, Bool.true_and, Bool.eq_iff_iff]
        simp
        omega
      · rename_i hc
        have : (l[i] == 92) = false := by simpa using hc
        rw [this]; rfl

end Go.Proofs.YtdpomdelmdofmaaGreatDoor

namespace Go.Proofs.YtdpomdelmdofmaaGreatDoor
open Go.RowKit

theorem trB_take {t : ByteArray} {j : Nat} (h : j < t.size) : Sp.trB (t.data.toList.take (j + 1)) = if t[j] == 92 then Sp.trB (t.data.toList.take j) + 1 else 0 := by
  have hl : j < t.data.toList.length := by simpa using h
  rw [List.take_succ_eq_append_getElem hl, trB_snoc]
  rfl

theorem odd_end (m : Nat) : Ending.returned (.bool ((m : Int) % 2 == 1)) = Ending.returned (.bool (decide ((m + 0) % 2 = 1))) := by
  congr 2
  rw [Bool.eq_iff_iff, beq_iff_eq, decide_eq_true_eq]
  omega

set_option maxHeartbeats 4000000 in
theorem escaped_any (t : ByteArray) (n : Nat) (hn : n ≤ t.size) (hs : t.size ≤ 80000) (w : World) :
    Calls Tryz.prog 20 #[.string t, .int .i64 n] w fun x w' => x = .returned (.bool (decide (Sp.trB (t.data.toList.take n) % 2 = 1))) ∧ Below w.heap.size w w' := by
  go_enter Tryz.func20, Tryz.ntmps20
  go_wp2_with (fail)
  go_loopw [5, 6] (fun k i wr => ∃ (j m : Nat), j ≤ n ∧ m ≤ n ∧ k = .int .i64 m ∧ (j = 0 ∧ i = .int .i64 (-1) ∨ ∃ j', j = j' + 1 ∧ i = .int .i64 (j' : Nat)) ∧ Sp.trB (t.data.toList.take n) = m + Sp.trB (t.data.toList.take j) ∧ m + j = n ∧ ∃ q, wr = w.drewN q) (fun _ i _ => (intOf i + 1).toNat)
  case atStart =>
    refine ⟨n, 0, by omega, by omega, rfl, ?_, by omega, by omega, 0, rfl⟩
    cases n with
    | zero => exact Or.inl ⟨rfl, rfl⟩
    | succ n => exact Or.inr ⟨n, rfl, by go_num⟩
  case round =>
    obtain ⟨j, m, hj, hm, rfl, hi, ht, hmj, q, rfl⟩ := hrel
    have HT := hide ht
    have HM := hide hmj
    clear ht hmj
    rcases hi with ⟨rfl, rfl⟩ | ⟨j', rfl, rfl⟩
    · go_wp2_with (fail)
      go_ret
      refine ⟨?_, ⟨rfl, rfl, rfl, Nat.le_refl _, fun _ _ => rfl⟩⟩
      rw [unhide HT]
      exact odd_end m
    · have hlt : j' < t.size := by omega
      have HE := hide (trB_take hlt)
      cases hc : (t[j'] == 92) with
      | true =>
        have e1 : ((t[j'].toNat : Int) == 92) = true := by
          have := eq_of_beq hc; rw [this]; rfl
        have HC := hide hc
        clear hc
        go_wp2_with (fail)
        refine ⟨⟨j', m + 1, by omega, by have := unhide HM; omega, by go_num, ?_, ?_, by have := unhide HM; omega, q, rfl⟩, ?_⟩
        · cases j' with
          | zero => exact Or.inl ⟨rfl, rfl⟩
          | succ k => exact Or.inr ⟨k, rfl, by go_num⟩
        · rw [unhide HT, unhide HE, unhide HC, if_pos rfl]; omega
        · simp only [intOf]; omega
      | false =>
        have e1 : ((t[j'].toNat : Int) == 92) = false := by
          simp at hc ⊢
          intro h; exact hc (UInt8.toNat_inj.1 (by exact_mod_cast h))
        have HC := hide hc
        clear hc
        go_wp2_with (fail)
        go_ret
        refine ⟨?_, ⟨rfl, rfl, rfl, Nat.le_refl _, fun _ _ => rfl⟩⟩
        rw [unhide HT, unhide HE, unhide HC, if_neg (by decide)]
        exact odd_end m

set_option maxHeartbeats 4000000 in
theorem config_any (a b : Int) (ha0 : -9223372036854775808 ≤ a) (ha1 : a ≤ 9223372036854775807) (hb0 : -9223372036854775808 ≤ b) (hb1 : b ≤ 9223372036854775807) (w : World) :
    Calls Tryz.prog 18 #[.int .i64 a, .int .i64 b, .int .i64 0] w fun x w' => (∃ (d e n : Nat), d < 20 ∧ e < 401 ∧ n < 2001 ∧ x = .returned (.agg #[.int .i64 ((d + 1 : Nat) : Int), .int .i64 e, .int .i64 n])) ∧ Below w.heap.size w w' := by
  go_enter Tryz.func18, Tryz.ntmps18
  go_wp2_with (fail)
  refine (pick_any a 20 ha0 ha1 (by omega) (by omega) _).mono ?_
  rintro x w1 ⟨⟨d, hd, rfl⟩, rfl⟩
  go_wp2_with (fail)
  refine (pick_any b 401 hb0 hb1 (by omega) (by omega) _).mono ?_
  rintro x w1 ⟨⟨e, he, rfl⟩, rfl⟩
  go_wp2_with (fail)
  refine (pick_any 0 2001 (by omega) (by omega) (by omega) (by omega) _).mono ?_
  rintro x w1 ⟨⟨n, hn, rfl⟩, rfl⟩
  go_wp2_with (fail)
  refine bodyPost_ret (v := .agg #[.int .i64 ((d + 1 : Nat) : Int), .int .i64 e, .int .i64 n]) (by simp [results, Tryz.results18, go_sem]; omega) rfl ⟨⟨d, e, n, hd, he, hn, rfl⟩, ?_⟩
  exact (Below.refl _ w).alloc (Nat.le_refl _) _

end Go.Proofs.YtdpomdelmdofmaaGreatDoor
