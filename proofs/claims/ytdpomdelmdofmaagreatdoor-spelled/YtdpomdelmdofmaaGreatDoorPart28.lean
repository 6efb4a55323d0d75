/-
  Plain facts on the functions of Sp: a canonical text has no blank outside of its strings, no byte below 32, and each string ends.
  Walks of the statement's own escaped and config.
  Walk of the statement on first steps.
-/
import Derived.Test.YtdpomdelmdofmaaGreatDoorPart21
import Derived.Test.YtdpomdelmdofmaaGreatDoorPart27
namespace Go.Proofs.YtdpomdelmdofmaaGreatDoor

/-- one byte more: are we inside of a string; is the number of backslashes that stand last odd -/
def Sp.stp (st : Bool × Bool) (c : UInt8) : Option (Bool × Bool) :=
  let ins := if c == 34 && !st.2 then !st.1 else st.1
  if c.toNat < 32 ∨ (c.toNat = 32 ∧ ins = false) then none else some (ins, c == 92 && !st.2)
def Sp.scn : Bool × Bool → Sp.By → Option (Bool × Bool)
  | st, [] => some st
  | st, c :: r => match Sp.stp st c with
    | none => none
    | some st' => Sp.scn st' r
theorem scn_app (a b : Sp.By) : ∀ (st st' : Bool × Bool), Sp.scn st a = some st' → Sp.scn st (a ++ b) = Sp.scn st' b := by
  induction a with
  | nil => intro st st' h; injection h with h; subst h; rfl
  | cons c r ih =>
    intro st st' h
    unfold Sp.scn at h
    rw [List.cons_append]
    rw [Sp.scn]
    cases hs : Sp.stp st c with
    | none => rw [hs] at h; cases h
    | some st1 => rw [hs] at h; exact ih _ _ h

theorem ofNat_beq (c k : UInt8) : (c == k) = decide (c.toNat = k.toNat) := by
  rw [Bool.eq_iff_iff, beq_iff_eq, decide_eq_true_eq]
  exact ⟨fun h => by rw [h], fun h => UInt8.toNat_inj.1 h⟩
/-- a byte that is neither a mark, nor a backslash, nor a blank -/
def Sp.pl (c : UInt8) : Prop := 33 ≤ c.toNat ∧ c.toNat ≠ 34 ∧ c.toNat ≠ 92
theorem stp_pl {c : UInt8} (h : Sp.pl c) (o : Bool) (i : Bool) : Sp.stp (i, o) c = some (i, false) := by
  obtain ⟨h1, h2, h3⟩ := h
  unfold Sp.stp
  have e1 : (c == 34) = false := by rw [ofNat_beq]; simpa using h2
  have e2 : (c == 92) = false := by rw [ofNat_beq]; simpa using h3
  simp only [e1, e2, Bool.false_and]
  rw [if_neg (by omega)]
  rfl
theorem scn_pl (l : Sp.By) (h : ∀ c ∈ l, Sp.pl c) (i : Bool) : Sp.scn (i, false) l = some (i, false) := by
  induction l with
  | nil => rfl
  | cons c r ih =>
    rw [Sp.scn, stp_pl (h c (by simp))]
    exact ih fun c hc => h c (by simp [hc])
theorem hexc_pl : ∀ n : Fin 16, 33 ≤ (Sp.hexc n.val).toNat ∧ (Sp.hexc n.val).toNat ≠ 34 ∧ (Sp.hexc n.val).toNat ≠ 92 := by decide
theorem scn_escB (c : UInt8) : Sp.scn (true, false) (Sp.escB c) = some (true, false) := by
  unfold Sp.escB
  split
  · rename_i h
    rcases h with h | h
    · obtain rfl : c = 34 := UInt8.toNat_inj.1 h
      rfl
    · obtain rfl : c = 92 := UInt8.toNat_inj.1 h
      rfl
  · rename_i h
    split
    · rename_i h2
      have e : Sp.scn (true, false) ([92, 117, 48, 48] ++ [Sp.hexc (c.toNat / 16), Sp.hexc (c.toNat % 16)]) = Sp.scn (true, false) [Sp.hexc (c.toNat / 16), Sp.hexc (c.toNat % 16)] := scn_app _ _ _ _ rfl
      rw [show [92, 117, 48, 48, Sp.hexc (c.toNat / 16), Sp.hexc (c.toNat % 16)] = [92, 117, 48, 48] ++ [Sp.hexc (c.toNat / 16), Sp.hexc (c.toNat % 16)] from rfl, e]
      apply scn_pl
      intro x hx
      simp only [List.mem_cons, List.not_mem_nil, or_false] at hx
      rcases hx with rfl | rfl
      · exact hexc_pl ⟨c.toNat / 16, by omega⟩
      · exact hexc_pl ⟨c.toNat % 16, by omega⟩
    · rename_i h2
      rw [Sp.scn]
      have e1 : (c == 34) = false := by rw [ofNat_beq]; simp; omega
      have e2 : (c == 92) = false := by rw [ofNat_beq]; simp; omega
      unfold Sp.stp
      simp only [e1, e2, Bool.false_and]
      rw [if_neg (by simp; omega)]
      rfl
theorem scn_escS (s : Sp.By) : Sp.scn (true, false) (Sp.escS s) = some (true, false) := by
  induction s with
  | nil => rfl
  | cons c r ih => rw [Sp.escS, scn_app _ _ _ _ (scn_escB c), ih]
theorem scn_quoT (s : Sp.By) : Sp.scn (false, false) (Sp.quoT s) = some (false, false) := by
  unfold Sp.quoT
  rw [Sp.scn, show Sp.stp (false, false) 34 = some (true, false) from rfl]
  simp only
  rw [scn_app _ _ _ _ (scn_escS s)]
  rfl
theorem digit_pl {c : UInt8} (h : Sp.isD c = true) : Sp.pl c := by
  unfold Sp.isD at h
  simp at h
  exact ⟨by omega, by omega, by omega⟩
theorem itoa_pl (e : Int) : ∀ c ∈ Lib.itoa e, Sp.pl c := by
  unfold Lib.itoa
  split
  · intro c hc
    rcases List.mem_cons.1 hc with rfl | hc
    · exact ⟨by decide, by decide, by decide⟩
    · exact digit_pl (decD_all _ c hc)
  · intro c hc; exact digit_pl (decD_all _ c hc)
theorem numT_pl {n : Sp.Nm} (h : Sp.Gn n) : ∀ c ∈ Sp.numT n, Sp.pl c := by
  rcases h with rfl | ⟨hne, hd, _⟩
  · intro c hc
    have : c = 48 := by simpa [Sp.numT] using hc
    subst this
    exact ⟨by decide, by decide, by decide⟩
  · unfold Sp.numT
    rw [if_neg hne]
    intro c hc
    rcases List.mem_append.1 hc with hc | hc
    · split at hc
      · rw [List.mem_singleton] at hc; subst hc; exact ⟨by decide, by decide, by decide⟩
      · cases hc
    · rcases List.mem_append.1 hc with hc | hc
      · exact digit_pl (hd c hc)
      · split at hc
        · cases hc
        · rcases List.mem_cons.1 hc with rfl | hc
          · exact ⟨by decide, by decide, by decide⟩
          · exact itoa_pl _ c hc
theorem scn_join (xs : List Sp.By) (h : ∀ y ∈ xs, Sp.scn (false, false) y = some (false, false)) : Sp.scn (false, false) (Sp.joinC xs) = some (false, false) := by
  have hr : ∀ ys : List Sp.By, (∀ y ∈ ys, Sp.scn (false, false) y = some (false, false)) → Sp.scn (false, false) (Sp.joinR ys) = some (false, false) := by
    intro ys
    induction ys with
    | nil => intro _; rfl
    | cons y r ih =>
      intro hy
      rw [Sp.joinR, Sp.scn, stp_pl ⟨by decide, by decide, by decide⟩]
      simp only
      rw [scn_app _ _ _ _ (hy y (by simp))]
      exact ih fun y hh => hy y (by simp [hh])
  cases xs with
  | nil => rfl
  | cons y r =>
    rw [Sp.joinC, scn_app _ _ _ _ (h y (by simp))]
    exact hr r fun y hh => h y (by simp [hh])
theorem scn_wrap (a b : UInt8) (ha : Sp.pl a) (hb : Sp.pl b) (l : Sp.By) (h : Sp.scn (false, false) l = some (false, false)) : Sp.scn (false, false) (a :: (l ++ [b])) = some (false, false) := by
  rw [Sp.scn, stp_pl ha]
  simp only
  rw [scn_app _ _ _ _ h]
  exact scn_pl [b] (by intro c hc; rw [List.mem_singleton] at hc; subst hc; exact hb) false
theorem scn_can {d x : Int} (f : Nat) : ∀ (lv : Int) (v : Sp.V), Sp.gd d x f lv v → Sp.scn (false, false) (Sp.can f v) = some (false, false) := by
  induction f with
  | zero => intro lv v h; cases h
  | succ f ih =>
    intro lv v h
    obtain ⟨_, ⟨k, hk, rfl⟩ | ⟨s, _, rfl⟩ | ⟨n, hn, _, _, rfl⟩ | ⟨es, hes, rfl⟩ | ⟨es, hp, hes, rfl⟩⟩ := h
    · rw [Sp.can_word]
      match k, hk with
      | 0, _ => rfl
      | 1, _ => rfl
      | 2, _ => rfl
    · rw [Sp.can_str]; exact scn_quoT s
    · rw [Sp.can_num]; exact scn_pl _ (numT_pl hn) false
    · rw [Sp.can_arr]
      refine scn_wrap 91 93 ⟨by decide, by decide, by decide⟩ ⟨by decide, by decide, by decide⟩ _ (scn_join _ fun y hy => ?_)
      obtain ⟨e, he, rfl⟩ := List.mem_map.1 hy
      exact ih _ _ (hes e he)
    · rw [obj_text hp fun p hpm => let ⟨⟨s, hs, _⟩, _⟩ := hes p hpm; ⟨s, hs⟩]
      refine scn_wrap 123 125 ⟨by decide, by decide, by decide⟩ ⟨by decide, by decide, by decide⟩ _ (scn_join _ fun y hy => ?_)
      obtain ⟨e, he, rfl⟩ := List.mem_map.1 hy
      unfold Sp.entT
      rw [scn_app _ _ _ _ (scn_quoT _), Sp.scn, stp_pl ⟨by decide, by decide, by decide⟩]
      exact ih _ _ (hes e he).2

/-- how many backslashes stand last -/
def Sp.trB (l : Sp.By) : Nat := (l.reverse.takeWhile (· == 92)).length
theorem trB_snoc (l : Sp.By) (c : UInt8) : Sp.trB (l ++ [c]) = if c == 92 then Sp.trB l + 1 else 0 := by
  unfold Sp.trB
  rw [List.reverse_append, List.reverse_cons, List.reverse_nil, List.nil_append, List.cons_append, List.nil_append, List.takeWhile_cons]
  split
  · rfl
  · rfl
/-- what the scan of the first bytes gives, a byte on -/
theorem scn_next (l : Sp.By) (st : Bool × Bool) (h : Sp.scn (false, false) l = some (false, false)) (i : Nat) (hi : i < l.length) (hs : Sp.scn (false, false) (l.take i) = some st) :
    ∃ st', Sp.stp st l[i] = some st' ∧ Sp.scn (false, false) (l.take (i + 1)) = some st' := by
  have e1 : Sp.scn (false, false) (l.take i ++ l.drop i) = Sp.scn st (l.drop i) := scn_app _ _ _ _ hs
  rw [List.take_append_drop, h, List.drop_eq_getElem_cons hi, Sp.scn] at e1
  cases hst : Sp.stp st l[i] with
  | none => rw [hst] at e1; cases e1
  | some st' =>
    refine ⟨st', rfl, ?_⟩
    rw [List.take_succ_eq_append_getElem hi, scn_app _ _ _ _ hs, Sp.scn, hst]
    rfl
theorem scn_odd (l : Sp.By) (h : Sp.scn (false, false) l = some (false, false)) : ∀ (i : Nat) (st : Bool × Bool), i ≤ l.length → Sp.scn (false, false) (l.take i) = some st → st.2 = decide (Sp.trB (l.take i) % 2 = 1) := by
  intro i
  induction i with
  | zero => intro st _ hs; rw [List.take_zero] at hs ⊢; injection hs with hs; subst hs; rfl
  | succ i ih =>
    intro st hi hs
    have hlt : i < l.length := by omega
    cases hp : Sp.scn (false, false) (l.take i) with
    | none =>
      have : Sp.scn (false, false) l = none := by
        have hn : ∀ (a b : Sp.By) (s0 : Bool × Bool), Sp.scn s0 a = none → Sp.scn s0 (a ++ b) = none := by
          intro a b
          induction a with
          | nil => intro s0 h; cases h
          | cons c r ihr =>
            intro s0 h
            rw [Sp.scn] at h
            rw [List.cons_append, Sp.scn]
            cases hc : Sp.stp s0 c with
            | none => rfl
            | some s1 => rw [hc] at h; exact ihr s1 h
        have := hn _ (l.drop i) _ hp
        rwa [List.take_append_drop] at this
      rw [this] at h; cases h
    | some st0 =>
      obtain ⟨st', h1, h2⟩ := scn_next l st0 h i hlt hp
      rw [h2] at hs
      injection hs with hs
      subst hs
      have h0 := ih st0 (by omega) hp
      rw [List.take_succ_eq_append_getElem hlt, trB_snoc]
      have h3 : st'.2 = (l[i] == 92 && !st0.2) := by
        unfold Sp.stp at h1
        simp only at h1
        generalize (if (l[i] == 34 && !st0.2) = true then !st0.1 else st0.1) = ins at h1
        split at h1
        · cases h1
        · injection h1 with h1; rw [← h1]
      rw [h3, h0]
      split
      · rename_i hc
        rw [hc, Bool.true_and, Bool.eq_iff_iff]
        simp
        omega
      · rename_i hc
        have : (l[i] == 92) = false := by simpa using hc
        rw [this]; rfl

end Go.Proofs.YtdpomdelmdofmaaGreatDoor

namespace Go.Proofs.YtdpomdelmdofmaaGreatDoor
open Go.RowKit

theorem trB_take {t : ByteArray} {j : Nat} (h : j < t.size) : Sp.trB (t.data.toList.take (j + 1)) = if t[j] == 92 then Sp.trB (t.data.toList.take j) + 1 else 0 := by
  have hl : j < t.data.toList.length := by simpa using h
  rw [List.take_succ_eq_append_getElem hl, trB_snoc]
  rfl

theorem odd_end (m : Nat) : Ending.returned (.bool ((m : Int) % 2 == 1)) = Ending.returned (.bool (decide ((m + 0) % 2 = 1))) := by
  congr 2
  rw [Bool.eq_iff_iff, beq_iff_eq, decide_eq_true_eq]
  omega

set_option maxHeartbeats 4000000 in
theorem escaped_any (t : ByteArray) (n : Nat) (hn : n ≤ t.size) (hs : t.size ≤ 80000) (w : World) :
    Calls Tryz.prog 20 #[.string t, .int .i64 n] w fun x w' => x = .returned (.bool (decide (Sp.trB (t.data.toList.take n) % 2 = 1))) ∧ Below w.heap.size w w' := by
  go_enter Tryz.func20, Tryz.ntmps20
  go_wp2_with (fail)
  go_loopw [5, 6] (fun k i wr => ∃ (j m : Nat), j ≤ n ∧ m ≤ n ∧ k = .int .i64 m ∧ (j = 0 ∧ i = .int .i64 (-1) ∨ ∃ j', j = j' + 1 ∧ i = .int .i64 (j' : Nat)) ∧ Sp.trB (t.data.toList.take n) = m + Sp.trB (t.data.toList.take j) ∧ m + j = n ∧ ∃ q, wr = w.drewN q) (fun _ i _ => (intOf i + 1).toNat)
  case atStart =>
    refine ⟨n, 0, by omega, by omega, rfl, ?_, by omega, by omega, 0, rfl⟩
    cases n with
    | zero => exact Or.inl ⟨rfl, rfl⟩
    | succ n => exact Or.inr ⟨n, rfl, by go_num⟩
  case round =>
    obtain ⟨j, m, hj, hm, rfl, hi, ht, hmj, q, rfl⟩ := hrel
    have HT := hide ht
    have HM := hide hmj
    clear ht hmj
    rcases hi with ⟨rfl, rfl⟩ | ⟨j', rfl, rfl⟩
    · go_wp2_with (fail)
      go_ret
      refine ⟨?_, ⟨rfl, rfl, rfl, Nat.le_refl _, fun _ _ => rfl⟩⟩
      rw [unhide HT]
      exact odd_end m
    · have hlt : j' < t.size := by omega
      have HE := hide (trB_take hlt)
      cases hc : (t[j'] == 92) with
      | true =>
        have e1 : ((t[j'].toNat : Int) == 92) = true := by
          have := eq_of_beq hc; rw [this]; rfl
        have HC := hide hc
        clear hc
        go_wp2_with (fail)
        refine ⟨⟨j', m + 1, by omega, by have := unhide HM; omega, by go_num, ?_, ?_, by have := unhide HM; omega, q, rfl⟩, ?_⟩
        · cases j' with
          | zero => exact Or.inl ⟨rfl, rfl⟩
          | succ k => exact Or.inr ⟨k, rfl, by go_num⟩
        · rw [unhide HT, unhide HE, unhide HC, if_pos rfl]; omega
        · simp only [intOf]; omega
      | false =>
        have e1 : ((t[j'].toNat : Int) == 92) = false := by
          simp at hc ⊢
          intro h; exact hc (UInt8.toNat_inj.1 (by exact_mod_cast h))
        have HC := hide hc
        clear hc
        go_wp2_with (fail)
        go_ret
        refine ⟨?_, ⟨rfl, rfl, rfl, Nat.le_refl _, fun _ _ => rfl⟩⟩
        rw [unhide HT, unhide HE, unhide HC, if_neg (by decide)]
        exact odd_end m

set_option maxHeartbeats 4000000 in
theorem config_any (a b : Int) (ha0 : -9223372036854775808 ≤ a) (ha1 : a ≤ 9223372036854775807) (hb0 : -9223372036854775808 ≤ b) (hb1 : b ≤ 9223372036854775807) (w : World) :
    Calls Tryz.prog 18 #[.int .i64 a, .int .i64 b, .int .i64 0] w fun x w' => (∃ (d e n : Nat), d < 20 ∧ e < 401 ∧ n < 2001 ∧ x = .returned (.agg #[.int .i64 ((d + 1 : Nat) : Int), .int .i64 e, .int .i64 n])) ∧ Below w.heap.size w w' := by
  go_enter Tryz.func18, Tryz.ntmps18
  go_wp2_with (fail)
  refine (pick_any a 20 ha0 ha1 (by omega) (by omega) _).mono ?_
  rintro x w1 ⟨⟨d, hd, rfl⟩, rfl⟩
  go_wp2_with (fail)
  refine (pick_any b 401 hb0 hb1 (by omega) (by omega) _).mono ?_
  rintro x w1 ⟨⟨e, he, rfl⟩, rfl⟩
  go_wp2_with (fail)
  refine (pick_any 0 2001 (by omega) (by omega) (by omega) (by omega) _).mono ?_
  rintro x w1 ⟨⟨n, hn, rfl⟩, rfl⟩
  go_wp2_with (fail)
  refine bodyPost_ret (v := .agg #[.int .i64 ((d + 1 : Nat) : Int), .int .i64 e, .int .i64 n]) (by simp [results, Tryz.results18, go_sem]; omega) rfl ⟨⟨d, e, n, hd, he, hn, rfl⟩, ?_⟩
  exact (Below.refl _ w).alloc (Nat.le_refl _) _

end Go.Proofs.YtdpomdelmdofmaaGreatDoor

namespace Go.Proofs.YtdpomdelmdofmaaGreatDoor
open Go.RowKit

theorem Scr.take {w : World} {sb so : Nat} {l : List Sp.St} (h : Scr w sb so l) (k : Nat) : Scr w sb so (l.take k) := by
  intro i hi
  have hi2 : i < l.length := by rw [List.length_take] at hi; omega
  have := h i hi2
  simpa using this
theorem Scr.low {w w' : World} {sb so B : Nat} {l : List Sp.St} (h : Scr w sb so l) (hb : Below B w w') (hs : sb < B) : Scr w' sb so l := by
  intro i hi
  obtain ⟨h1, h2, h3⟩ := h i hi
  exact ⟨(hb.cell (p := ⟨sb, _, none⟩) hs).trans h1, (hb.cell (p := ⟨sb, _, none⟩) hs).trans h2, (hb.cell (p := ⟨sb, _, none⟩) hs).trans h3⟩

/-- What Run leaves. -/
def RunEnd (m : Nat) (a : List Sp.Ans) (w : World) (x : Ending) (w' : World) : Prop := ∃ A cs, x = .returned (.slice (some ⟨A, 0, none⟩) m m) ∧ w.heap.size ≤ A ∧ w'.heap[A]? = some (.cells cs 46 (0, 0)) ∧ AnsC cs m a ∧ Below w.heap.size w w'

theorem Run_take {d e n : Int} {sb so k cap : Nat} {l : List Sp.St} {w : World} (hs : Scr w sb so l) (hpl : Plain l) (hk : k ≤ l.length) (hcap : k ≤ cap) (hb : k * 32 ≤ 281474976710656) (hsb : sb < w.heap.size) (hT : Laid w) :
    Calls Tryz.prog 24 #[.agg #[.int .i64 d, .int .i64 e, .int .i64 n], .slice (some ⟨sb, so, none⟩) k cap] w fun x w' => RunEnd k (Sp.run d e n none (l.take k)) w x w' := by
  by_cases h0 : k = 0
  · subst h0
    rw [List.take_zero]
    exact Run_nil
  · exact Run_some (hs.take k) (fun o ho => hpl o (List.mem_of_mem_take ho)) (by rw [List.length_take]; omega) (by omega) hcap hb hsb hT

theorem AnsC.at {w : World} {A n : Nat} {cs : Array Value} {a : List Sp.Ans} (h : AnsC cs n a) (hw : w.heap[A]? = some (.cells cs 46 (0, 0))) (i : Nat) (hi : i < a.length) :
    w.cell? ⟨A, i * 3, none⟩ = some (.int .i64 a[i].1) ∧ w.cell? ⟨A, i * 3 + 1, none⟩ = some (.int .i64 a[i].2.1) ∧ w.cell? ⟨A, i * 3 + 2, none⟩ = some (.string ⟨a[i].2.2.toArray⟩) := by
  have hcell : ∀ j, w.cell? ⟨A, j, none⟩ = cs[j]? := fun j => by simp [World.cell?, hw]
  rw [hcell, hcell, hcell]
  exact h.2 i hi

set_option maxRecDepth 100000 in
set_option maxHeartbeats 8000000 in
theorem Prefix_some {d e n c : Int} {sb so m cap : Nat} {l : List Sp.St} {w : World} (hs : Scr w sb so l) (hpl : Plain l) (hm : m = l.length) (hcap : m ≤ cap) (hb : m * 32 ≤ 281474976710656) (hcm : cap ≤ maxLen) (hsb : sb < w.heap.size) (hT : Laid w)
    (h0 : -9223372036854775808 ≤ c) (h1 : c ≤ 9223372036854775807) :
    Calls Tryz.prog 6 #[.agg #[.int .i64 d, .int .i64 e, .int .i64 n], .slice (some ⟨sb, so, none⟩) m cap, .int .i64 c] w fun x w' => x = .returned (.bool true) ∧ Below w.heap.size w w' := by
  have HPL := hide hpl
  have HM := hide hm
  have HS := hide hs
  have HT := hide hT
  have hng := hT.ng
  have hmb : (m : Int) ≤ 8796093022208 := by omega
  have hcb : (cap : Int) ≤ 9223372036854775807 := by unfold maxLen at hcm; omega
  have hz : (w.alloc (.cells #[.int .i64 d, .int .i64 e, .int .i64 n] 23)).heap[w.heap.size]? = some (.cells #[.int .i64 d, .int .i64 e, .int .i64 n] 23 (0, 0)) := heap_new _ _ _ rfl
  have hba : Below w.heap.size w (w.alloc (.cells #[.int .i64 d, .int .i64 e, .int .i64 n] 23)) := (Below.refl _ _).alloc (Nat.le_refl _) _
  clear hm hs hT hpl
  go_enter Tryz.func6, Tryz.ntmps6
  go_wp2_with (fail)
  refine (loading_any _ ((unhide HT).below (hba.mono hng))).mono ?_
  rintro x w1 ⟨rfl, hb1⟩
  have hz1 := (hb1.block w.heap.size (by simp)).trans hz
  have hb01 : Below w.heap.size w w1 := hba.trans (hb1.mono hba.size)
  have HB1 := hide hb01
  have hs1 : w.heap.size < w1.heap.size := (Array.getElem?_eq_some_iff.1 hz1).1
  have z0 : w1.cell? ⟨w.heap.size, 0, none⟩ = some (.int .i64 d) := by simp [World.cell?, hz1]
  have z1 : w1.cell? ⟨w.heap.size, 1, none⟩ = some (.int .i64 e) := by simp [World.cell?, hz1]
  have z2 : w1.cell? ⟨w.heap.size, 2, none⟩ = some (.int .i64 n) := by simp [World.cell?, hz1]
  clear hb1 hb01 hba hz
  go_wp2_with (fail)
  refine (pick_any c (m + 1) h0 h1 (by omega) (by omega) w1).mono ?_
  rintro x w1' ⟨⟨k, hk, rfl⟩, rfl⟩
  go_wp2_with (fail)
  have hrun := Run_take (d := d) (e := e) (n := n) (k := m) (cap := cap) ((unhide HS).low (unhide HB1) hsb) (unhide HPL) (Nat.le_of_eq (unhide HM)) hcap hb (by omega) ((unhide HT).below ((unhide HB1).mono hng))
  rw [List.take_of_length_le (Nat.le_of_eq (unhide HM).symm)] at hrun
  refine hrun.mono ?_
  rintro x w2 ⟨A, cs, rfl, hA, hrow, hans, hb2⟩
  have y0 := (hb2.cell (p := ⟨w.heap.size, 0, none⟩) hs1).trans z0
  have y1 := (hb2.cell (p := ⟨w.heap.size, 1, none⟩) hs1).trans z1
  have y2 := (hb2.cell (p := ⟨w.heap.size, 2, none⟩) hs1).trans z2
  have HB2 := hide ((unhide HB1).trans (hb2.mono (by omega)))
  have hs2 : w.heap.size < w2.heap.size := by have := hb2.size; omega
  have HROW := hide hrow
  have HANS := hide hans
  have hAl : A < w2.heap.size := (Array.getElem?_eq_some_iff.1 hrow).1
  have hkc : (k : Int) ≤ (cap : Int) := by omega
  have hkc2 : k ≤ cap := by omega
  clear z0 z1 z2 hz1 hrow hans hb2 hrun
  have HRUN := hide (fun (w0 : World) (h1 : Below w.heap.size w w0) => Run_take (d := d) (e := e) (n := n) (k := k) (cap := cap) ((unhide HS).low h1 hsb) (unhide HPL) (by have := unhide HM; omega) hkc2 (by omega) (by have := h1.size; omega) ((unhide HT).below (h1.mono hng)))
  go_wp2_with (fail)
  go_region_with (go_at_call 24; refine (unhide HRUN _ ?_).mono ?_; exact (unhide HB2).drew; rintro x w3 ⟨B, cs', rfl, hB, hrow', hans', hb3⟩)
  all_goals (
    replace hb3 : Below w2.heap.size w2 w3 := ⟨hb3.os, hb3.tape, hb3.output, hb3.size, hb3.block⟩
    replace hB : w2.heap.size ≤ B := hB
    have hrowA : w3.heap[A]? = some (.cells cs 46 (0, 0)) := (hb3.block A hAl).trans (unhide HROW)
    have HB3 := hide ((unhide HB2).trans (hb3.mono (by omega)))
    have ha := fun i (hi : i < (Sp.run d e n none l).length) => (unhide HANS).at hrowA i hi
    have hbb := fun i (hi : i < (Sp.run d e n none (l.take k)).length) => hans'.at hrow' i hi
    have hra : (Sp.run d e n none l).length = l.length := Sp.run_len _ _ _ _ _
    have hrb : (Sp.run d e n none (l.take k)).length = k := by rw [Sp.run_len, List.length_take]; have := unhide HM; omega
    have hml := unhide HM
    have HEQ : Hid (∀ i (hi : i < k), ∃ (u p : Nat) (v : Sp.By), w3.cell? ⟨A, i * 3, none⟩ = some (.int .i64 u) ∧ w3.cell? ⟨A, i * 3 + 1, none⟩ = some (.int .i64 p) ∧ w3.cell? ⟨A, i * 3 + 2, none⟩ = some (.string ⟨v.toArray⟩) ∧
        w3.cell? ⟨B, i * 3, none⟩ = some (.int .i64 u) ∧ w3.cell? ⟨B, i * 3 + 1, none⟩ = some (.int .i64 p) ∧ w3.cell? ⟨B, i * 3 + 2, none⟩ = some (.string ⟨v.toArray⟩)) := by
      intro i hi
      have hi1 : i < (Sp.run d e n none l).length := by omega
      have hi2 : i < (Sp.run d e n none (l.take k)).length := by omega
      obtain ⟨a1, a2, a3⟩ := ha i hi1
      obtain ⟨b1, b2, b3⟩ := hbb i hi2
      have he : (Sp.run d e n none (l.take k))[i] = (Sp.run d e n none l)[i] := by simp [Sp.run_take]
      rw [he] at b1 b2 b3
      exact ⟨_, _, _, a1, a2, a3, b1, b2, b3⟩
    clear ha hbb hra hrb hml hrowA hrow' hans' y0 y1 y2 HROW HANS HRUN hb3
    go_wp2_with (fail)
    go_loopw [11] (fun i wr => ∃ j : Nat, j ≤ k ∧ i = .int .i64 j ∧ ∃ q, wr = w3.drewN q) (fun i _ => k - (intOf i).toNat)
    case atStart => exact ⟨0, by omega, rfl, 0, rfl⟩
    case round =>
      obtain ⟨j, hj, rfl, q, rfl⟩ := hrel
      by_cases hlt : j < k
      · obtain ⟨u, p, v, a1, a2, a3, b1, b2, b3⟩ := unhide HEQ j hlt
        go_wp2_with (fail)
        go_quiet (fail)
        go_wp2_with (fail)
        exact ⟨⟨j + 1, by omega, by go_num, _, rfl⟩, by simp [intOf]; omega⟩
      · go_wp2_with (fail)
        go_ret
        have hb3 := unhide HB3
        exact ⟨rfl, ⟨hb3.os, hb3.tape, hb3.output, hb3.size, hb3.block⟩⟩)

set_option maxRecDepth 100000 in
set_option maxHeartbeats 8000000 in
theorem Prefix_nil {d e n c : Int} {pa : Option Addr} {cap : Nat} {w : World} (hpa : pa = none → cap = 0) (hcm : cap ≤ maxLen) (hT : Laid w)
    (h0 : -9223372036854775808 ≤ c) (h1 : c ≤ 9223372036854775807) :
    Calls Tryz.prog 6 #[.agg #[.int .i64 d, .int .i64 e, .int .i64 n], .slice pa 0 cap, .int .i64 c] w fun x w' => x = .returned (.bool true) ∧ Below w.heap.size w w' := by
  have HT := hide hT
  have hng := hT.ng
  have hcb : (cap : Int) ≤ 9223372036854775807 := by unfold maxLen at hcm; omega
  have hz : (w.alloc (.cells #[.int .i64 d, .int .i64 e, .int .i64 n] 23)).heap[w.heap.size]? = some (.cells #[.int .i64 d, .int .i64 e, .int .i64 n] 23 (0, 0)) := heap_new _ _ _ rfl
  have hba : Below w.heap.size w (w.alloc (.cells #[.int .i64 d, .int .i64 e, .int .i64 n] 23)) := (Below.refl _ _).alloc (Nat.le_refl _) _
  clear hT
  have hgo : ∀ (pa : Option Addr) (cap : Nat), Hid (cap ≤ maxLen) → Hid ((cap : Int) ≤ 9223372036854775807) → (pa = none ∧ cap = 0 ∨ ∃ a, pa = some a) → Calls Tryz.prog 6 #[.agg #[.int .i64 d, .int .i64 e, .int .i64 n], .slice pa 0 cap, .int .i64 c] w fun x w' => x = .returned (.bool true) ∧ Below w.heap.size w w' := by
    intro pa cap Hcm Hcb hcase
    clear hcb hcm hpa
    have hcb := unhide Hcb
    rcases hcase with ⟨rfl, rfl⟩ | ⟨a, rfl⟩
    all_goals (
      go_enter Tryz.func6, Tryz.ntmps6
      go_wp2_with (fail)
      refine (loading_any _ ((unhide HT).below (hba.mono hng))).mono ?_
      rintro x w1 ⟨rfl, hb1⟩
      have hz1 := (hb1.block w.heap.size (by simp)).trans hz
      have hb01 : Below w.heap.size w w1 := hba.trans (hb1.mono hba.size)
      have HB1 := hide hb01
      have hs1 : w.heap.size < w1.heap.size := (Array.getElem?_eq_some_iff.1 hz1).1
      have z0 : w1.cell? ⟨w.heap.size, 0, none⟩ = some (.int .i64 d) := by simp [World.cell?, hz1]
      have z1 : w1.cell? ⟨w.heap.size, 1, none⟩ = some (.int .i64 e) := by simp [World.cell?, hz1]
      have z2 : w1.cell? ⟨w.heap.size, 2, none⟩ = some (.int .i64 n) := by simp [World.cell?, hz1]
      clear hb1 hb01 hz1
      go_wp2_with (fail)
      refine (pick_any c 1 h0 h1 (by omega) (by omega) w1).mono ?_
      rintro x w1' ⟨⟨k, hk, rfl⟩, rfl⟩
      obtain rfl : k = 0 := by omega
      go_wp2_with (fail)
      refine Run_nil.mono ?_
      rintro x w2 ⟨A, cs, rfl, hA, hrow, hans, hb2⟩
      have y0 := (hb2.cell (p := ⟨w.heap.size, 0, none⟩) hs1).trans z0
      have y1 := (hb2.cell (p := ⟨w.heap.size, 1, none⟩) hs1).trans z1
      have y2 := (hb2.cell (p := ⟨w.heap.size, 2, none⟩) hs1).trans z2
      have HB2 := hide ((unhide HB1).trans (hb2.mono (by omega)))
      have hs2 : w.heap.size < w2.heap.size := by have := hb2.size; omega
      clear z0 z1 z2 hrow hans hb2
      go_wp2_with (fail)
      go_region_with (go_at_call 24; refine Run_nil.mono ?_; rintro x w3 ⟨B, cs', rfl, hB, hrow', hans', hb3⟩)
      all_goals (
        replace hb3 : Below w2.heap.size w2 w3 := ⟨hb3.os, hb3.tape, hb3.output, hb3.size, hb3.block⟩
        have HB3 := hide ((unhide HB2).trans (hb3.mono (by omega)))
        clear y0 y1 y2 hb3 hrow' hans'
        go_wp2_with (fail)
        refine wp_loop_rounds 1 ?_
        rw [rounds_succ]
        go_wp2_with (fail)
        go_ret
        exact ⟨rfl, unhide HB3⟩))
  refine hgo pa cap hcm hcb ?_
  cases pa with
  | none => exact Or.inl ⟨rfl, hpa rfl⟩
  | some a => exact Or.inr ⟨a, rfl⟩

end Go.Proofs.YtdpomdelmdofmaaGreatDoor
