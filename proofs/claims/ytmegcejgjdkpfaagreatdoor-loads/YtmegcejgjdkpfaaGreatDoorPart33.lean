/-
  What reading to a depth comes to, by the reference's reader; a value that is read without an error.
  Walk of the reference's Read.
  Walks of the reference's quoted and (*Val).told.
-/
import Derived.Test.YtmegcejgjdkpfaaGreatDoorPart32
namespace Go.Proofs.YtmegcejgjdkpfaaGreatDoor
open Go.RowKit

theorem maxs_lt (b : Int) (l : List Int) : ∀ a, decide (b < Sp.maxs a l) = (decide (b < a) || l.any (fun x => decide (b < x))) := by
  induction l with
  | nil => intro a; show decide (b < a) = (decide (b < a) || false); rw [Bool.or_false]
  | cons x r ih =>
    intro a
    show decide (b < Sp.maxs (max a x) r) = _
    rw [ih, List.any_cons, ← Bool.or_assoc]
    congr 1
    rw [Bool.eq_iff_iff]
    simp only [decide_eq_true_eq, Bool.or_eq_true]
    omega
theorem any_congr' {α : Type} {p q : α → Bool} {l : List α} (h : ∀ x ∈ l, p x = q x) : l.any p = l.any q := by
  induction l with
  | nil => rfl
  | cons a r ih => rw [List.any_cons, List.any_cons, h a (by simp), ih fun x hx => h x (by simp [hx])]
theorem fao_exo (mo : Int) (hmo : 0 ≤ mo ∧ mo ≤ 400) (f : Nat) : ∀ o, Sp.nrO f o → Sp.faO mo f o = decide (mo < Sp.exO f o) := by
  induction f with
  | zero => intro o h; exact h.elim
  | succ f ih =>
    intro o h
    have h0 : decide (mo < 0) = false := decide_eq_false (by omega)
    rcases h with ⟨k, _, rfl⟩ | ⟨n, x, rfl, hn⟩ | ⟨s, rfl⟩ | ⟨es, rfl, hes⟩ | ⟨es, rfl, hes⟩
    · exact h0.symm
    · show (decide (x < -mo) || decide (mo < x)) = decide (mo < max n.2.2 (-n.2.2))
      rw [Bool.eq_iff_iff]
      simp only [decide_eq_true_eq, Bool.or_eq_true]
      unfold Near at hn
      omega
    · exact h0.symm
    · show es.any (Sp.faO mo f) = decide (mo < Sp.maxs 0 (es.map (Sp.exO f)))
      rw [maxs_lt, h0, Bool.false_or, List.any_map]
      exact any_congr' fun x hx => ih x (hes x hx)
    · show (Sp.lits es).any (fun p => Sp.faO mo f p.2) = decide (mo < Sp.maxs 0 ((Sp.lits es).map fun p => Sp.exO f p.2))
      rw [maxs_lt, h0, Bool.false_or, List.any_map]
      unfold Sp.lits
      rw [List.any_map, List.any_map]
      exact any_congr' fun p hp => ih p.2 (hes p hp)

theorem readTo_r (t : Sp.By) (d x : Int) (hx : 0 ≤ x ∧ x ≤ 400) : Sp.readTo t d x = if 2000 < t.length then (4, none) else match Sp.rval top (Sp.skB t) with
    | none => (5, none)
    | some (o, r) => if (Sp.skB r).isEmpty then (if Sp.twO top o then (6, none) else if d < Sp.dpO top o then (7, none) else if Sp.faO x top o then (8, none) else (0, some (Sp.nrm top o))) else (5, none) := by
  unfold Sp.readTo
  by_cases h1 : 2000 < t.length
  · rw [if_pos h1, if_pos h1]
  · rw [if_neg h1, if_neg h1, val_rval top 1 (Sp.skB t) (false, (0, 0)) (Int.le_refl _)]
    cases h : Sp.rval top (Sp.skB t) with
    | none => rfl
    | some y =>
      obtain ⟨o, r⟩ := y
      have hnr := rval_near top _ _ _ (by have := Sp.skB_len t; omega) h
      have hd := (dpO_bd top o).1
      have e1 : (Sp.flO top 1 (false, (0, 0)) o).1 = Sp.twO top o := by unfold Sp.flO; simp
      have e2 : (d < (Sp.flO top 1 (false, (0, 0)) o).2.1) ↔ (d < Sp.dpO top o) := by unfold Sp.flO; simp only; omega
      have e3 : (x < (Sp.flO top 1 (false, (0, 0)) o).2.2) ↔ (Sp.faO x top o = true) := by
        rw [fao_exo x hx top o hnr, decide_eq_true_eq]
        unfold Sp.flO; simp only; omega
      simp only [Option.map_some, e1, e2, e3]

/-- a value that is read without an error -/
def Sp.goO : Nat → Sp.O → Prop
  | 0, _ => False
  | f + 1, o => (∃ k, k < 3 ∧ o = Sp.oWord k) ∨ (∃ n : Sp.Nm, o = Sp.oNum n n.2.2 ∧ -400 ≤ n.2.2 ∧ n.2.2 ≤ 400) ∨ (∃ s, o = Sp.oStr s) ∨ (∃ es, o = Sp.oArr es ∧ ∀ e ∈ es, Sp.goO f e) ∨
      (∃ es : Sp.Ms, o = Sp.oObj es ∧ (es.map (·.1)).Nodup ∧ ∀ p ∈ es, Sp.goO f p.2)

theorem dup_no (l : List Sp.By) : ∀ seen : List Sp.By, Sp.dup (seen.map fun k => Lit.string k) (l.map fun k => Lit.string k) = false → l.Nodup ∧ ∀ k ∈ l, k ∉ seen := by
  induction l with
  | nil => intro seen _; exact ⟨List.nodup_nil, fun k hk => absurd hk (by simp)⟩
  | cons a r ih =>
    intro seen h
    rw [List.map_cons, Sp.dup, Bool.or_eq_false_iff] at h
    obtain ⟨h1, h2⟩ := h
    have h3 := ih (seen ++ [a]) (by rw [List.map_append]; exact h2)
    have ha : a ∉ seen := by
      intro hm
      have : (seen.map fun k => Lit.string k).any (fun p => p.sameKey (.string a)) = true := List.any_eq_true.2 ⟨.string a, List.mem_map.2 ⟨a, hm, rfl⟩, by simp [Lit.sameKey]⟩
      rw [this] at h1; cases h1
    refine ⟨List.nodup_cons.2 ⟨fun hm => h3.2 a hm (by simp), h3.1⟩, fun k hk => ?_⟩
    rcases List.mem_cons.1 hk with rfl | hk
    · exact ha
    · exact fun hm => h3.2 k hk (by simp [hm])
theorem go_of (mo : Int) (hmo : 0 ≤ mo ∧ mo ≤ 400) (f : Nat) : ∀ o, Sp.nrO f o → Sp.twO f o = false → Sp.faO mo f o = false → Sp.goO f o := by
  induction f with
  | zero => intro o h; exact h.elim
  | succ f ih =>
    intro o h ht hf
    rcases h with ⟨k, hk, rfl⟩ | ⟨n, x, rfl, hn⟩ | ⟨s, rfl⟩ | ⟨es, rfl, hes⟩ | ⟨es, rfl, hes⟩
    · exact Or.inl ⟨k, hk, rfl⟩
    · have h2 : (decide (x < -mo) || decide (mo < x)) = false := hf
      rw [Bool.or_eq_false_iff, decide_eq_false_iff_not, decide_eq_false_iff_not] at h2
      unfold Near at hn
      have : n.2.2 = x := by omega
      subst this
      exact Or.inr (Or.inl ⟨n, rfl, by omega, by omega⟩)
    · exact Or.inr (Or.inr (Or.inl ⟨s, rfl⟩))
    · have t2 : es.any (Sp.twO f) = false := ht
      have f2 : es.any (Sp.faO mo f) = false := hf
      rw [List.any_eq_false] at t2 f2
      exact Or.inr (Or.inr (Or.inr (Or.inl ⟨es, rfl, fun e he => ih e (hes e he) (by simpa using t2 e he) (by simpa using f2 e he)⟩)))
    · have t2 : ((Sp.lits es).any (fun p => Sp.twO f p.2) || Sp.dup [] ((Sp.lits es).map (·.1))) = false := ht
      have f2 : (Sp.lits es).any (fun p => Sp.faO mo f p.2) = false := hf
      rw [Bool.or_eq_false_iff] at t2
      obtain ⟨t2, t3⟩ := t2
      unfold Sp.lits at t2 f2 t3
      rw [List.any_map, List.any_eq_false] at t2 f2
      have t4 : (Sp.lits es).map (·.1) = (es.map (·.1)).map fun k => Lit.string k := by unfold Sp.lits; rw [List.map_map, List.map_map]; rfl
      have t5 := (dup_no (es.map (·.1)) [] (by rw [← t4]; exact t3)).1
      exact Or.inr (Or.inr (Or.inr (Or.inr ⟨es, rfl, t5, fun p hp => ih p.2 (hes p hp) (by simpa using t2 p hp) (by simpa using f2 p hp)⟩)))

end Go.Proofs.YtmegcejgjdkpfaaGreatDoor

namespace Go.Proofs.YtmegcejgjdkpfaaGreatDoor
open Go.RowKit

/-- How a call of the reference's Read ends. -/
def RfEnd (s : Sp.By) (d x : Int) (w : World) (e : Ending) (w' : World) : Prop :=
  Below w.heap.size w w' ∧ ((∃ c : Nat, 0 < c ∧ Sp.readTo s d x = (c, none) ∧ e = .returned (.tuple #[.pointer none, .int .i64 c])) ∨
   (∃ (p : Addr) (o : Sp.O), Sp.readTo s d x = (0, some (Sp.nrm top o)) ∧ e = .returned (.tuple #[.pointer (some p), .int .i64 0]) ∧ ORep top (fun k => w.heap.size ≤ k) w' (.pointer (some p)) o ∧ Sp.goO top o))
theorem RfEnd.err {s : Sp.By} {d x : Int} {w w' : World} {c : Nat} (h : Sp.readTo s d x = (c, none)) (hc : 0 < c) (hb : Below w.heap.size w w') : RfEnd s d x w (.returned (.tuple #[.pointer none, .int .i64 c])) w' := ⟨hb, Or.inl ⟨c, hc, h, rfl⟩⟩

set_option maxRecDepth 100000 in
set_option maxHeartbeats 8000000 in
theorem rRead_any (s : Sp.By) (d x : Int) (hx : 0 ≤ x ∧ x ≤ 400) (w : World) :
    Calls Tryz.prog 48 #[.string ⟨s.toArray⟩, .int .i64 d, .int .i64 x, .int .i64 2000] w fun e w' => RfEnd s d x w e w' := by
  have hrt := readTo_r s d x hx
  have hbs : (⟨s.toArray⟩ : ByteArray).size = s.length := bs_size s
  by_cases hl : 2000 < s.length
  · rw [if_pos hl] at hrt
    have HRT := hide hrt
    have e0 : decide ((2000 : Int) < (s.length : Int)) = true := decide_eq_true (by omega)
    clear hrt
    go_enter Tryz.func48, Tryz.ntmps48
    go_wp2_with (fail)
    go_ret2
    exact RfEnd.err (unhide HRT) (Nat.succ_pos _) (Below.refl _ _)
  · rw [if_neg hl] at hrt
    have HRT := hide hrt
    have e0 : decide ((2000 : Int) < (s.length : Int)) = false := decide_eq_false (by omega)
    have hsl : s.length ≤ 2000 := by omega
    have HU := hide (fun w => rUtf8_any ⟨s.toArray⟩ (by rw [hbs]; exact hsl) w)
    have HAT := hide (show At ⟨s.toArray⟩ 0 s from ⟨by rw [hbs]; exact hsl, Nat.zero_le _, by simp⟩)
    have hsk := Sp.skB_len s
    have htop : top ≤ 2001 ∧ 2001 ≤ top := by rw [top_eq]; omega
    have HBS := hide hbs
    clear hrt hl hbs
    go_enter Tryz.func48, Tryz.ntmps48
    go_wp2_with (fail)
    refine (unhide HU _).mono ?_
    rintro e w1 ⟨rfl, hb1⟩
    obtain ⟨w2, hw2⟩ : ∃ w2, w2 = w1.alloc (.cells #[.string ⟨s.toArray⟩, .int .i64 x, .bool false, .bool false] 108) := ⟨_, rfl⟩
    have hr2 : RB w2 w1.heap.size ⟨s.toArray⟩ x false false := by rw [hw2]; exact heap_new _ _ _ rfl
    have hb2 : Below w.heap.size w w2 := by rw [hw2]; exact hb1.alloc hb1.size _
    have hs1 := hb1.size
    have HR2 := hide hr2
    have HB2 := hide hb2
    have HW2 := hide hw2
    clear hb1 hr2 hb2 hw2 HU
    go_wp2_with (fail)
    rw [← unhide HW2]
    refine (rOver_any (unhide HR2).rs (unhide HAT)).mono ?_
    rintro e w3 ⟨⟨q, rfl, hq⟩, rfl⟩
    have HQ := hide hq
    clear hq
    go_wp2_with (fail)
    refine (oValue_ok top _ _ _ _ _ _ _ _ (unhide HR2) (unhide HQ) hx (by omega)).mono ?_
    rintro e w4 ⟨hk4, hc⟩
    have hb4 : Below w.heap.size w w4 := (unhide HB2).trans (hk4.below hs1 (unhide HB2).size)
    have HB4 := hide hb4
    rcases hc with ⟨o, r, V, q2, hs, rfl, hat2, hrep, hrb⟩ | ⟨hs, rfl, tw', far', hrb⟩
    · have hut := u8_of_rval (f := top) (s := s) (r := r) (o := o) hs
      have hnr := rval_near top _ _ _ (by omega) hs
      have HRT2 := hide (show Sp.readTo s d x = if (Sp.skB r).isEmpty then (if Sp.twO top o then (6, none) else if d < Sp.dpO top o then (7, none) else if Sp.faO x top o then (8, none) else (0, some (Sp.nrm top o))) else (5, none) by rw [unhide HRT, hs])
      have HREP := hide (hrep.move (F' := fun k => w.heap.size ≤ k) (w' := w4) fun k h1 _ => ⟨rfl, by have := (unhide HB2).size; omega⟩)
      have HRB := hide hrb
      have HAT2 := hide hat2
      have HNR := hide hnr
      clear hs hat2 hrep hrb hnr hk4 hb4
      cases hu : Sp.u8 s with
      | false =>
        have hem : (Sp.skB r).isEmpty = false := by
          cases h : (Sp.skB r).isEmpty with
          | false => rfl
          | true => rw [hut h] at hu; cases hu
        have HF := hide (show Sp.readTo s d x = (5, none) by rw [unhide HRT2, if_neg (by rw [hem]; decide)])
        clear hut hem
        simp only
        clear hu
        go_wp2_with (fail)
        go_ret2
        exact RfEnd.err (unhide HF) (Nat.succ_pos _) (unhide HB4)
      | true =>
        clear hut
        simp only
        clear hu
        go_wp2_with (fail)
        refine (rOver_any (unhide HRB).rs (unhide HAT2)).mono ?_
        rintro e w5 ⟨⟨q3, rfl, hq3⟩, rfl⟩
        cases hem : (Sp.skB r).isEmpty with
        | false =>
          have hq3l := hq3.len
          have hq3e := hq3.le
          have hne : (Sp.skB r).length ≠ 0 := by
            intro h; rw [List.length_eq_zero_iff.1 h] at hem; cases hem
          rw [unhide HBS] at hq3l hq3e
          have e1 : ((q3 : Int) == (s.length : Int)) = false := by rw [beq_eq_false_iff_ne]; omega
          have HF := hide (show Sp.readTo s d x = (5, none) by rw [unhide HRT2, if_neg (by rw [hem]; decide)])
          clear hem hq3
          go_wp2_with (fail)
          go_ret2
          exact RfEnd.err (unhide HF) (Nat.succ_pos _) (unhide HB4)
        | true =>
          have hq3l := hq3.len
          have hq3e := hq3.le
          have hne : (Sp.skB r).length = 0 := by rw [List.isEmpty_iff.1 hem]; rfl
          rw [unhide HBS] at hq3l hq3e
          have hqs : q3 = s.length := by omega
          subst hqs
          have HRT3 := hide (show Sp.readTo s d x = (if Sp.twO top o then (6, none) else if d < Sp.dpO top o then (7, none) else if Sp.faO x top o then (8, none) else (0, some (Sp.nrm top o))) by rw [unhide HRT2, if_pos hem])
          clear hem hq3 hne hq3l hq3e
          go_wp2_with (fail)
          refine (depth_ok top _ _ _ _ (unhide HREP) (by omega)).mono ?_
          rintro e w6 ⟨rfl, rfl⟩
          have k2 := (unhide HRB).c2
          have k3 := (unhide HRB).c3
          cases ht : Sp.twO top o with
          | true =>
            have HF := hide (show Sp.readTo s d x = (6, none) by rw [unhide HRT3, if_pos ht])
            rw [ht] at k2
            clear ht k3
            go_wp2_with (fail)
            go_ret2
            exact RfEnd.err (unhide HF) (Nat.succ_pos _) (unhide HB4)
          | false =>
            rw [ht] at k2
            by_cases hd : d < Sp.dpO top o
            · have HF := hide (show Sp.readTo s d x = (7, none) by rw [unhide HRT3, if_neg (by rw [ht]; decide), if_pos hd])
              have e1 : decide (d < Sp.dpO top o) = true := decide_eq_true hd
              clear ht k3 hd
              go_wp2_with (fail)
              go_ret2
              exact RfEnd.err (unhide HF) (Nat.succ_pos _) (unhide HB4)
            · have e1 : decide (d < Sp.dpO top o) = false := decide_eq_false hd
              cases hf : Sp.faO x top o with
              | true =>
                have HF := hide (show Sp.readTo s d x = (8, none) by rw [unhide HRT3, if_neg (by rw [ht]; decide), if_neg hd, if_pos hf])
                rw [hf] at k3
                clear ht hd hf
                go_wp2_with (fail)
                go_ret2
                exact RfEnd.err (unhide HF) (Nat.succ_pos _) (unhide HB4)
              | false =>
                have HF := hide (show Sp.readTo s d x = (0, some (Sp.nrm top o)) by rw [unhide HRT3, if_neg (by rw [ht]; decide), if_neg hd, if_neg (by rw [hf]; decide)])
                have HG := hide (go_of x hx top o (unhide HNR) ht hf)
                rw [hf] at k3
                clear ht hd hf
                go_wp2_with (fail)
                go_ret2
                exact ⟨unhide HB4, Or.inr ⟨_, o, unhide HF, rfl, unhide HREP, unhide HG⟩⟩
    · have HF := hide (show Sp.readTo s d x = (5, none) by rw [unhide HRT, hs])
      clear hs hrb hk4 hb4
      cases hu : Sp.u8 s with
      | false =>
        simp only
        clear hu
        go_wp2_with (fail)
        go_ret2
        exact RfEnd.err (unhide HF) (Nat.succ_pos _) (unhide HB4)
      | true =>
        simp only
        clear hu
        go_wp2_with (fail)
        go_ret2
        exact RfEnd.err (unhide HF) (Nat.succ_pos _) (unhide HB4)

end Go.Proofs.YtmegcejgjdkpfaaGreatDoor

namespace Go.Proofs.YtmegcejgjdkpfaaGreatDoor
open Go.RowKit

theorem one_ext (t : ByteArray) (k : Nat) (h : k < t.size) : t.extract k (k + 1) = ⟨[t[k]].toArray⟩ := by
  have e := ext_list t k 1
  rw [drop_cons t k h] at e
  rw [show [t[k]] = (t[k] :: t.data.toList.drop (k + 1)).take 1 from rfl, ← e, Array.toArray_toList]
theorem esc_take (t : ByteArray) (k : Nat) (h : k < t.size) : Sp.escS (t.data.toList.take (k + 1)) = Sp.escS (t.data.toList.take k) ++ Sp.escB t[k] := Sp.escS_take t.data.toList k (by simpa using h)
theorem nib (j : Nat) (hj : j < 16) : ∃ s : ByteArray, s.data.toList = [Sp.hexc j] ∧ s.size = 1 ∧ ∀ w : World, (Instr.slice 9 (.string ⟨#[48, 49, 50, 51, 52, 53, 54, 55, 56, 57, 97, 98, 99, 100, 101, 102]⟩) (some (.int .i64 j)) (some (.int .i64 ((j : Int) + 1))) none).run Tryz.prog w = .ok (.string s) w := by
  match j, hj with
  | 0, _ => exact ⟨⟨#[48]⟩, rfl, rfl, fun w => by kernel_rfl⟩
  | 1, _ => exact ⟨⟨#[49]⟩, rfl, rfl, fun w => by kernel_rfl⟩
  | 2, _ => exact ⟨⟨#[50]⟩, rfl, rfl, fun w => by kernel_rfl⟩
  | 3, _ => exact ⟨⟨#[51]⟩, rfl, rfl, fun w => by kernel_rfl⟩
  | 4, _ => exact ⟨⟨#[52]⟩, rfl, rfl, fun w => by kernel_rfl⟩
  | 5, _ => exact ⟨⟨#[53]⟩, rfl, rfl, fun w => by kernel_rfl⟩
  | 6, _ => exact ⟨⟨#[54]⟩, rfl, rfl, fun w => by kernel_rfl⟩
  | 7, _ => exact ⟨⟨#[55]⟩, rfl, rfl, fun w => by kernel_rfl⟩
  | 8, _ => exact ⟨⟨#[56]⟩, rfl, rfl, fun w => by kernel_rfl⟩
  | 9, _ => exact ⟨⟨#[57]⟩, rfl, rfl, fun w => by kernel_rfl⟩
  | 10, _ => exact ⟨⟨#[97]⟩, rfl, rfl, fun w => by kernel_rfl⟩
  | 11, _ => exact ⟨⟨#[98]⟩, rfl, rfl, fun w => by kernel_rfl⟩
  | 12, _ => exact ⟨⟨#[99]⟩, rfl, rfl, fun w => by kernel_rfl⟩
  | 13, _ => exact ⟨⟨#[100]⟩, rfl, rfl, fun w => by kernel_rfl⟩
  | 14, _ => exact ⟨⟨#[101]⟩, rfl, rfl, fun w => by kernel_rfl⟩
  | 15, _ => exact ⟨⟨#[102]⟩, rfl, rfl, fun w => by kernel_rfl⟩
  | j + 16, h => omega
theorem escB_plain {c : UInt8} (h1 : c ≠ 34) (h2 : c ≠ 92) (h3 : ¬ c.toNat < 32) : Sp.escB c = [c] := by
  unfold Sp.escB
  rw [if_neg (fun h => h.elim (fun h => h1 (UInt8.toNat_inj.1 h)) (fun h => h2 (UInt8.toNat_inj.1 h))), if_neg h3]
theorem escB_ctl {c : UInt8} (h3 : c.toNat < 32) : Sp.escB c = [92, 117, 48, 48, Sp.hexc (c.toNat / 16), Sp.hexc (c.toNat % 16)] := by
  unfold Sp.escB
  rw [if_neg (by omega), if_pos h3]

set_option maxRecDepth 100000 in
set_option maxHeartbeats 8000000 in
theorem rQuoted_t (t : ByteArray) (n : Nat) (hn : n = t.size) (hn2 : n ≤ 80000) (w : World) :
    Calls Tryz.prog 50 #[.string t] w fun e w' => (∃ A : ByteArray, e = .returned (.string A) ∧ A.data.toList = Sp.quoT t.data.toList) ∧ Below w.heap.size w w' := by
  have HN := hide hn
  have hle : n ≤ t.size := by omega
  have hge : t.size ≤ n := by omega
  clear hn
  go_enter Tryz.func50, Tryz.ntmps50
  go_wp2_with (fail)
  go_loopw [3, 4] (fun o i wr => ∃ (k : Nat) (A : ByteArray), k ≤ n ∧ i = .int .i64 k ∧ o = .string A ∧ A.data.toList = 34 :: Sp.escS (t.data.toList.take k) ∧ A.size ≤ 1 + 6 * k ∧ ∃ m, wr = w.drewN m) (fun _ i _ => n - (intOf i).toNat)
  case atStart => exact ⟨0, ⟨#[34]⟩, by omega, rfl, rfl, rfl, by decide, 0, rfl⟩
  case round =>
    obtain ⟨k, A, hk, rfl, rfl, hA, hAs, m, rfl⟩ := hrel
    have HA := hide hA
    clear hA
    by_cases hlt : k < n
    · have hks : k < t.size := by omega
      have hx := one_ext t k hks
      have hst := hide (esc_take t k hks)
      obtain ⟨c, hc⟩ : ∃ c, t[k] = c := ⟨_, rfl⟩
      rw [hc] at hx hst
      by_cases h1 : c = 34
      · subst h1
        have HC := hide hc
        go_wp2_with (fail)
        exact ⟨⟨k + 1, _, by omega, by go_num, rfl, by rw [app_list, app_list, unhide HA, unhide hst]; simp [Sp.escB], by simp only [ByteArray.size_append]; have : (⟨#[92]⟩ : ByteArray).size = 1 := rfl; have : (⟨#[34]⟩ : ByteArray).size = 1 := rfl; omega, m, rfl⟩, by simp only [intOf]; omega⟩
      · have e1 : (c == 34) = false := beq_eq_false_iff_ne.2 h1
        have H1 := hide h1
        clear h1
        by_cases h2 : c = 92
        · subst h2
          go_wp2_with (fail)
          exact ⟨⟨k + 1, _, by omega, by go_num, rfl, by rw [app_list, app_list, unhide HA, unhide hst]; simp [Sp.escB], by simp only [ByteArray.size_append]; have : (⟨#[92]⟩ : ByteArray).size = 1 := rfl; omega, m, rfl⟩, by simp only [intOf]; omega⟩
        · have e2 : (c == 92) = false := beq_eq_false_iff_ne.2 h2
          have H2 := hide h2
          clear h2
          by_cases h3 : c.toNat < 32
          · have e3 : decide ((c.toNat : Int) < 32) = true := decide_eq_true (by omega)
            obtain ⟨hi, hhi⟩ : ∃ hi, hi = c.toNat / 16 := ⟨_, rfl⟩
            obtain ⟨lo, hlo⟩ : ∃ lo, lo = c.toNat % 16 := ⟨_, rfl⟩
            have q1 : ((c.toNat : Int) / 16) = (hi : Int) := by omega
            have q2 : ((c.toNat : Int) % 16) = (lo : Int) := by omega
            obtain ⟨x1, a1, b1, d1⟩ := nib hi (by omega)
            obtain ⟨x2, a2, b2, d2⟩ := nib lo (by omega)
            have HHI := hide hhi
            have HLO := hide hlo
            have hib : hi < 16 := by omega
            have lob : lo < 16 := by omega
            clear hhi hlo
            have A1 := hide a1
            have A2 := hide a2
            have H3 := hide h3
            clear a1 a2
            go_wp2_with (fail)
            go_quiet (fail)
            go_wp2_with (fail)
            exact ⟨⟨k + 1, _, by omega, by go_num, rfl, by
              rw [app_list, app_list, app_list, unhide HA, unhide hst, escB_ctl (unhide H3), unhide A1, unhide A2, unhide HHI, unhide HLO]; simp, by
              simp only [ByteArray.size_append, b1, b2]; have : (⟨#[92, 117, 48, 48]⟩ : ByteArray).size = 4 := rfl; omega, _, rfl⟩, by simp only [intOf]; omega⟩
          · have e3 : decide ((c.toNat : Int) < 32) = false := decide_eq_false (by omega)
            have H3 := hide h3
            clear h3
            go_wp2_with (fail)
            exact ⟨⟨k + 1, _, by omega, by go_num, rfl, by rw [app_list, unhide HA, unhide hst, escB_plain (unhide H1) (unhide H2) (unhide H3)]; simp, by simp only [ByteArray.size_append]; have : (⟨#[c]⟩ : ByteArray).size = 1 := rfl; omega, m, rfl⟩, by simp only [intOf]; omega⟩
    · go_wp2_with (fail)
      go_ret
      have hkn : t.data.toList.take k = t.data.toList := List.take_of_length_le (by simp; omega)
      refine ⟨⟨_, rfl, ?_⟩, ⟨rfl, rfl, rfl, Nat.le_refl _, fun _ _ => rfl⟩⟩
      rw [app_list, unhide HA, hkn]
      rfl

theorem quoT_len (s : Sp.By) : (Sp.quoT s).length ≤ 6 * s.length + 2 := escS_le s
theorem rQuoted_any (s : Sp.By) (hs : s.length ≤ 80000) (w : World) :
    Calls Tryz.prog 50 #[.string ⟨s.toArray⟩] w fun e w' => e = .returned (.string ⟨(Sp.quoT s).toArray⟩) ∧ Below w.heap.size w w' := by
  refine (rQuoted_t ⟨s.toArray⟩ s.length (bs_size s).symm hs w).mono ?_
  rintro e w' ⟨⟨A, rfl, hA⟩, hb⟩
  refine ⟨?_, hb⟩
  have : A = ⟨(Sp.quoT s).toArray⟩ := by rw [show Sp.quoT s = A.data.toList from hA.symm, Array.toArray_toList]
  rw [this]

theorem ret_str {A : ByteArray} {l : Sp.By} (h : A.data.toList = l) : Ending.returned (.string A) = .returned (.string ⟨l.toArray⟩) := by
  rw [← h, Array.toArray_toList]

set_option maxRecDepth 100000 in
set_option maxHeartbeats 8000000 in
theorem rVTold_any {w : World} {b : Nat} {ng : Bool} {ds : Sp.By} {x : Int} (h : OB w b Sp.kdN ng ds x [] nilS nilS) (hx : -400 ≤ x ∧ x ≤ 400) (hd : ds.length ≤ 80000) (hT : Laid w) :
    Calls Tryz.prog 49 #[.pointer (some ⟨b, 0, none⟩)] w fun e w' => e = .returned (.string ⟨(Sp.numT (ng, ds, x)).toArray⟩) ∧ Below w.heap.size w w' := by
  have c1 := h.c1
  have c2 := h.c2
  have c3 := h.c3
  have HT := hide hT.tab
  clear h hT
  cases ds with
  | nil =>
    go_enter Tryz.func49, Tryz.ntmps49
    go_wp2_with (fail)
    go_ret
    exact ⟨rfl, Below.refl _ _⟩
  | cons a r =>
    have hE := hide (show Sp.numT (ng, a :: r, x) = (if ng then [45] else []) ++ ((a :: r) ++ (if x = 0 then [] else 101 :: Lib.itoa x)) by unfold Sp.numT; rw [if_neg (by simp)])
    simp only [List.length_cons] at hd
    have hsz : (⟨(a :: r).toArray⟩ : ByteArray).size = r.length + 1 := by rw [bs_size]; rfl
    cases ng with
    | false =>
      by_cases h0 : x = 0
      · subst h0
        go_enter Tryz.func49, Tryz.ntmps49
        go_wp2_with (fail)
        go_ret
        refine ⟨?_, Below.refl _ _⟩
        rw [unhide hE]
        simp
      · have e0 : (x != 0) = true := by simpa using h0
        have e1 : (x == 0) = false := by simpa using h0
        have H0 := hide h0
        clear h0
        go_enter Tryz.func49, Tryz.ntmps49
        go_wp2_with (fail)
        refine (Tryz.strconv_Itoa x (by omega) (by omega) w (unhide HT)).mono ?_
        rintro e w5 ⟨rfl, kk, os, rfl⟩
        have hb5 := grow_below w kk os
        have hil := Lib.itoa_length_le x (by omega) (by omega)
        have hiz : (⟨(Lib.itoa x).toArray⟩ : ByteArray).size = (Lib.itoa x).length := bs_size _
        have HB5 := hide hb5
        generalize Sort.grow (w.drewN kk) os = w5 at *
        clear hb5
        go_wp2_with (fail)
        go_ret
        refine ⟨?_, unhide HB5⟩
        rw [unhide hE, if_neg (unhide H0)]
        exact ret_str (by simp)
    | true =>
      by_cases h0 : x = 0
      · subst h0
        go_enter Tryz.func49, Tryz.ntmps49
        go_wp2_with (fail)
        go_ret
        refine ⟨?_, Below.refl _ _⟩
        rw [unhide hE]
        exact ret_str (by simp)
      · have e0 : (x != 0) = true := by simpa using h0
        have e1 : (x == 0) = false := by simpa using h0
        have H0 := hide h0
        clear h0
        go_enter Tryz.func49, Tryz.ntmps49
        go_wp2_with (fail)
        refine (Tryz.strconv_Itoa x (by omega) (by omega) w (unhide HT)).mono ?_
        rintro e w5 ⟨rfl, kk, os, rfl⟩
        have hb5 := grow_below w kk os
        have hil := Lib.itoa_length_le x (by omega) (by omega)
        have hiz : (⟨(Lib.itoa x).toArray⟩ : ByteArray).size = (Lib.itoa x).length := bs_size _
        have HB5 := hide hb5
        generalize Sort.grow (w.drewN kk) os = w5 at *
        clear hb5
        go_wp2_with (fail)
        go_ret
        refine ⟨?_, unhide HB5⟩
        rw [unhide hE, if_neg (unhide H0)]
        exact ret_str (by simp)

end Go.Proofs.YtmegcejgjdkpfaaGreatDoor
