/-
  Walk of the reference's own four.
  Walk of the reference's own coded.
  Walk of the reference's own escape.
-/
import Derived.Test.YtmegcejgjdkpfaaGreatDoorPart23
import Derived.Laws.BytesArg
import Derived.Laws.IdiomStrings
namespace Go.Proofs.YtmegcejgjdkpfaaGreatDoor
open Go.RowKit

/-- the number that is told behind a backslash and u; -1: none is -/
def Sp.fourI (l : Sp.By) : Int := if 6 ≤ l.length ∧ Sp.tk l 92 = true ∧ Sp.tk l.tail 117 = true then (match Sp.hexs 4 0 (l.drop 2) with
  | some (n, _) => (n : Int)
  | none => -1) else -1
theorem fourI_no {l : Sp.By} (h : ¬ (6 ≤ l.length ∧ Sp.tk l 92 = true ∧ Sp.tk l.tail 117 = true)) : Sp.fourI l = -1 := by unfold Sp.fourI; rw [if_neg h]
theorem fourI_yes {l : Sp.By} (h : 6 ≤ l.length ∧ Sp.tk l 92 = true ∧ Sp.tk l.tail 117 = true) : Sp.fourI l = match Sp.hexs 4 0 (l.drop 2) with
    | some (n, _) => (n : Int)
    | none => -1 := by unfold Sp.fourI; rw [if_pos h]
theorem tk_byte {t : ByteArray} {p : Nat} {c : UInt8} {r : Sp.By} (ha : At t p (c :: r)) (u : UInt8) : ((t[p]'ha.lt).toNat : Int) == (u.toNat : Int) ↔ Sp.tk (c :: r) u = true := by
  rw [ha.byte, tk_hd, beq_iff_eq, beq_iff_eq]
  constructor
  · intro h; exact UInt8.toNat_inj.1 (by exact_mod_cast h)
  · rintro rfl; rfl
theorem hexs_no {k n : Nat} {c : UInt8} {r : Sp.By} (h : Sp.hexd c.toNat = none) : Sp.hexs (k + 1) n (c :: r) = none := by
  rw [Sp.hexs, pk_cons, h]
theorem hexs_yes {k n m : Nat} {c : UInt8} {r : Sp.By} (h : Sp.hexd c.toNat = some m) : Sp.hexs (k + 1) n (c :: r) = Sp.hexs k (n * 16 + m) r := by
  rw [Sp.hexs, pk_cons, h]
  rfl
set_option maxRecDepth 100000 in
set_option maxHeartbeats 8000000 in
theorem rFour_any {w : World} {R : Nat} {t : ByteArray} {p : Nat} {l : Sp.By} (h : RS w R t) (ha : At t p l) :
    Calls Tryz.prog 142 #[.pointer (some ⟨R, 0, none⟩), .int .i64 p] w fun e w' => e = .returned (.int .i64 (Sp.fourI l)) ∧ w' = w := by
  have c0 : w.cell? ⟨R, 0, none⟩ = some (.string t) := h
  have hlen := ha.len
  have hsz := ha.small
  have hple := ha.le
  clear h
  by_cases hs : l.length < 6
  · have e1 : (t.size : Int) < (p : Int) + 6 := by omega
    have HE := hide (fourI_no (l := l) (fun h => by omega))
    clear ha hlen hs
    go_enter Tryz.func142, Tryz.ntmps142
    go_wp2_with (fail)
    go_ret
    exact ⟨by rw [unhide HE]; rfl, rfl⟩
  · match l, ha, hlen, hs with
    | a :: b :: l2, ha, hlen, hs =>
      have e1 : ¬ (t.size : Int) < (p : Int) + 6 := by omega
      have hlt := ha.lt
      have hlt1 := ha.next.lt
      have ka := tk_byte ha 92
      have kb := tk_byte ha.next 117
      have HA := hide ha
      have HS := hide hs
      by_cases ta : Sp.tk (a :: b :: l2) 92 = true
      · have ea : (((t[p]'hlt).toNat : Int) != 92) = false := by rw [bne, show (((t[p]'hlt).toNat : Int) == 92) = true from ka.2 ta]; rfl
        by_cases tb : Sp.tk (b :: l2) 117 = true
        · have eb : (((t[p + 1]'hlt1).toNat : Int) != 117) = false := by rw [bne, show (((t[p + 1]'hlt1).toNat : Int) == 117) = true from kb.2 tb]; rfl
          have HE := hide (fourI_yes (l := a :: b :: l2) ⟨by omega, ta, tb⟩)
          clear ha hlen hs ka kb ta tb
          go_enter Tryz.func142, Tryz.ntmps142
          go_wp2_with (fail)
          go_loopw [5, 6] (fun v i wr => ∃ (k n : Nat) (r' : Sp.By), 2 ≤ k ∧ k ≤ 6 ∧ i = .int .i64 k ∧ v = .int .i64 n ∧ At t (p + k) r' ∧ Sp.hexs 4 0 l2 = Sp.hexs (6 - k) n r' ∧ n < 16 ^ (k - 2) ∧ 6 - k ≤ r'.length ∧ wr = w) (fun _ i _ => 6 - (intOf i).toNat)
          case atStart => exact ⟨2, 0, l2, by omega, by omega, rfl, rfl, (unhide HA).next.next, rfl, by decide, by have := unhide HS; simp at this; omega, rfl⟩
          case round =>
            obtain ⟨k, n, r', hk1, hk2, rfl, rfl, hat, hcnt, hxb, hrl, rfl⟩ := hrel
            have hx : n < 65536 := Nat.lt_of_lt_of_le hxb (show 16 ^ (k - 2) ≤ 16 ^ 4 from Nat.pow_le_pow_right (by decide) (by omega))
            have HAT := hide hat
            have HCN := hide hcnt
            have HXB := hide hxb
            by_cases hkn : k < 6
            · match r', hat, hcnt, hrl, HAT, HCN with
              | [], _, _, hrl, _, _ => exact absurd hrl (by simp only [List.length_nil]; omega)
              | d :: r'', hat, hcnt, hrl, HAT, HCN =>
                have hq := hat.lt
                obtain ⟨q, hqd⟩ : ∃ q, q = p + k := ⟨_, rfl⟩
                rw [← hqd] at hq
                have hqi : (p : Int) + (k : Int) = (q : Int) := by omega
                have hbq : t[q]'hq = d := by
                  have := hat.byte
                  simp only [← hqd] at this
                  exact this
                have HBQ := hide hbq
                have HRL := hide hrl
                have HQ8 := hide (t[q]'hq).toNat_lt
                clear hat hcnt hrl hbq hqd hxb e1
                go_wp2_with (fail)
                refine (rHex_any (t[q]'hq).toNat (unhide HQ8) _).mono ?_
                rintro e w' ⟨rfl, rfl⟩
                cases hd : Sp.hexd (t[q]'hq).toNat with
                | none =>
                  have hI : Sp.hxI (t[q]'hq).toNat = -1 := by unfold Sp.hxI; rw [hd]
                  have HD := hide hd
                  clear hd
                  go_wp2_with (fail)
                  go_ret
                  refine ⟨?_, rfl⟩
                  rw [unhide HE, List.drop_succ_cons, List.drop_succ_cons, List.drop_zero, unhide HCN, show 6 - k = 6 - k - 1 + 1 by omega, hexs_no (by rw [← unhide HBQ]; exact unhide HD)]
                  rfl
                | some m =>
                  have hI : Sp.hxI (t[q]'hq).toNat = (m : Int) := by unfold Sp.hxI; rw [hd]
                  have hm := hexd_lt hd
                  have HD := hide hd
                  clear hd
                  go_wp2_with (fail)
                  have hrl := unhide HRL
                  have hxb := unhide HXB
                  refine ⟨⟨k + 1, n * 16 + m, r'', by omega, by omega, by go_num, ?_, (unhide HAT).next, ?_, ?_, by rw [List.length_cons] at hrl; omega, trivial⟩, by simp only [intOf]; omega⟩
                  · rw [show (16 * (n : Int) + (m : Int)) = ((n * 16 + m : Nat) : Int) by omega]
                  · rw [unhide HCN, show 6 - k = 6 - (k + 1) + 1 by omega, hexs_yes (by rw [← unhide HBQ]; exact unhide HD)]
                  · rw [show k + 1 - 2 = (k - 2) + 1 by omega, Nat.pow_succ]; omega
            · obtain rfl : k = 6 := by omega
              have HCN2 := hide (show Sp.hexs 4 0 l2 = some (n, r') from hcnt)
              clear hat hcnt hrl hxb hkn
              go_wp2_with (fail)
              go_ret
              refine ⟨?_, rfl⟩
              rw [unhide HE, List.drop_succ_cons, List.drop_succ_cons, List.drop_zero, unhide HCN2]
              rfl
        · have eb : (((t[p + 1]'hlt1).toNat : Int) == 117) = false := by
            cases hh : (((t[p + 1]'hlt1).toNat : Int) == 117) with
            | false => rfl
            | true => exact absurd (kb.1 hh) tb
          have nb : (((t[p + 1]'hlt1).toNat : Int) != 117) = true := by rw [bne, eb]; rfl
          have HE := hide (fourI_no (l := a :: b :: l2) (fun h => tb h.2.2))
          clear ha hlen hs ka kb ta tb
          go_enter Tryz.func142, Tryz.ntmps142
          go_wp2_with (fail)
          go_ret
          exact ⟨by rw [unhide HE]; rfl, rfl⟩
      · have ea : (((t[p]'hlt).toNat : Int) == 92) = false := by
          cases hh : (((t[p]'hlt).toNat : Int) == 92) with
          | false => rfl
          | true => exact absurd (ka.1 hh) ta
        have na : (((t[p]'hlt).toNat : Int) != 92) = true := by rw [bne, ea]; rfl
        have HE := hide (fourI_no (l := a :: b :: l2) (fun h => ta h.2.1))
        clear ha hlen hs ka kb ta
        go_enter Tryz.func142, Tryz.ntmps142
        go_wp2_with (fail)
        go_ret
        exact ⟨by rw [unhide HE]; rfl, rfl⟩
    | [a], _, _, hs => exact absurd (show ([a] : Sp.By).length < 6 by simp) hs
    | [], _, _, hs => exact absurd (show ([] : Sp.By).length < 6 by simp) hs

end Go.Proofs.YtmegcejgjdkpfaaGreatDoor

namespace Go.Proofs.YtmegcejgjdkpfaaGreatDoor
open Go.RowKit

theorem conv_new (xs : List Int) (W : World) : (convert 96 9 (.slice (some ⟨W.heap.size, 0, none⟩) xs.length xs.length)).run Tryz.prog (W.alloc (.cells (xs.map (Value.int .u8)).toArray 5)) = .ok (.string (strOfNums xs)) (W.alloc (.cells (xs.map (Value.int .u8)).toArray 5)) := by
  refine run_convert_bytes_arg _ 96 5 Tryz.underlying96 Tryz.underlying5 _ 0 xs.length xs.length xs rfl (fun i hi => ?_) 9 Tryz.underlying9
  rw [Nat.zero_add, World.cell?_alloc_mark]
  simp [hi, List.getD]
/-- how a call of coded ends -/
def CodEnd (v : Nat) (w : World) (e : Ending) (w' : World) : Prop := (∃ s : ByteArray, e = .returned (.string s) ∧ s.data.toList = Sp.encN v) ∧ Below w.heap.size w w'
theorem CodEnd.mk {v : Nat} {w w' : World} {xs : List Int} (h : Lib.encodeRuneZ (v : Int) = xs) (hb : Below w.heap.size w w') : CodEnd v w (.returned (.string (strOfNums xs))) w' := by
  refine ⟨⟨_, rfl, ?_⟩, hb⟩
  rw [strOfNums_data, Sp.encN, Lib.encodeRune, h]
set_option maxRecDepth 100000 in
set_option maxHeartbeats 4000000 in
theorem rCoded_one (v : Nat) (h : v < 128) (w : World) : Calls Tryz.prog 143 #[.int .i64 v] w fun e w' => CodEnd v w e w' := by
  have hcv := fun (x0 : Int) (W : World) => conv_new [x0] W
  simp only [List.map_cons, List.map_nil, List.length_cons, List.length_nil, Nat.zero_add] at hcv
  have f0 : decide ((v : Int) < 128) = true := decide_eq_true (by omega)
  have g0 : wrap64 (v : Int) = v := by (try unfold wrap64); omega
  have g1 : (v : Int) % 256 = v := by (try unfold wrap64); omega
  have HL := hide (Lib.encodeRuneZ_one (r := (v : Int)) (by omega) (by omega))
  clear h
  go_enter Tryz.func143, Tryz.ntmps143
  go_wp2_with (fail)
  go_ret
  exact CodEnd.mk (unhide HL) ((Below.refl _ _).alloc (Nat.le_refl _) _)
set_option maxRecDepth 100000 in
set_option maxHeartbeats 4000000 in
theorem rCoded_two (v : Nat) (h : 128 ≤ v ∧ v < 2048) (w : World) : Calls Tryz.prog 143 #[.int .i64 v] w fun e w' => CodEnd v w e w' := by
  have hcv := fun (x0 x1 : Int) (W : World) => conv_new [x0, x1] W
  simp only [List.map_cons, List.map_nil, List.length_cons, List.length_nil, Nat.zero_add, Nat.reduceAdd] at hcv
  have f0 : decide ((v : Int) < 128) = false := decide_eq_false (by omega)
  have f1 : decide ((v : Int) < 2048) = true := decide_eq_true (by omega)
  have g0 : wrap64 ((v : Int) / 64) = (v : Int) / 64 := by (try unfold wrap64); omega
  have g1 : wrap64 (192 + (v : Int) / 64) = 192 + (v : Int) / 64 := by (try unfold wrap64); omega
  have g2 : (192 + (v : Int) / 64) % 256 = 192 + (v : Int) / 64 := by (try unfold wrap64); omega
  have HL := hide (Lib.encodeRuneZ_two (r := (v : Int)) (by omega) (by omega))
  clear h
  go_enter Tryz.func143, Tryz.ntmps143
  go_wp2_with (fail)
  go_ret
  exact CodEnd.mk (unhide HL) ((Below.refl _ _).alloc (Nat.le_refl _) _)
set_option maxRecDepth 100000 in
set_option maxHeartbeats 4000000 in
theorem rCoded_three (v : Nat) (h : 2048 ≤ v ∧ v < 65536 ∧ Sp.Sc v) (w : World) : Calls Tryz.prog 143 #[.int .i64 v] w fun e w' => CodEnd v w e w' := by
  have hcv := fun (x0 x1 x2 : Int) (W : World) => conv_new [x0, x1, x2] W
  simp only [List.map_cons, List.map_nil, List.length_cons, List.length_nil, Nat.zero_add, Nat.reduceAdd] at hcv
  have f0 : decide ((v : Int) < 128) = false := decide_eq_false (by omega)
  have f1 : decide ((v : Int) < 2048) = false := decide_eq_false (by omega)
  have f2 : decide ((v : Int) < 65536) = true := decide_eq_true (by omega)
  have g0 : wrap64 ((v : Int) / 4096) = (v : Int) / 4096 := by (try unfold wrap64); omega
  have g1 : wrap64 (224 + (v : Int) / 4096) = 224 + (v : Int) / 4096 := by (try unfold wrap64); omega
  have g2 : (224 + (v : Int) / 4096) % 256 = 224 + (v : Int) / 4096 := by (try unfold wrap64); omega
  have g3 : wrap64 ((v : Int) / 64) = (v : Int) / 64 := by (try unfold wrap64); omega
  have HL := hide (Lib.encodeRuneZ_three (r := (v : Int)) (by have := h.2.2; unfold Sp.Sc at this; omega))
  clear h
  go_enter Tryz.func143, Tryz.ntmps143
  go_wp2_with (fail)
  go_ret
  exact CodEnd.mk (unhide HL) ((Below.refl _ _).alloc (Nat.le_refl _) _)
set_option maxRecDepth 100000 in
set_option maxHeartbeats 4000000 in
theorem rCoded_four (v : Nat) (h : 65536 ≤ v ∧ v ≤ 1114111) (w : World) : Calls Tryz.prog 143 #[.int .i64 v] w fun e w' => CodEnd v w e w' := by
  have hcv := fun (x0 x1 x2 x3 : Int) (W : World) => conv_new [x0, x1, x2, x3] W
  simp only [List.map_cons, List.map_nil, List.length_cons, List.length_nil, Nat.zero_add, Nat.reduceAdd] at hcv
  have f0 : decide ((v : Int) < 128) = false := decide_eq_false (by omega)
  have f1 : decide ((v : Int) < 2048) = false := decide_eq_false (by omega)
  have f2 : decide ((v : Int) < 65536) = false := decide_eq_false (by omega)
  have g0 : wrap64 ((v : Int) / 262144) = (v : Int) / 262144 := by (try unfold wrap64); omega
  have g1 : wrap64 (240 + (v : Int) / 262144) = 240 + (v : Int) / 262144 := by (try unfold wrap64); omega
  have g2 : (240 + (v : Int) / 262144) % 256 = 240 + (v : Int) / 262144 := by (try unfold wrap64); omega
  have g3 : wrap64 ((v : Int) / 4096) = (v : Int) / 4096 := by (try unfold wrap64); omega
  have g4 : wrap64 ((v : Int) / 64) = (v : Int) / 64 := by (try unfold wrap64); omega
  have HL := hide (Lib.encodeRuneZ_four (r := (v : Int)) (by omega) (by omega))
  clear h
  go_enter Tryz.func143, Tryz.ntmps143
  go_wp2_with (fail)
  go_ret
  exact CodEnd.mk (unhide HL) ((Below.refl _ _).alloc (Nat.le_refl _) _)
theorem rCoded_any (v : Nat) (h : Sp.Sc v) (w : World) : Calls Tryz.prog 143 #[.int .i64 v] w fun e w' => CodEnd v w e w' := by
  by_cases h1 : v < 128
  · exact rCoded_one v h1 w
  · by_cases h2 : v < 2048
    · exact rCoded_two v ⟨by omega, h2⟩ w
    · by_cases h3 : v < 65536
      · exact rCoded_three v ⟨by omega, h3, h⟩ w
      · exact rCoded_four v ⟨by omega, by unfold Sp.Sc at h; omega⟩ w

end Go.Proofs.YtmegcejgjdkpfaaGreatDoor

namespace Go.Proofs.YtmegcejgjdkpfaaGreatDoor
open Go.RowKit

theorem short_0 (w : World) : (Instr.index 9 (.string ⟨#[34, 92, 47, 98, 102, 110, 114, 116]⟩) (.int .i64 0)).run Tryz.prog w = .ok (.int .u8 34) w := by kernel_rfl
theorem short_1 (w : World) : (Instr.index 9 (.string ⟨#[34, 92, 47, 98, 102, 110, 114, 116]⟩) (.int .i64 1)).run Tryz.prog w = .ok (.int .u8 92) w := by kernel_rfl
theorem short_2 (w : World) : (Instr.index 9 (.string ⟨#[34, 92, 47, 98, 102, 110, 114, 116]⟩) (.int .i64 2)).run Tryz.prog w = .ok (.int .u8 47) w := by kernel_rfl
theorem short_3 (w : World) : (Instr.index 9 (.string ⟨#[34, 92, 47, 98, 102, 110, 114, 116]⟩) (.int .i64 3)).run Tryz.prog w = .ok (.int .u8 98) w := by kernel_rfl
theorem short_4 (w : World) : (Instr.index 9 (.string ⟨#[34, 92, 47, 98, 102, 110, 114, 116]⟩) (.int .i64 4)).run Tryz.prog w = .ok (.int .u8 102) w := by kernel_rfl
theorem short_5 (w : World) : (Instr.index 9 (.string ⟨#[34, 92, 47, 98, 102, 110, 114, 116]⟩) (.int .i64 5)).run Tryz.prog w = .ok (.int .u8 110) w := by kernel_rfl
theorem short_6 (w : World) : (Instr.index 9 (.string ⟨#[34, 92, 47, 98, 102, 110, 114, 116]⟩) (.int .i64 6)).run Tryz.prog w = .ok (.int .u8 114) w := by kernel_rfl
theorem short_7 (w : World) : (Instr.index 9 (.string ⟨#[34, 92, 47, 98, 102, 110, 114, 116]⟩) (.int .i64 7)).run Tryz.prog w = .ok (.int .u8 116) w := by kernel_rfl
theorem short_i (j : Nat) (hj : j < 8) (w : World) : (Instr.index 9 (.string ⟨#[34, 92, 47, 98, 102, 110, 114, 116]⟩) (.int .i64 j)).run Tryz.prog w = .ok (.int .u8 (escL j).toNat) w := by
  match j, hj with
  | 0, _ => exact short_0 w
  | 1, _ => exact short_1 w
  | 2, _ => exact short_2 w
  | 3, _ => exact short_3 w
  | 4, _ => exact short_4 w
  | 5, _ => exact short_5 w
  | 6, _ => exact short_6 w
  | 7, _ => exact short_7 w
theorem means_i (j : Nat) (hj : j < 8) : ∃ s : ByteArray, s.data.toList = Sp.encN (escV j) ∧ ∀ w : World, (Instr.slice 9 (.string ⟨#[34, 92, 47, 8, 12, 10, 13, 9]⟩) (some (.int .i64 j)) (some (.int .i64 ((j : Int) + 1))) none).run Tryz.prog w = .ok (.string s) w := by
  match j, hj with
  | 0, _ => exact ⟨⟨#[34]⟩, by decide, fun w => by kernel_rfl⟩
  | 1, _ => exact ⟨⟨#[92]⟩, by decide, fun w => by kernel_rfl⟩
  | 2, _ => exact ⟨⟨#[47]⟩, by decide, fun w => by kernel_rfl⟩
  | 3, _ => exact ⟨⟨#[8]⟩, by decide, fun w => by kernel_rfl⟩
  | 4, _ => exact ⟨⟨#[12]⟩, by decide, fun w => by kernel_rfl⟩
  | 5, _ => exact ⟨⟨#[10]⟩, by decide, fun w => by kernel_rfl⟩
  | 6, _ => exact ⟨⟨#[13]⟩, by decide, fun w => by kernel_rfl⟩
  | 7, _ => exact ⟨⟨#[9]⟩, by decide, fun w => by kernel_rfl⟩
theorem hexs_drop (k : Nat) : ∀ (n : Nat) (l : Sp.By) (m : Nat) (r : Sp.By), Sp.hexs k n l = some (m, r) → r = l.drop k := by
  induction k with
  | zero => intro n l m r h; injection h with h; injection h with h1 h2; rw [← h2]; rfl
  | succ k ih =>
    intro n l m r h
    rw [Sp.hexs] at h
    split at h
    · cases h
    · have := ih _ _ _ _ h
      cases l with
      | nil => simpa using this
      | cons c l => simpa using this

theorem esc_tab {c : UInt8} {r : Sp.By} {j : Nat} (hk : Sp.tk (c :: r) (escL j) = true) (hj : j < 8) : Sp.esc (c :: r) = Sp.escIn (c :: r) Sp.escT := by
  have hne : ∀ j : Fin 8, escL j.val ≠ 117 := by decide
  unfold Sp.esc
  rw [if_neg]
  rw [tk_hd] at hk ⊢
  rw [eq_of_beq hk, beq_iff_eq]
  exact hne ⟨j, hj⟩
/-- what four tells, and what it means for the escape -/
theorem four_cases {t : ByteArray} {p : Nat} {c : UInt8} {r2 : Sp.By} (hno : Sp.escIn (c :: r2) Sp.escT = none) (ha : At t p (92 :: c :: r2)) :
    (Sp.fourI (92 :: c :: r2) = -1 ∧ Sp.esc (c :: r2) = none) ∨ ∃ (u : Nat) (r4 : Sp.By), Sp.fourI (92 :: c :: r2) = (u : Int) ∧ u < 65536 ∧ At t (p + 6) r4 ∧
      ((56320 ≤ u ∧ u < 57344 ∧ Sp.esc (c :: r2) = none) ∨ ((u < 55296 ∨ 57344 ≤ u) ∧ Sp.esc (c :: r2) = some (u, r4)) ∨
        (55296 ≤ u ∧ u < 56320 ∧ ((Sp.fourI r4 < 56320 ∨ 57344 ≤ Sp.fourI r4) ∧ Sp.esc (c :: r2) = none ∨ ∃ (b : Nat) (r5 : Sp.By), Sp.fourI r4 = (b : Int) ∧ 56320 ≤ b ∧ b < 57344 ∧ At t (p + 12) r5 ∧ Sp.esc (c :: r2) = some (65536 + (u - 55296) * 1024 + (b - 56320), r5)))) := by
  by_cases hk : Sp.tk (c :: r2) 117 = true
  · have he : Sp.esc (c :: r2) = Sp.scal r2 := by unfold Sp.esc; rw [if_pos hk]; rfl
    rw [he]
    cases hx : Sp.hexs 4 0 r2 with
    | none =>
      left
      refine ⟨?_, by unfold Sp.scal; rw [hx]⟩
      unfold Sp.fourI
      split
      · rw [show (92 :: c :: r2 : Sp.By).drop 2 = r2 from rfl, hx]
      · rfl
    | some y =>
      obtain ⟨u, r4⟩ := y
      have hl := hexs_len _ _ _ _ _ hx
      have hu := hexs4 hx
      have hd := hexs_drop _ _ _ _ _ hx
      have hf : Sp.fourI (92 :: c :: r2) = (u : Int) := by
        rw [fourI_yes (l := 92 :: c :: r2) ⟨by simp; omega, rfl, hk⟩, show (92 :: c :: r2 : Sp.By).drop 2 = r2 from rfl, hx]
      have hat : At t (p + 6) r4 := by
        have := ha.add 6 (by simp; omega)
        rw [hd]
        exact this
      right
      refine ⟨u, r4, hf, hu, hat, ?_⟩
      unfold Sp.scal
      rw [hx]
      simp only
      by_cases c1 : u < 55296 ∨ 57344 ≤ u
      · rw [if_pos c1]; exact Or.inr (Or.inl ⟨c1, rfl⟩)
      · rw [if_neg c1]
        by_cases c2 : 56320 ≤ u
        · rw [if_pos c2]; exact Or.inl ⟨c2, by omega, rfl⟩
        · rw [if_neg c2]
          refine Or.inr (Or.inr ⟨by omega, by omega, ?_⟩)
          by_cases c3 : Sp.tk r4 92 = true
          · rw [if_pos c3]
            by_cases c4 : Sp.tk r4.tail 117 = true
            · rw [if_pos c4]
              have e2 : r4.drop 2 = r4.tail.tail := by
                match r4 with
                | [] => rfl
                | [_] => rfl
                | _ :: _ :: _ => rfl
              have k1 := tk_cons c3
              have k2 := tk_cons c4
              cases hy : Sp.hexs 4 0 r4.tail.tail with
              | none =>
                left
                refine ⟨Or.inl ?_, rfl⟩
                unfold Sp.fourI
                split
                · rw [e2, hy]; simp only; omega
                · omega
              | some z =>
                obtain ⟨b, r5⟩ := z
                have hl2 := hexs_len _ _ _ _ _ hy
                have hd2 := hexs_drop _ _ _ _ _ hy
                have hf2 : Sp.fourI r4 = (b : Int) := by
                  rw [fourI_yes (l := r4) ⟨by omega, c3, c4⟩, e2, hy]
                simp only
                by_cases c5 : b < 56320 ∨ 57344 ≤ b
                · rw [if_pos c5, hf2]
                  exact Or.inl ⟨by omega, rfl⟩
                · rw [if_neg c5]
                  right
                  refine ⟨b, r5, hf2, by omega, by omega, ?_, rfl⟩
                  have := hat.add 6 (by omega)
                  rw [hd2, ← e2, List.drop_drop]
                  exact this
            · rw [if_neg c4]
              exact Or.inl ⟨Or.inl (by rw [fourI_no (fun h => c4 h.2.2)]; omega), rfl⟩
          · rw [if_neg c3]
            exact Or.inl ⟨Or.inl (by rw [fourI_no (fun h => c3 h.2.1)]; omega), rfl⟩
  · left
    refine ⟨fourI_no (fun h => hk h.2.2), ?_⟩
    unfold Sp.esc
    rw [if_neg hk]; exact hno
/-- how a call of escape ends -/
def EscEnd (o : Option (Nat × Sp.By)) (t : ByteArray) (w : World) (e : Ending) (w' : World) : Prop :=
  ((∃ (c : Nat) (r : Sp.By) (s : ByteArray) (q : Nat), o = some (c, r) ∧ e = .returned (.tuple #[.string s, .int .i64 q]) ∧ s.data.toList = Sp.encN c ∧ At t q r ∧ 0 < q) ∨ (o = none ∧ e = .returned (.tuple #[.string ⟨#[]⟩, .int .i64 0]))) ∧ Below w.heap.size w w'

set_option maxRecDepth 100000 in
set_option maxHeartbeats 8000000 in
theorem rEscape_any {w : World} {R : Nat} {t : ByteArray} {p : Nat} {r : Sp.By} (h : RS w R t) (ha : At t p (92 :: r)) :
    Calls Tryz.prog 117 #[.pointer (some ⟨R, 0, none⟩), .int .i64 p] w fun e w' => EscEnd (Sp.esc r) t w e w' := by
  have c0 : w.cell? ⟨R, 0, none⟩ = some (.string t) := h
  have hsz := ha.small
  have hlen := ha.len
  have hple := ha.le
  have HRS := hide h
  have HA := hide ha
  cases r with
  | nil =>
    have e1 : (t.size : Int) ≤ (p : Int) + 1 := by simp at hlen; omega
    clear h ha hlen
    go_enter Tryz.func117, Tryz.ntmps117
    go_wp2_with (fail)
    go_ret2
    exact ⟨Or.inr ⟨rfl, rfl⟩, bel_same⟩
  | cons c r2 =>
    have hn := ha.next
    obtain ⟨p1, hp1⟩ : ∃ p1, p1 = p + 1 := ⟨_, rfl⟩
    rw [← hp1] at hn
    have hlt1 := hn.lt
    have e1 : ¬ t.size ≤ p1 := by omega
    have hpi : (p : Int) + 1 = (p1 : Int) := by omega
    have hwp : IntKind.i64.wrap (p1 : Int) = p1 := by rw [IntKind.wrap_i64]; omega
    have hby : t[p1]'hlt1 = c := hn.byte
    have HBY := hide hby
    have HLEN := hide hlen
    have HP1 := hide hp1
    clear h ha hby hlen hp1 hn
    go_enter Tryz.func117, Tryz.ntmps117
    go_wp2_with (fail)
    go_loopw [8] (fun i wr => ∃ (j q : Nat), j ≤ 8 ∧ i = .int .i64 j ∧ Sp.escIn (c :: r2) Sp.escT = Sp.escIn (c :: r2) (Sp.escT.drop j) ∧ wr = w.drewN q) (fun i _ => 8 - (intOf i).toNat)
    case atStart => exact ⟨0, 0, by omega, rfl, rfl, rfl⟩
    case round =>
      obtain ⟨j, q, hj8, rfl, he, rfl⟩ := hrel
      have HE := hide he
      clear he
      by_cases hlt : j < 8
      · have hidx := short_i j hlt
        obtain ⟨s, hs, hsl⟩ := means_i j hlt
        have HS := hide hs
        have hst := esc_step (c :: r2) j hlt
        have HST := hide hst
        have hcmp : (((escL j).toNat : Int) == ((t[p1]'hlt1).toNat : Int)) = Sp.tk (c :: r2) (escL j) := by
          rw [unhide HBY, tk_hd, ofNat_beq, Bool.eq_iff_iff]
          simp only [beq_iff_eq, decide_eq_true_eq]
          omega
        cases hk : Sp.tk (c :: r2) (escL j) with
        | true =>
          rw [hk] at hcmp
          have HK := hide hk
          clear hs hst hk
          go_wp2_with (fail)
          go_region
          all_goals (
            go_wp2_with (fail)
            go_ret2
            refine ⟨Or.inl ⟨escV j, r2, s, p + 2, ?_, by go_num, unhide HS, (unhide HA).next.next, by omega⟩, bel_same⟩
            rw [esc_tab (unhide HK) hlt, unhide HE, unhide HST, unhide HK]
            rfl)
        | false =>
          rw [hk] at hcmp
          have HK := hide hk
          clear hs hst hk
          go_wp2_with (fail)
          go_region
          all_goals (
            go_wp2_with (fail)
            exact ⟨⟨j + 1, q + 1, by omega, by go_num, by rw [unhide HE, unhide HST, unhide HK]; rfl, rfl⟩, by simp only [intOf]; omega⟩)
      · obtain rfl : j = 8 := by omega
        have hno : Sp.escIn (c :: r2) Sp.escT = none := unhide HE
        have HNO := hide hno
        clear hno
        go_wp2_with (fail)
        refine (rFour_any (w := w.drewN q) (unhide HRS) (unhide HA)).mono ?_
        rintro e w' ⟨rfl, rfl⟩
        rcases four_cases (unhide HNO) (unhide HA) with ⟨h1, h2⟩ | ⟨u, r4, h1, hu, hat6, hrest⟩
        · have hF : Sp.fourI (92 :: c :: r2) = -1 := h1
          have HO := hide h2
          clear h1 h2
          go_wp2_with (fail)
          go_ret2
          exact ⟨Or.inr ⟨unhide HO, rfl⟩, bel_same⟩
        · have hF : Sp.fourI (92 :: c :: r2) = (u : Int) := h1
          have HAT := hide hat6
          clear h1 hat6
          rcases hrest with ⟨v1, v2, h2⟩ | ⟨v1, h2⟩ | ⟨v1, v2, hrest⟩
          · have f1 : decide ((u : Int) < 0) = false := decide_eq_false (by omega)
            have f2 : decide ((56320 : Int) ≤ (u : Int)) = true := decide_eq_true (by omega)
            have f3 : decide ((u : Int) < 57344) = true := decide_eq_true (by omega)
            have HO := hide h2
            clear h2
            go_wp2_with (fail)
            go_ret2
            exact ⟨Or.inr ⟨unhide HO, rfl⟩, bel_same⟩
          · have f1 : decide ((u : Int) < 0) = false := decide_eq_false (by omega)
            have HO := hide h2
            have HU := hide hu
            have hsc : Sp.Sc u := by unfold Sp.Sc; omega
            have HSC := hide hsc
            clear h2 hsc
            by_cases g1 : u < 55296
            · have f2 : decide ((56320 : Int) ≤ (u : Int)) = false := decide_eq_false (by omega)
              have f3 : decide ((u : Int) < 55296) = true := decide_eq_true (by omega)
              clear v1 g1
              go_wp2_with (fail)
              refine (rCoded_any u (unhide HSC) _).mono ?_
              rintro e w2 ⟨⟨s, rfl, hs⟩, hb⟩
              have HS := hide hs
              have HB := hide hb
              clear hs hb
              go_wp2_with (fail)
              go_ret2
              exact ⟨Or.inl ⟨u, r4, s, p + 6, unhide HO, by go_num, unhide HS, unhide HAT, by omega⟩, bel_from (unhide HB)⟩
            · have f2 : decide ((56320 : Int) ≤ (u : Int)) = true := decide_eq_true (by omega)
              have f3 : decide ((u : Int) < 57344) = false := decide_eq_false (by omega)
              have f4 : decide ((u : Int) < 55296) = false := decide_eq_false (by omega)
              have f5 : decide ((57344 : Int) ≤ (u : Int)) = true := decide_eq_true (by omega)
              clear v1 g1
              go_wp2_with (fail)
              refine (rCoded_any u (unhide HSC) _).mono ?_
              rintro e w2 ⟨⟨s, rfl, hs⟩, hb⟩
              have HS := hide hs
              have HB := hide hb
              clear hs hb
              go_wp2_with (fail)
              go_ret2
              exact ⟨Or.inl ⟨u, r4, s, p + 6, unhide HO, by go_num, unhide HS, unhide HAT, by omega⟩, bel_from (unhide HB)⟩
          · have f1 : decide ((u : Int) < 0) = false := decide_eq_false (by omega)
            have f2 : decide ((56320 : Int) ≤ (u : Int)) = false := decide_eq_false (by omega)
            have f3 : decide ((u : Int) < 55296) = false := decide_eq_false (by omega)
            have f4 : decide ((57344 : Int) ≤ (u : Int)) = false := decide_eq_false (by omega)
            have HR := hide hrest
            have HV := hide (show 55296 ≤ u ∧ u < 56320 from ⟨v1, v2⟩)
            have h6 := rFour_any (w := w.drewN q) (p := p + 6) (unhide HRS) (unhide HAT)
            rw [show ((p + 6 : Nat) : Int) = (p : Int) + 6 by omega] at h6
            have H6 := hide h6
            clear hrest v1 v2 h6
            rcases unhide HR with ⟨hlow, h2⟩ | ⟨b, r5, h2, b1, b2, hat12, h3⟩
            · have HO := hide h2
              clear h2
              by_cases g1 : Sp.fourI r4 < 56320
              · have f5 : decide (Sp.fourI r4 < 56320) = true := decide_eq_true g1
                clear hlow g1
                go_wp2_with (fail)
                refine (unhide H6).mono ?_
                rintro e w' ⟨rfl, rfl⟩
                go_wp2_with (fail)
                go_ret2
                exact ⟨Or.inr ⟨unhide HO, rfl⟩, bel_same⟩
              · have f5 : decide (Sp.fourI r4 < 56320) = false := decide_eq_false g1
                have f6 : decide (57344 ≤ Sp.fourI r4) = true := decide_eq_true (by omega)
                clear hlow g1
                go_wp2_with (fail)
                refine (unhide H6).mono ?_
                rintro e w' ⟨rfl, rfl⟩
                go_wp2_with (fail)
                go_ret2
                exact ⟨Or.inr ⟨unhide HO, rfl⟩, bel_same⟩
            · obtain ⟨V, hV⟩ : ∃ V, V = 65536 + (u - 55296) * 1024 + (b - 56320) := ⟨_, rfl⟩
              have hvi : 65536 + 1024 * ((u : Int) - 55296) + (b : Int) - 56320 = (V : Int) := by have := unhide HV; omega
              have hsc : Sp.Sc V := by unfold Sp.Sc; have := unhide HV; omega
              have HSC := hide hsc
              have f5 : decide ((b : Int) < 56320) = false := decide_eq_false (by omega)
              have f6 : decide ((57344 : Int) ≤ (b : Int)) = false := decide_eq_false (by omega)
              have HO := hide (show Sp.esc (c :: r2) = some (V, r5) by rw [h3, hV])
              have HAT12 := hide hat12
              clear hV hsc hat12 h3
              go_wp2_with (fail)
              refine (unhide H6).mono ?_
              rintro e w' ⟨rfl, rfl⟩
              have hb16 : u < 65536 := hu
              rw [h2]
              go_wp2_with (fail)
              refine (rCoded_any V (unhide HSC) _).mono ?_
              rintro e w2 ⟨⟨s, rfl, hs⟩, hb⟩
              have HS := hide hs
              have HB := hide hb
              clear hs hb
              go_wp2_with (fail)
              go_ret2
              exact ⟨Or.inl ⟨V, r5, s, p + 12, unhide HO, by go_num, unhide HS, unhide HAT12, by omega⟩, bel_from (unhide HB)⟩

end Go.Proofs.YtmegcejgjdkpfaaGreatDoor
