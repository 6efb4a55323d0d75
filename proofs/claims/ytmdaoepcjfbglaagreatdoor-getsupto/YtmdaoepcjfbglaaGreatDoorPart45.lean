/-
  Walk of pointer.Read.
  Walks of get and test.
  Walk of test.
-/
import Derived.Test.YtmdaoepcjfbglaaGreatDoorPart43
import Derived.Test.YtmdaoepcjfbglaaGreatDoorPart38
namespace Go.Proofs.YtmdaoepcjfbglaaGreatDoor
open Go.RowKit

/-- block g is a row of these strings -/
def SRow (w : World) (g : Nat) (ps : List Sp.By) : Prop := w.heap[g]? = some (.cells (strs ps).toArray 9 (0, 0))
theorem SRow.cell {w : World} {g : Nat} {ps : List Sp.By} (h : SRow w g ps) (k : Nat) (hk : k < ps.length) : w.cell? ⟨g, k, none⟩ = some (.string ⟨ps[k].toArray⟩) := by
  simp [World.cell?, show w.heap[g]? = _ from h, strs, hk]
theorem SRow.lt {w : World} {g : Nat} {ps : List Sp.By} (h : SRow w g ps) : g < w.heap.size := (Array.getElem?_eq_some_iff.1 h).1
theorem SRow.bel {w w' : World} {g : Nat} {ps : List Sp.By} (h : SRow w g ps) (hb : Below w.heap.size w w') : SRow w' g ps := (hb.block g h.lt).trans h
theorem SRow.fz {w : World} {g : Nat} {ps : List Sp.By} (h : SRow w g ps) (k : Nat) : w.frozen? ⟨g, k, none⟩ = false := by
  simp [World.frozen?, show w.heap[g]? = _ from h]
theorem set_mid {α : Type} (v b : α) (c : List α) : ∀ a : List α, (a ++ b :: c).set a.length v = a ++ v :: c
  | [] => rfl
  | x :: a => by
    show x :: (a ++ b :: c).set a.length v = _
    rw [set_mid v b c a]; rfl
theorem SRow.set {w : World} {g : Nat} {ks rest : List Sp.By} {t s : Sp.By} (h : SRow w g ([] :: (ks ++ t :: rest))) : SRow (w.setCell ⟨g, 1 + ks.length, none⟩ (.string ⟨s.toArray⟩)) g ([] :: ((ks ++ [s]) ++ rest)) := by
  have e : (strs ([] :: (ks ++ t :: rest))).toArray.setIfInBounds (1 + ks.length) (.string ⟨s.toArray⟩) = (strs ([] :: ((ks ++ [s]) ++ rest))).toArray := by
    rw [List.setIfInBounds_toArray]
    congr 1
    unfold strs
    rw [Nat.add_comm, List.map_cons, List.set_cons_succ, List.map_cons, List.map_append, List.map_cons, List.append_assoc, List.map_append]
    congr 1
    have := set_mid (Value.string ⟨s.toArray⟩) (Value.string ⟨t.toArray⟩) (rest.map fun p => Value.string ⟨p.toArray⟩) (ks.map fun p => Value.string ⟨p.toArray⟩)
    rw [List.length_map] at this
    rw [this]; rfl
  unfold SRow
  rw [← e]
  simp only [World.setCell, Array.getElem?_modify]
  rw [if_pos trivial, show w.heap[g]? = _ from h]; rfl

theorem keysOf_step {t : Sp.By} {rest : List Sp.By} : Sp.keysOf (t :: rest) = match Sp.une t with | none => none | some k => (Sp.keysOf rest).map (k :: ·) := rfl

theorem pcs_le : ∀ (l : Sp.By), ∀ t ∈ Sp.pcs l, t.length ≤ l.length
  | [], t, h => by
    have : t = [] := by simpa [Sp.pcs] using h
    rw [this]; exact Nat.le_refl _
  | c :: r, t, h => by
    unfold Sp.pcs at h
    split at h
    · rcases List.mem_cons.1 h with e | e
      · rw [e]; exact Nat.zero_le _
      · exact Nat.le_succ_of_le (pcs_le r t e)
    · split at h
      · rename_i p ps hp
        rcases List.mem_cons.1 h with e | e
        · rw [e]
          exact Nat.succ_le_succ (pcs_le r p (by rw [hp]; exact List.mem_cons_self ..))
        · exact Nat.le_succ_of_le (pcs_le r t (by rw [hp]; exact List.mem_cons_of_mem _ e))
      · rcases List.mem_cons.1 h with e | e
        · rw [e]; simp
        · cases e

/-- what Read answers -/
def ptrEnd (o : Option (List Sp.By)) (e : Ending) (w' : World) : Prop := match o with
  | some ks => ∃ v, e = .returned (.tuple #[v, .bool true]) ∧ Toks w' v ks
  | none => e = .returned (.tuple #[.slice none 0 0, .bool false])

set_option maxRecDepth 100000 in
set_option maxHeartbeats 8000000 in
theorem pRead_any {l : Sp.By} {w : World} (hn : l.length ≤ 1048576) (hT : Laid w) (hP : PTab w) (hm : Mx w) :
    Calls Tryz.prog 71 #[.string ⟨l.toArray⟩] w fun e w' => ptrEnd (Sp.toks l) e w' ∧ Below w.heap.size w w' := by
  have hv := hide (valid_any l w hn hT)
  obtain ⟨R, hR⟩ : ∃ R, R = Sp.toks l := ⟨_, rfl⟩
  rw [← hR]
  have HR := hide hR
  have HM := hide hm
  have HP := hide hP
  clear hR hm hP hT
  cases hva : Lib.validD l with
  | false =>
    have HV := hide (show R = none by rw [unhide HR]; unfold Sp.toks; rw [hva]; rfl)
    rw [hva] at hv
    clear hva
    go_enter Tryz.func71, Tryz.ntmps71
    go_wp2_with (fail)
    refine (unhide hv).mono ?_
    rintro e w1 ⟨rfl, hb1⟩
    go_wp2_with (fail)
    go_ret2
    exact ⟨by rw [unhide HV]; rfl, hb1⟩
  | true =>
    have HV := hide (show R = match Sp.pcs l with | [] :: r => Sp.keysOf r | _ => none by rw [unhide HR]; unfold Sp.toks; rw [hva]; rfl)
    rw [hva] at hv
    clear hva
    go_enter Tryz.func71, Tryz.ntmps71
    go_wp2_with (fail)
    refine (unhide hv).mono ?_
    rintro e w1 ⟨rfl, hb1⟩
    have HB1 := hide hb1
    have hsp := hide (split_any l w1 hn ((unhide HM).kept hb1))
    clear hb1 hv
    go_wp2_with (fail)
    refine (unhide hsp).mono ?_
    rintro e w2 ⟨rfl, rfl⟩
    have HN := hide (pcs_len l)
    have hcl : l.count 47 ≤ l.length := List.count_le_length
    have h0 : SRow (w1.alloc (.cells (strs (Sp.pcs l)).toArray 9)) w1.heap.size (Sp.pcs l) := by
      show (w1.heap.push _)[w1.heap.size]? = _; simp
    have hba := (unhide HB1).alloc (unhide HB1).size (.cells (strs (Sp.pcs l)).toArray 9)
    have hgs : w1.heap.size < (w1.alloc (.cells (strs (Sp.pcs l)).toArray 9)).heap.size := by simp
    have HBA := hide hba
    have hG := (unhide HB1).size
    clear hba
    have HTP := hide (pcs_le l)
    cases hpc : Sp.pcs l with
    | nil => exact absurd hpc (pcs_ne l)
    | cons t0 tks =>
      rw [hpc] at h0 HV HBA HN HTP
      have hlen : tks.length ≤ 1048576 := by have := unhide HN; simp only [List.length_cons] at this; omega
      generalize w1.alloc (.cells (strs (t0 :: tks)).toArray 9) = w2 at *
      have c0 := h0.cell 0 (by simp)
      simp only [List.getElem_cons_zero] at c0
      have H0 := hide h0
      clear hpc h0 hsp
      cases t0 with
      | cons a q =>
        have HN1 := hide (show R = none from unhide HV)
        go_wp2_with (fail)
        go_ret2
        exact ⟨by rw [unhide HN1]; rfl, unhide HBA⟩
      | nil =>
        have HV1 := hide (show R = Sp.keysOf tks from unhide HV)
        have HTL := hide (show ∀ t ∈ tks, t.length ≤ 1048576 from fun t ht => Nat.le_trans (unhide HTP t (List.mem_cons_of_mem _ ht)) hn)
        clear HV
        simp only [List.length_cons]
        by_cases h00 : tks = []
        · have HN2 := hide (show R = some [] by rw [unhide HV1, h00]; rfl)
          subst h00
          simp only [List.length_nil]
          go_wp2_with (fail)
          refine wp_loop_rounds 1 ?_
          rw [rounds_succ]
          go_wp2_with (fail)
          go_ret2
          exact ⟨by rw [unhide HN2]; exact ⟨_, rfl, Or.inl ⟨rfl, _, _, rfl⟩⟩, unhide HBA⟩
        · obtain ⟨N, hN⟩ : ∃ N, N = tks.length := ⟨_, rfl⟩
          have hpos : 0 < N := by rw [hN]; exact List.length_pos_iff.2 h00
          have HNN := hide hN
          rw [← hN]
          have hn1 : (N : Int) ≤ 1048576 := by omega
          have hn2 : (1 : Int) ≤ (N : Int) + 1 := by omega
          clear hN hlen HN h00
          go_wp2_with (fail)
          go_loopw [23] (fun i wr => ∃ (ks rest : List Sp.By), i = .int .i64 ks.length ∧ ks.length + rest.length = N ∧ Hid (SRow wr w1.heap.size ([] :: (ks ++ rest))) ∧ Hid (Below w.heap.size w wr) ∧ Hid (Sp.keysOf tks = (Sp.keysOf rest).map (ks ++ ·)) ∧ Hid (∀ t ∈ rest, t.length ≤ 1048576))
            (fun i _ => N - (intOf i).toNat)
          case atStart => exact ⟨[], tks, rfl, by have := unhide HNN; simp; omega, H0, HBA, by show Sp.keysOf tks = _; cases Sp.keysOf tks <;> rfl, HTL⟩
          case round =>
            obtain ⟨ks, rest, rfl, hkr, HSR, HB, HE, HT2⟩ := hrel
            cases rest with
            | nil =>
              have hkN : ks.length = N := by simpa using hkr
              have HOUT := hide (show ∀ cap, ptrEnd R (.returned (.tuple #[.slice (some ⟨w1.heap.size, 1, none⟩) N cap, .bool true])) wr from fun cap => by
                rw [unhide HV1, unhide HE]
                refine ⟨_, rfl, Or.inr ⟨_, cap, ?_, (unhide HSR).lt, fun k hk => ?_⟩⟩
                · simp [hkN]
                · have hk2 : k < ks.length := by simpa using hk
                  have h9 := (unhide HSR).cell (1 + k) (by simp; omega)
                  rw [h9]
                  simp [Nat.add_comm 1 k])
              have hlt2 : ¬ ((ks.length : Nat) : Int) < (N : Int) := by omega
              go_wp2_with (fail)
              go_ret2
              exact ⟨unhide HOUT _, unhide HB⟩
            | cons t r =>
              have hlt2 : ((ks.length : Nat) : Int) < (N : Int) := by simp only [List.length_cons] at hkr; omega
              have c1 : wr.cell? ⟨w1.heap.size, 1 + ks.length, none⟩ = some (.string ⟨t.toArray⟩) := by
                rw [(unhide HSR).cell (1 + ks.length) (by simp; omega)]
                simp [Nat.add_comm 1 ks.length]
              have hcall := hide (unescape_any (l := t) (unhide HT2 t (by simp)) ((unhide HP).kept (unhide HB)) ((unhide HM).kept (unhide HB)))
              clear c0
              go_wp2_with (fail)
              refine (unhide hcall).mono ?_
              rintro e w3 ⟨hue, hb3⟩
              have HB3 := hide ((unhide HB).trans (hb3.mono (unhide HB).size))
              have HSR3 := hide ((unhide HSR).bel hb3)
              clear hb3 hcall c1
              cases hun : Sp.une t with
              | none =>
                rw [hun] at hue
                have hue2 : e = .returned (.tuple #[.string ⟨#[]⟩, .bool false]) := hue
                subst hue2
                have HN2 := hide (show R = none by rw [unhide HV1, unhide HE, keysOf_step, hun]; rfl)
                clear hue hun
                go_wp2_with (fail)
                go_ret2
                exact ⟨by rw [unhide HN2]; rfl, unhide HB3⟩
              | some s =>
                rw [hun] at hue
                have hue2 : e = .returned (.tuple #[.string ⟨s.toArray⟩, .bool true]) := hue
                subst hue2
                have HE3 := hide (show Sp.keysOf tks = (Sp.keysOf r).map ((ks ++ [s]) ++ ·) by
                  rw [unhide HE, keysOf_step, hun]
                  cases Sp.keysOf r <;> simp)
                have fz := (unhide HSR3).fz (1 + ks.length)
                have c3 : w3.cell? ⟨w1.heap.size, 1 + ks.length, none⟩ = some (.string ⟨t.toArray⟩) := by
                  rw [(unhide HSR3).cell (1 + ks.length) (by simp; omega)]
                  simp [Nat.add_comm 1 ks.length]
                clear hue hun
                go_wp2_with (fail)
                refine ⟨⟨ks ++ [s], r, by simp, ?_, (unhide HSR3).set, (unhide HB3).setCell (p := ⟨w1.heap.size, 1 + ks.length, none⟩) hG _, HE3, fun t' ht' => unhide HT2 t' (by simp [ht'])⟩, ?_⟩
                · simp only [List.length_append, List.length_cons, List.length_nil] at hkr ⊢; omega
                · simp only [List.length_cons] at hkr; simp only [intOf]; omega

end Go.Proofs.YtmdaoepcjfbglaaGreatDoor

namespace Go.Proofs.YtmdaoepcjfbglaaGreatDoor
open Go.RowKit

theorem Toks.bel {w w' : World} {v : Value} {l : List Sp.By} (h : Toks w v l) (hb : Below w.heap.size w w') : Toks w' v l := by
  rcases h with h | ⟨g, cap, rfl, hg, hc⟩
  · exact Or.inl h
  · exact Or.inr ⟨g, cap, rfl, Nat.lt_of_lt_of_le hg hb.size, fun k hk => (hb.cell (p := ⟨g, 1 + k, none⟩) hg).trans (hc k hk)⟩
theorem DocF.bel {w w' : World} {F : Nat → Prop} {p : Value} {doc : Sp.Doc} (h : DocF w F p doc) (hb : Below w.heap.size w w') : DocF w' F p doc := h.move fun k h1 h2 => ⟨hb.block k h2, h1⟩
theorem DocW.bel {w w' : World} {F : Nat → Prop} {D R g : Nat} {wp : Value} {v : Sp.V × Sp.Inv} (h : DocW w F D R g wp v) (hb : Below w.heap.size w w') : DocW w' F D R g wp v := h.move fun k h1 h2 => ⟨hb.block k h2, h1⟩
/-- what is found in a document can be told -/
theorem found_can {F : Nat → Prop} {w : World} {v : Value} {dd xx lv : Int} {d e : Sp.V} {l : List Sp.By} (hg : Sp.gd dd xx top lv d) (hl : (Sp.can top d).length ≤ 80000) (hf : Sp.find d l = .ok e) (h : RepE F w v e) :
    ∃ M, Rep M F w v e ∧ Sp.can M e = Sp.can top e ∧ (Sp.can M e).length ≤ 80000 := by
  obtain ⟨f', lv', h1, h2, h3⟩ := gd_find l top lv d e hg hf
  obtain ⟨f, h⟩ := h
  refine ⟨max f top, h.up (Nat.le_max_left _ _), ?_, ?_⟩
  · rw [can_up f' _ lv' e h2 (Nat.le_trans h1 (Nat.le_max_right _ _)), can_up f' _ lv' e h2 h1]
  · rw [can_up f' _ lv' e h2 (Nat.le_trans h1 (Nat.le_max_right _ _))]; omega

theorem find_err : ∀ {l : List Sp.By} {d : Sp.V} {c : Nat}, Sp.find d l = .error c → c = 11 ∨ c = 12
  | [], d, c, h => by cases h
  | t :: r, d, c, h => by
    unfold Sp.find at h
    split at h
    · exact find_err h
    · rename_i c2 hc
      injection h with h
      subst h
      exact child_err hc

set_option maxHeartbeats 4000000 in
theorem get_ok : GetOk := by
  intro S d e n p v F s w hn hS hD hT
  obtain ⟨D, R, g, wp, rfl, hdw⟩ := hD
  have hba : Below w.heap.size w (w.alloc (.cells #[.int .i64 0, .int .i64 0, .string ⟨#[]⟩] 46)) := (Below.refl _ _).alloc (Nat.le_refl _) _
  have hTa := hT.below (hba.mono hT.ng)
  have hcall := hide (pRead_any hn hTa hTa.pesc hTa.mx)
  have HDW := hide (hdw.bel hba)
  have HS := hide (hS.low hba)
  have HT := hide hTa
  have HA := hide (AB.new w)
  have HBA := hide hba
  have hng := hT.ng
  have hTL := hide (fun ks (h : Sp.toks s = some ks) => toks_len h)
  obtain ⟨RR, hRR⟩ : ∃ RR, RR = Sp.gotA v.1 s := ⟨_, rfl⟩
  rw [← hRR]
  have HRR := hide hRR
  clear hT hS hdw hTa hba hRR
  go_enter Tryz.func51, Tryz.ntmps51
  go_wp2_with (fail)
  refine (unhide hcall).mono ?_
  rintro x w1 ⟨he, hb1⟩
  have A1 := hide ((unhide HA).low hb1)
  have S1 := hide ((unhide HS).low hb1)
  have D1 := hide ((unhide HDW).bel hb1)
  have T1 := hide ((unhide HT).below (hb1.mono (unhide HT).ng))
  have hb01 := (unhide HBA).trans (hb1.mono (unhide HBA).size)
  have HB1 := hide hb01
  clear hb1 hb01 HA HS HDW HBA HT hcall
  cases htk : Sp.toks s with
  | none =>
    rw [htk] at he
    have he2 : x = .returned (.tuple #[.slice none 0 0, .bool false]) := he
    subst he2
    have HE := hide (show RR = (9, 0, []) by rw [unhide HRR]; unfold Sp.gotA; rw [htk])
    clear he htk
    go_wp2_with (fail)
    refine (failed_any 9 _).mono ?_
    rintro x w2 ⟨rfl, hb2⟩
    have a2 := (unhide A1).low hb2
    have g0 := a2.c0
    have g1 := a2.c1
    have g2 := a2.c2
    have z := a2.fz
    have HB2 := hide ((unhide HB1).trans (hb2.mono (unhide HB1).size))
    clear a2 hb2
    unfold ansV
    go_wp2_with (fail)
    refine bodyPost_ret (v := ansV 9 []) (by simp [results, Tryz.results51, go_sem, ansV, g0, g1, g2]) rfl ⟨?_, ?_⟩
    · rw [unhide HE]; rfl
    · exact below_set (below_set (below_set (unhide HB2) _ 0 (by omega) _) _ 1 (by omega) _) _ 2 (by omega) _
  | some ks =>
    rw [htk] at he
    obtain ⟨pv, rfl, hpv⟩ := he
    have HPV := hide hpv
    have HTK := hide htk
    clear hpv htk
    have d0 := (unhide S1).c3
    go_wp2_with (fail)
    refine (Whole_any (unhide D1)).mono ?_
    rintro x w2 ⟨rfl, hb2⟩
    have A2 := hide ((unhide A1).low hb2)
    have D2 := hide ((unhide D1).bel hb2)
    have T2 := hide ((unhide T1).below (hb2.mono (unhide T1).ng))
    have P2 := hide ((unhide HPV).bel hb2)
    have HB2 := hide ((unhide HB1).trans (hb2.mono (unhide HB1).size))
    clear hb2 A1 D1 T1 HPV HB1 d0
    go_wp2_with (fail)
    have hkl := unhide hTL ks (unhide HTK)
    refine (Find_any (F := F) (d := v.1) (fun t ht => Nat.le_trans (hkl.2 t ht) hn) (Nat.le_trans hkl.1 hn) (unhide T2).rng ⟨top, (unhide D2).rep⟩ (unhide P2)).mono ?_
    rintro x w3 ⟨ho, hb3⟩
    have A3 := hide ((unhide A2).low hb3)
    have D3 := hide ((unhide D2).bel hb3)
    have T3 := hide ((unhide T2).below (hb3.mono (unhide T2).ng))
    have HB3 := hide ((unhide HB2).trans (hb3.mono (unhide HB2).size))
    clear hb3 A2 D2 T2 P2 HB2 hkl
    cases hfd : Sp.find v.1 ks with
    | error c =>
      rw [hfd] at ho
      have ho2 : x = .returned (.tuple #[.pointer none, .int .i64 c]) := ho
      subst ho2
      have HE := hide (show RR = (c, 0, []) by rw [unhide HRR]; unfold Sp.gotA; rw [unhide HTK]; simp only [hfd])
      have hc0 : c = 11 ∨ c = 12 := find_err hfd
      have e1 : ((c : Int) == 0) = false := by rw [beq_eq_false_iff_ne]; omega
      have e2 : ((c : Int) != 0) = true := by rw [bne_iff_ne]; omega
      clear ho hfd hc0
      go_wp2_with (fail)
      refine (failed_any c _).mono ?_
      rintro x w4 ⟨rfl, hb4⟩
      have a2 := (unhide A3).low hb4
      have g0 := a2.c0
      have g1 := a2.c1
      have g2 := a2.c2
      have z := a2.fz
      have HB4 := hide ((unhide HB3).trans (hb4.mono (unhide HB3).size))
      clear a2 hb4
      unfold ansV
      go_wp2_with (fail)
      refine bodyPost_ret (v := ansV c []) (by simp [results, Tryz.results51, go_sem, ansV, g0, g1, g2]) rfl ⟨?_, ?_⟩
      · rw [unhide HE]; rfl
      · exact below_set (below_set (below_set (unhide HB4) _ 0 (by omega) _) _ 1 (by omega) _) _ 2 (by omega) _
    | ok y =>
      rw [hfd] at ho
      obtain ⟨yv, rfl, hy⟩ := ho
      have HE := hide (show RR = (0, 0, Sp.can top y) by rw [unhide HRR]; unfold Sp.gotA; rw [unhide HTK]; simp only [hfd])
      obtain ⟨dd, xx, lv, hgd⟩ := (unhide D3).gd
      obtain ⟨M, hM, hMc, hMl⟩ := found_can hgd (unhide D3).len hfd hy
      have HCAN := hide (Canonical_any hM (unhide T3) (by omega))
      rw [hMc] at HCAN
      clear hfd hy hgd hM hMc hMl
      go_wp2_with (fail)
      refine (unhide HCAN).mono ?_
      rintro x w4 ⟨rfl, hb4⟩
      have a2 := (unhide A3).low hb4
      have g0 := a2.c0
      have g1 := a2.c1
      have g2 := a2.c2
      have z := a2.fz
      have HB4 := hide ((unhide HB3).trans (hb4.mono (unhide HB3).size))
      clear a2 hb4 HCAN
      go_wp2_with (fail)
      refine bodyPost_ret (v := ansV 0 (Sp.can top y)) (by simp [results, Tryz.results51, go_sem, ansV, g0, g1, g2]) rfl ⟨?_, ?_⟩
      · rw [unhide HE]; rfl
      · exact below_set (below_set (below_set (unhide HB4) _ 0 (by omega) _) _ 1 (by omega) _) _ 2 (by omega) _

end Go.Proofs.YtmdaoepcjfbglaaGreatDoor

namespace Go.Proofs.YtmdaoepcjfbglaaGreatDoor
open Go.RowKit

theorem tst_none {d e : Int} {v : Sp.V} {s t : Sp.By} (h : Sp.toks s = none) : Sp.tst d e v s t = 9 := by unfold Sp.tst; rw [h]
theorem tst_bad {d e : Int} {v : Sp.V} {s t : Sp.By} {ks : List Sp.By} {c : Nat} (h : Sp.toks s = some ks) (h2 : Sp.readTo t d e = (c, none)) : Sp.tst d e v s t = c := by unfold Sp.tst; rw [h]; simp only [h2]
theorem tst_err {d e : Int} {v : Sp.V} {s t : Sp.By} {ks : List Sp.By} {x : Sp.V} {c : Nat} (h : Sp.toks s = some ks) (h2 : Sp.readTo t d e = (0, some x)) (h3 : Sp.find v ks = .error c) : Sp.tst d e v s t = c := by unfold Sp.tst; rw [h]; simp only [h2, h3]
theorem tst_ok {d e : Int} {v : Sp.V} {s t : Sp.By} {ks : List Sp.By} {x y : Sp.V} (h : Sp.toks s = some ks) (h2 : Sp.readTo t d e = (0, some x)) (h3 : Sp.find v ks = .ok y) : Sp.tst d e v s t = if veq y x = true then 0 else 14 := by unfold Sp.tst; rw [h]; simp only [h2, h3]

theorem same_top {f : Nat} {F F' : Nat → Prop} {w : World} {v v' : Value} {a b : Sp.V} (h : Rep f F w v a) (h' : Rep top F' w v' b) : Calls Tryz.prog 73 #[v, v'] w fun e w' => e = .returned (.bool (veq a b)) ∧ Below w.heap.size w w' :=
  Same_any (max f top) F F' w v v' a b (h.up (Nat.le_max_left _ _)) (h'.up (Nat.le_max_right _ _))

set_option maxHeartbeats 4000000 in
theorem test_ok : TestOk := by
  intro S d e n p v F s t w hn hS hD hT
  obtain ⟨D, R, g, wp, rfl, hdw⟩ := hD
  have hba : Below w.heap.size w (w.alloc (.cells #[.int .i64 0, .int .i64 0, .string ⟨#[]⟩] 46)) := (Below.refl _ _).alloc (Nat.le_refl _) _
  have hTa := hT.below (hba.mono hT.ng)
  have hcall := hide (pRead_any hn hTa hTa.pesc hTa.mx)
  have HDW := hide (hdw.bel hba)
  have HS := hide (hS.low hba)
  have HT := hide hTa
  have HA := hide (AB.new w)
  have HBA := hide hba
  have hng := hT.ng
  have hTL := hide (fun ks (h : Sp.toks s = some ks) => toks_len h)
  obtain ⟨RR, hRR⟩ : ∃ RR, RR = Sp.tst d e v.1 s t := ⟨_, rfl⟩
  rw [← hRR]
  have HRR := hide hRR
  clear hT hS hdw hTa hba hRR
  go_enter Tryz.func52, Tryz.ntmps52
  go_wp2_with (fail)
  refine (unhide hcall).mono ?_
  rintro x w1 ⟨he, hb1⟩
  have A1 := hide ((unhide HA).low hb1)
  have S1 := hide ((unhide HS).low hb1)
  have D1 := hide ((unhide HDW).bel hb1)
  have T1 := hide ((unhide HT).below (hb1.mono (unhide HT).ng))
  have hb01 := (unhide HBA).trans (hb1.mono (unhide HBA).size)
  have HB1 := hide hb01
  clear hb1 hb01 HA HS HDW HBA HT hcall
  cases htk : Sp.toks s with
  | none =>
    rw [htk] at he
    have he2 : x = .returned (.tuple #[.slice none 0 0, .bool false]) := he
    subst he2
    have HE := hide (show RR = 9 by rw [unhide HRR, tst_none htk])
    clear he htk
    go_wp2_with (fail)
    refine (failed_any 9 _).mono ?_
    rintro x w2 ⟨rfl, hb2⟩
    have a2 := (unhide A1).low hb2
    have g0 := a2.c0
    have g1 := a2.c1
    have g2 := a2.c2
    have z := a2.fz
    have HB2 := hide ((unhide HB1).trans (hb2.mono (unhide HB1).size))
    clear a2 hb2
    unfold ansV
    go_wp2_with (fail)
    refine bodyPost_ret (v := ansV 9 []) (by simp [results, Tryz.results52, go_sem, ansV, g0, g1, g2]) rfl ⟨?_, ?_⟩
    · rw [unhide HE]; rfl
    · exact below_set (below_set (below_set (unhide HB2) _ 0 (by omega) _) _ 1 (by omega) _) _ 2 (by omega) _
  | some ks =>
    rw [htk] at he
    obtain ⟨pv, rfl, hpv⟩ := he
    have HPV := hide hpv
    have HTK := hide htk
    clear hpv htk
    go_wp2_with (fail)
    refine (sread_any t (unhide S1) (unhide T1)).mono ?_
    rintro x w2 ⟨p2, c, rfl, hb2, hcs⟩
    have A2 := hide ((unhide A1).low hb2)
    have S2 := hide ((unhide S1).low hb2)
    have D2 := hide ((unhide D1).bel hb2)
    have T2 := hide ((unhide T1).below (hb2.mono (unhide T1).ng))
    have P2 := hide ((unhide HPV).bel hb2)
    have HB2 := hide ((unhide HB1).trans (hb2.mono (unhide HB1).size))
    clear hb2 A1 D1 T1 S1 HPV HB1
    rcases hcs with ⟨hpos, hrd⟩ | ⟨rfl, xv, hrd, hrep⟩
    · have HE := hide (show RR = c by rw [unhide HRR, tst_bad (unhide HTK) hrd])
      have e0 : ((c : Int) != 0) = true := by simp; omega
      clear hrd hpos
      go_wp2_with (fail)
      refine (failed_any c _).mono ?_
      rintro x w3 ⟨rfl, hb3⟩
      have a2 := (unhide A2).low hb3
      have g0 := a2.c0
      have g1 := a2.c1
      have g2 := a2.c2
      have z := a2.fz
      have HB3 := hide ((unhide HB2).trans (hb3.mono (unhide HB2).size))
      clear a2 hb3
      unfold ansV
      go_wp2_with (fail)
      refine bodyPost_ret (v := ansV c []) (by simp [results, Tryz.results52, go_sem, ansV, g0, g1, g2]) rfl ⟨?_, ?_⟩
      · rw [unhide HE]; rfl
      · exact below_set (below_set (below_set (unhide HB3) _ 0 (by omega) _) _ 1 (by omega) _) _ 2 (by omega) _
    have HRD := hide hrd
    have HX := hide hrep
    clear hrd hrep
    have d0 := (unhide S2).c3
    go_wp2_with (fail)
    refine (Whole_any (unhide D2)).mono ?_
    rintro x w3 ⟨rfl, hb3⟩
    have A3 := hide ((unhide A2).low hb3)
    have D3 := hide ((unhide D2).bel hb3)
    have T3 := hide ((unhide T2).below (hb3.mono (unhide T2).ng))
    have P3 := hide ((unhide P2).bel hb3)
    have X3 := hide ((unhide HX).bel hb3)
    have HB3 := hide ((unhide HB2).trans (hb3.mono (unhide HB2).size))
    clear hb3 A2 D2 T2 P2 HX HB2 d0 S2
    go_wp2_with (fail)
    have hkl := unhide hTL ks (unhide HTK)
    refine (Find_any (F := F) (d := v.1) (fun t ht => Nat.le_trans (hkl.2 t ht) hn) (Nat.le_trans hkl.1 hn) (unhide T3).rng ⟨top, (unhide D3).rep⟩ (unhide P3)).mono ?_
    rintro x w4 ⟨ho, hb4⟩
    have A4 := hide ((unhide A3).low hb4)
    have T4 := hide ((unhide T3).below (hb4.mono (unhide T3).ng))
    have X4 := hide ((unhide X3).bel hb4)
    have HB4 := hide ((unhide HB3).trans (hb4.mono (unhide HB3).size))
    clear hb4 A3 D3 T3 P3 HB3 X3 hkl
    cases hfd : Sp.find v.1 ks with
    | error c =>
      rw [hfd] at ho
      have ho2 : x = .returned (.tuple #[.pointer none, .int .i64 c]) := ho
      subst ho2
      have HE := hide (show RR = c by rw [unhide HRR, tst_err (unhide HTK) (unhide HRD) hfd])
      have hc0 : c = 11 ∨ c = 12 := find_err hfd
      have e1 : ((c : Int) == 0) = false := by rw [beq_eq_false_iff_ne]; omega
      have e2 : ((c : Int) != 0) = true := by rw [bne_iff_ne]; omega
      clear ho hfd hc0
      go_wp2_with (fail)
      refine (failed_any c _).mono ?_
      rintro x w5 ⟨rfl, hb5⟩
      have a2 := (unhide A4).low hb5
      have g0 := a2.c0
      have g1 := a2.c1
      have g2 := a2.c2
      have z := a2.fz
      have HB5 := hide ((unhide HB4).trans (hb5.mono (unhide HB4).size))
      clear a2 hb5
      unfold ansV
      go_wp2_with (fail)
      refine bodyPost_ret (v := ansV c []) (by simp [results, Tryz.results52, go_sem, ansV, g0, g1, g2]) rfl ⟨?_, ?_⟩
      · rw [unhide HE]; rfl
      · exact below_set (below_set (below_set (unhide HB5) _ 0 (by omega) _) _ 1 (by omega) _) _ 2 (by omega) _
    | ok y =>
      rw [hfd] at ho
      obtain ⟨yv, rfl, f, hy⟩ := ho
      have HE := hide (show RR = if veq y xv = true then 0 else 14 by rw [unhide HRR, tst_ok (unhide HTK) (unhide HRD) hfd])
      have HSAME := hide (same_top hy (unhide X4))
      clear hfd hy
      go_wp2_with (fail)
      refine (unhide HSAME).mono ?_
      rintro x w5 ⟨rfl, hb5⟩
      have A5 := hide ((unhide A4).low hb5)
      have HB5 := hide ((unhide HB4).trans (hb5.mono (unhide HB4).size))
      have T5 := hide ((unhide T4).below (hb5.mono (unhide T4).ng))
      clear hb5 A4 HB4 T4 HSAME X4
      cases hq : veq y xv with
      | false =>
        have HE2 := hide (show RR = 14 by rw [unhide HE, hq, if_neg (by decide)])
        clear hq HE
        go_wp2_with (fail)
        refine (failed_any 14 _).mono ?_
        rintro x w6 ⟨rfl, hb6⟩
        have a2 := (unhide A5).low hb6
        have g0 := a2.c0
        have g1 := a2.c1
        have g2 := a2.c2
        have z := a2.fz
        have HB6 := hide ((unhide HB5).trans (hb6.mono (unhide HB5).size))
        clear a2 hb6
        unfold ansV
        go_wp2_with (fail)
        refine bodyPost_ret (v := ansV 14 []) (by simp [results, Tryz.results52, go_sem, ansV, g0, g1, g2]) rfl ⟨?_, ?_⟩
        · rw [unhide HE2]; rfl
        · exact below_set (below_set (below_set (unhide HB6) _ 0 (by omega) _) _ 1 (by omega) _) _ 2 (by omega) _
      | true =>
        have HE2 := hide (show RR = 0 by rw [unhide HE, hq, if_pos rfl])
        clear hq HE
        have a2 := unhide A5
        have g0 := a2.c0
        have g1 := a2.c1
        have g2 := a2.c2
        have z := a2.fz
        clear a2
        go_wp2_with (fail)
        refine bodyPost_ret (v := ansV 0 []) (by simp [results, Tryz.results52, go_sem, ansV, g0, g1, g2]) rfl ⟨?_, ?_⟩
        · rw [unhide HE2]; rfl
        · exact below_set (below_set (below_set (unhide HB5) _ 0 (by omega) _) _ 1 (by omega) _) _ 2 (by omega) _

end Go.Proofs.YtmdaoepcjfbglaaGreatDoor
