/-
  Walk of test.
-/
import Derived.Test.YtdpomdelmdofmaaGreatDoorPart50
import Derived.Test.YtdpomdelmdofmaaGreatDoorPart49
import Derived.Test.YtdpomdelmdofmaaGreatDoorPart45
namespace Go.Proofs.YtdpomdelmdofmaaGreatDoor
open Go.RowKit
theorem tst_none {d e : Int} {v : Sp.V} {s t : Sp.By} (h : Sp.toks s = none) : Sp.tst d e v s t = 9 := by unfold Sp.tst; rw [h]
theorem tst_bad {d e : Int} {v : Sp.V} {s t : Sp.By} {ks : List Sp.By} {c : Nat} (h : Sp.toks s = some ks) (h2 : Sp.readTo t d e = (c, none)) : Sp.tst d e v s t = c := by unfold Sp.tst; rw [h]; simp only [h2]
theorem tst_err {d e : Int} {v : Sp.V} {s t : Sp.By} {ks : List Sp.By} {x : Sp.V} {c : Nat} (h : Sp.toks s = some ks) (h2 : Sp.readTo t d e = (0, some x)) (h3 : Sp.find v ks = .error c) : Sp.tst d e v s t = c := by unfold Sp.tst; rw [h]; simp only [h2, h3]
theorem tst_ok {d e : Int} {v : Sp.V} {s t : Sp.By} {ks : List Sp.By} {x y : Sp.V} (h : Sp.toks s = some ks) (h2 : Sp.readTo t d e = (0, some x)) (h3 : Sp.find v ks = .ok y) : Sp.tst d e v s t = if veq y x = true then 0 else 14 := by unfold Sp.tst; rw [h]; simp only [h2, h3]
theorem same_top {f : Nat} {F F' : Nat → Prop} {w : World} {v v' : Value} {a b : Sp.V} (h : Rep f F w v a) (h' : Rep top F' w v' b) : Calls Tryz.prog 82 #[v, v'] w fun e w' => e = .returned (.bool (veq a b)) ∧ Below w.heap.size w w' :=
 Same_any (max f top) F F' w v v' a b (h.up (Nat.le_max_left _ _)) (h'.up (Nat.le_max_right _ _))
set_option maxHeartbeats 4000000 in
theorem test_ok : TestOk := by
 intro S d e n p v F s t w hn hS hD hT
 obtain ⟨D, R, wp, rfl, hdw⟩ := hD
 have hba : Below w.heap.size w (w.alloc (.cells #[.int .i64 0, .int .i64 0, .string ⟨#[]⟩] 46)) := (Below.refl _ _).alloc (Nat.le_refl _) _
 have hTa := hT.below (hba.mono hT.ng)
 have hcall := hide (pRead_any hn hTa hTa.pesc hTa.mx)
 have HDW := hide (hdw.bel hba)
 have HS := hide (hS.low hba)
 have HT := hide hTa
 have HA := hide (AB.new w)
 have HBA := hide hba
 have hng := hT.ng
 have hTL := hide (fun ks (h : Sp.toks s = some ks) => toks_len h)
 obtain ⟨RR, hRR⟩ : ∃ RR, RR = Sp.tst d e v.1 s t := ⟨_, rfl⟩
 rw [← hRR]
 have HRR := hide hRR
 clear hT hS hdw hTa hba hRR
 go_enter Tryz.func58, Tryz.ntmps58
 go_wp2_with (fail)
 refine (unhide hcall).mono ?_
 rintro x w1 ⟨he, hb1⟩
 have A1 := hide ((unhide HA).low hb1)
 have S1 := hide ((unhide HS).low hb1)
 have D1 := hide ((unhide HDW).bel hb1)
 have T1 := hide ((unhide HT).below (hb1.mono (unhide HT).ng))
 have hb01 := (unhide HBA).trans (hb1.mono (unhide HBA).size)
 have HB1 := hide hb01
 clear hb1 hb01 HA HS HDW HBA HT hcall
 cases htk : Sp.toks s with
 | none =>
  rw [htk] at he
  have he2 : x = .returned (.tuple #[.slice none 0 0, .bool false]) := he
  subst he2
  have HE := hide (show RR = 9 by rw [unhide HRR, tst_none htk])
  clear he htk
  go_wp2_with (fail)
  refine (failed_any 9 _).mono ?_
  rintro x w2 ⟨rfl, hb2⟩
  have a2 := (unhide A1).low hb2
  have g0 := a2.c0
  have g1 := a2.c1
  have g2 := a2.c2
  have z := a2.fz
  have HB2 := hide ((unhide HB1).trans (hb2.mono (unhide HB1).size))
  clear a2 hb2
  unfold ansV
  go_wp2_with (fail)
  refine bodyPost_ret (v := ansV 9 []) (by simp [results, Tryz.results58, go_sem, ansV, g0, g1, g2]) rfl ⟨?_, ?_⟩
  ·rw [unhide HE]; rfl
  ·exact below_set (below_set (below_set (unhide HB2) _ 0 (by omega) _) _ 1 (by omega) _) _ 2 (by omega) _
 | some ks =>
  rw [htk] at he
  obtain ⟨pv, rfl, hpv⟩ := he
  have HPV := hide hpv
  have HTK := hide htk
  clear hpv htk
  go_wp2_with (fail)
  refine (sread_any t (unhide S1) (unhide T1)).mono ?_
  rintro x w2 ⟨p2, c, rfl, hb2, hcs⟩
  have A2 := hide ((unhide A1).low hb2)
  have S2 := hide ((unhide S1).low hb2)
  have D2 := hide ((unhide D1).bel hb2)
  have T2 := hide ((unhide T1).below (hb2.mono (unhide T1).ng))
  have P2 := hide ((unhide HPV).bel hb2)
  have HB2 := hide ((unhide HB1).trans (hb2.mono (unhide HB1).size))
  clear hb2 A1 D1 T1 S1 HPV HB1
  rcases hcs with ⟨hpos, hrd⟩ | ⟨rfl, xv, hrd, hrep⟩
  ·have HE := hide (show RR = c by rw [unhide HRR, tst_bad (unhide HTK) hrd])
   have e0 : ((c : Int) != 0) = true := by simp; omega
   clear hrd hpos
   go_wp2_with (fail)
   refine (failed_any c _).mono ?_
   rintro x w3 ⟨rfl, hb3⟩
   have a2 := (unhide A2).low hb3
   have g0 := a2.c0
   have g1 := a2.c1
   have g2 := a2.c2
   have z := a2.fz
   have HB3 := hide ((unhide HB2).trans (hb3.mono (unhide HB2).size))
   clear a2 hb3
   unfold ansV
   go_wp2_with (fail)
   refine bodyPost_ret (v := ansV c []) (by simp [results, Tryz.results58, go_sem, ansV, g0, g1, g2]) rfl ⟨?_, ?_⟩
   ·rw [unhide HE]; rfl
   ·exact below_set (below_set (below_set (unhide HB3) _ 0 (by omega) _) _ 1 (by omega) _) _ 2 (by omega) _
  have HRD := hide hrd
  have HX := hide hrep
  clear hrd hrep
  have d0 := (unhide S2).c3
  go_wp2_with (fail)
  refine (Whole_any (unhide D2)).mono ?_
  rintro x w3 ⟨rfl, hb3⟩
  have A3 := hide ((unhide A2).low hb3)
  have D3 := hide ((unhide D2).bel hb3)
  have T3 := hide ((unhide T2).below (hb3.mono (unhide T2).ng))
  have P3 := hide ((unhide P2).bel hb3)
  have X3 := hide ((unhide HX).bel hb3)
  have HB3 := hide ((unhide HB2).trans (hb3.mono (unhide HB2).size))
  clear hb3 A2 D2 T2 P2 HX HB2 d0 S2
  go_wp2_with (fail)
  have hkl := unhide hTL ks (unhide HTK)
  refine (Find_any (F := F) (d := v.1) (fun t ht => Nat.le_trans (hkl.2 t ht) hn) (Nat.le_trans hkl.1 hn) (unhide T3).rng ⟨top, (unhide D3).rep⟩ (unhide P3)).mono ?_
  rintro x w4 ⟨ho, hb4⟩
  have A4 := hide ((unhide A3).low hb4)
  have T4 := hide ((unhide T3).below (hb4.mono (unhide T3).ng))
  have X4 := hide ((unhide X3).bel hb4)
  have HB4 := hide ((unhide HB3).trans (hb4.mono (unhide HB3).size))
  clear hb4 A3 D3 T3 P3 HB3 X3 hkl
  cases hfd : Sp.find v.1 ks with
  | error c =>
   rw [hfd] at ho
   have ho2 : x = .returned (.tuple #[.pointer none, .int .i64 c]) := ho
   subst ho2
   have HE := hide (show RR = c by rw [unhide HRR, tst_err (unhide HTK) (unhide HRD) hfd])
   have hc0 : c = 11 ∨ c = 12 := find_err hfd
   have e1 : ((c : Int) == 0) = false := by rw [beq_eq_false_iff_ne]; omega
   have e2 : ((c : Int) != 0) = true := by rw [bne_iff_ne]; omega
   clear ho hfd hc0
   go_wp2_with (fail)
   refine (failed_any c _).mono ?_
   rintro x w5 ⟨rfl, hb5⟩
   have a2 := (unhide A4).low hb5
   have g0 := a2.c0
   have g1 := a2.c1
   have g2 := a2.c2
   have z := a2.fz
   have HB5 := hide ((unhide HB4).trans (hb5.mono (unhide HB4).size))
   clear a2 hb5
   unfold ansV
   go_wp2_with (fail)
   refine bodyPost_ret (v := ansV c []) (by simp [results, Tryz.results58, go_sem, ansV, g0, g1, g2]) rfl ⟨?_, ?_⟩
   ·rw [unhide HE]; rfl
   ·exact below_set (below_set (below_set (unhide HB5) _ 0 (by omega) _) _ 1 (by omega) _) _ 2 (by omega) _
  | ok y =>
   rw [hfd] at ho
   obtain ⟨yv, rfl, f, hy⟩ := ho
   have HE := hide (show RR = if veq y xv = true then 0 else 14 by rw [unhide HRR, tst_ok (unhide HTK) (unhide HRD) hfd])
   have HSAME := hide (same_top hy (unhide X4))
   clear hfd hy
   go_wp2_with (fail)
   refine (unhide HSAME).mono ?_
   rintro x w5 ⟨rfl, hb5⟩
   have A5 := hide ((unhide A4).low hb5)
   have HB5 := hide ((unhide HB4).trans (hb5.mono (unhide HB4).size))
   have T5 := hide ((unhide T4).below (hb5.mono (unhide T4).ng))
   clear hb5 A4 HB4 T4 HSAME X4
   cases hq : veq y xv with
   | false =>
    have HE2 := hide (show RR = 14 by rw [unhide HE, hq, if_neg (by decide)])
    clear hq HE
    go_wp2_with (fail)
    refine (failed_any 14 _).mono ?_
    rintro x w6 ⟨rfl, hb6⟩
    have a2 := (unhide A5).low hb6
    have g0 := a2.c0
    have g1 := a2.c1
    have g2 := a2.c2
    have z := a2.fz
    have HB6 := hide ((unhide HB5).trans (hb6.mono (unhide HB5).size))
    clear a2 hb6
    unfold ansV
    go_wp2_with (fail)
    refine bodyPost_ret (v := ansV 14 []) (by simp [results, Tryz.results58, go_sem, ansV, g0, g1, g2]) rfl ⟨?_, ?_⟩
    ·rw [unhide HE2]; rfl
    ·exact below_set (below_set (below_set (unhide HB6) _ 0 (by omega) _) _ 1 (by omega) _) _ 2 (by omega) _
   | true =>
    have HE2 := hide (show RR = 0 by rw [unhide HE, hq, if_pos rfl])
    clear hq HE
    have a2 := unhide A5
    have g0 := a2.c0
    have g1 := a2.c1
    have g2 := a2.c2
    have z := a2.fz
    clear a2
    go_wp2_with (fail)
    refine bodyPost_ret (v := ansV 0 []) (by simp [results, Tryz.results58, go_sem, ansV, g0, g1, g2]) rfl ⟨?_, ?_⟩
    ·rw [unhide HE2]; rfl
    ·exact below_set (below_set (below_set (unhide HB5) _ 0 (by omega) _) _ 1 (by omega) _) _ 2 (by omega) _
end Go.Proofs.YtdpomdelmdofmaaGreatDoor

namespace Go.Proofs.YtdpomdelmdofmaaGreatDoor
open Go.RowKit
theorem can_go : ∀ (f g : Nat) (o : Sp.O), Sp.goO f o → f ≤ g → Sp.can g (Sp.nrm f o) = Sp.can f (Sp.nrm f o)
 | 0, _, _, h, _ => h.elim
 | f + 1, 0, _, _, hg => by omega
 | f + 1, g + 1, o, h, hg => by
  rcases h with ⟨k, _, rfl⟩ | ⟨n, rfl, _⟩ | ⟨s, rfl⟩ | ⟨es, rfl, h⟩ | ⟨es, rfl, hnd, h⟩
  ·rfl
  ·rfl
  ·rfl
  ·have e : Sp.nrm (f + 1) (Sp.oArr es) = Sp.vArr (es.map (Sp.nrm f)) := rfl
   rw [e, Sp.can_arr, Sp.can_arr, List.map_map, List.map_map, List.map_congr_left fun e he => show (Sp.can g ∘ Sp.nrm f) e = (Sp.can f ∘ Sp.nrm f) e from can_go f g e (h e he) (by omega)]
  ·obtain ⟨E, e1, e2, e3⟩ := obj_form f es hnd
   rw [e1, Sp.can_obj, Sp.can_obj]
   rw [List.map_congr_left fun k hk => show (Sp.quoT k ++ 58 :: Sp.can g (Sp.look E k)) = (Sp.quoT k ++ 58 :: Sp.can f (Sp.look E k)) from by
    have hk2 := e2.mem_iff.1 ((List.mergeSort_perm _ _).mem_iff.1 hk)
    obtain ⟨p, hp, rfl⟩ := List.mem_map.1 hk2
    rw [e3 p hp, can_go f g p.2 (h p hp) (by omega)]]
theorem goO.up1 : ∀ {f : Nat} {o : Sp.O}, Sp.goO f o → Sp.goO (f + 1) o
 | 0, _, h => h.elim
 | f + 1, o, h => by
  rcases h with h | h | h | ⟨es, h1, h⟩ | ⟨es, h1, hnd, h⟩
  ·exact Or.inl h
  ·exact Or.inr (Or.inl h)
  ·exact Or.inr (Or.inr (Or.inl h))
  ·exact Or.inr (Or.inr (Or.inr (Or.inl ⟨es, h1, fun e he => goO.up1 (h e he)⟩)))
  ·exact Or.inr (Or.inr (Or.inr (Or.inr ⟨es, h1, hnd, fun p hp => goO.up1 (h p hp)⟩)))
theorem goO.up {o : Sp.O} {f g : Nat} (h : Sp.goO f o) (hg : f ≤ g) : Sp.goO g o := by
 induction g with
 | zero =>
  obtain rfl : f = 0 := by omega
  exact h
 | succ g ih =>
  by_cases e : f = g + 1
  ·subst e; exact h
  ·exact goO.up1 (ih (by omega))
theorem ORep.up1 : ∀ {f : Nat} {F : Nat → Prop} {w : World} {v : Value} {o : Sp.O}, ORep f F w v o → ORep (f + 1) F w v o := by
 intro f
 induction f with
 | zero => intro F w v o h; exact h.elim
 | succ f ih =>
  intro F w v o h
  obtain ⟨b, hv, hb, h⟩ := h
  rcases h with h | h | h | ⟨es, sl, ps, hd, h, ho, hs, ha⟩ | ⟨es, kl, sl, ps, hd, h, ho, hs, ho2, hs2, ha⟩
  ·exact ⟨b, hv, hb, Or.inl h⟩
  ·exact ⟨b, hv, hb, Or.inr (Or.inl h)⟩
  ·exact ⟨b, hv, hb, Or.inr (Or.inr (Or.inl h))⟩
  ·exact ⟨b, hv, hb, Or.inr (Or.inr (Or.inr (Or.inl ⟨es, sl, ps, hd, h, ho, hs, ha.mono fun _ _ h => ih h⟩)))⟩
  ·exact ⟨b, hv, hb, Or.inr (Or.inr (Or.inr (Or.inr ⟨es, kl, sl, ps, hd, h, ho, hs, ho2, hs2, ha.mono fun _ _ h => ih h⟩)))⟩
theorem ORep.up {F : Nat → Prop} {w : World} {v : Value} {o : Sp.O} {f g : Nat} (h : ORep f F w v o) (hg : f ≤ g) : ORep g F w v o := by
 induction g with
 | zero =>
  obtain rfl : f = 0 := by omega
  exact h
 | succ g ih =>
  by_cases e : f = g + 1
  ·subst e; exact h
  ·exact (ih (by omega)).up1
theorem ochild_len {f : Nat} {o y : Sp.O} {t : Sp.By} (h : Sp.goO (f + 1) o) (hc : Sp.ochild o t = .ok y) : (Sp.can f (Sp.nrm f y)).length ≤ (Sp.can (f + 1) (Sp.nrm (f + 1) o)).length := by
 rcases h with ⟨k, _, rfl⟩ | ⟨n, rfl, _⟩ | ⟨s, rfl⟩ | ⟨es, rfl, h⟩ | ⟨es, rfl, hnd, h⟩
 ·have : (Except.error 11 : Except Nat Sp.O) = .ok y := hc
  cases this
 ·have : (Except.error 11 : Except Nat Sp.O) = .ok y := hc
  cases this
 ·have : (Except.error 11 : Except Nat Sp.O) = .ok y := hc
  cases this
 ·unfold Sp.ochild Sp.oArr at hc
  simp only at hc
  split at hc
  ·cases hc
  ·split at hc
   ·rename_i x hx
    injection hc with hc
    subst hc
    exact arr_sub (List.mem_of_getElem? hx)
   ·cases hc
 ·rw [ochild_obj] at hc
  split at hc
  ·rename_i x hx
   injection hc with hc
   subst hc
   exact obj_sub hnd (mem_some hx)
  ·cases hc
theorem ofind_len : ∀ (l : List Sp.By) (f f' : Nat) (o y : Sp.O), Sp.goO f o → Sp.ofind o l = .ok y → f' + l.length = f → (Sp.can f' (Sp.nrm f' y)).length ≤ (Sp.can f (Sp.nrm f o)).length
 | [], f, f', o, y, _, hf, he => by
  injection hf with hf
  subst hf
  obtain rfl : f' = f := by simpa using he
  exact Nat.le_refl _
 | t :: r, 0, _, o, y, h, _, _ => h.elim
 | t :: r, f + 1, f', o, y, h, hf, he => by
  rcases nrm_child (t := t) h with ⟨z, h1, h2, _⟩ | ⟨c, h1, _⟩
  ·have e1 : Sp.ofind z r = .ok y := by
    have : Sp.ofind o (t :: r) = match Sp.ochild o t with | .ok e => Sp.ofind e r | .error c => .error c := rfl
    rw [this, h1] at hf
    exact hf
   exact Nat.le_trans (ofind_len r f f' z y h2 e1 (by simp only [List.length_cons] at he; omega)) (ochild_len h h1)
  ·have : Sp.ofind o (t :: r) = match Sp.ochild o t with | .ok e => Sp.ofind e r | .error c => .error c := rfl
   rw [this, h1] at hf
   cases hf
theorem rTokens_any (s : Sp.By) (hn : s.length ≤ 1048576) (w : World) : Calls Tryz.prog 68 #[.string ⟨s.toArray⟩] w fun e w' => tokEnd (Sp.toks s) e w' ∧ Below w.heap.size w w' := by
 cases s with
 | nil =>
  have e : Sp.toks [] = some [] := by rw [toks_tkz]
  rw [e]
  exact rTokens_nil w
 | cons c r => exact rTokens_cons ⟨by rw [bs_size]; exact hn, Nat.zero_le _, by simp⟩ w
theorem gotA_none {v : Sp.V} {s : Sp.By} (h : Sp.toks s = none) : Sp.gotA v s = (9, 0, []) := by unfold Sp.gotA; rw [h]
theorem gotA_err {v : Sp.V} {s : Sp.By} {ks : List Sp.By} {c : Nat} (h : Sp.toks s = some ks) (h2 : Sp.find v ks = .error c) : Sp.gotA v s = (c, 0, []) := by unfold Sp.gotA; rw [h]; simp only [h2]
theorem gotA_ok {v y : Sp.V} {s : Sp.By} {ks : List Sp.By} (h : Sp.toks s = some ks) (h2 : Sp.find v ks = .ok y) : Sp.gotA v s = (0, 0, Sp.can top y) := by unfold Sp.gotA; rw [h]; simp only [h2]
set_option maxRecDepth 100000 in
set_option maxHeartbeats 8000000 in
theorem rGot_any {E : Nat} {d x n : Int} {p : Addr} {q : Value} {w : World} {F : Nat → Prop} {o : Sp.O} (s : Sp.By) (hn : s.length ≤ 1048576) (h : EB w E d x n (.pointer (some p)) q) (hrep : ORep top F w (.pointer (some p)) o) (hgo : Sp.goO top o)
  (hl : (Sp.can top (Sp.nrm top o)).length ≤ 80000) (hT : Laid w) :
  Calls Tryz.prog 47 #[.pointer (some ⟨E, 0, none⟩), .string ⟨s.toArray⟩] w fun e w' => e = .returned (ansA (Sp.gotA (Sp.nrm top o) s)) ∧ Below w.heap.size w w' := by
 have hba : Below w.heap.size w (w.alloc (.cells #[.int .i64 0, .int .i64 0, .string ⟨#[]⟩] 46)) := (Below.refl _ _).alloc (Nat.le_refl _) _
 obtain ⟨RR, hRR⟩ : ∃ RR, RR = Sp.gotA (Sp.nrm top o) s := ⟨_, rfl⟩
 rw [← hRR]
 have HRR := hide hRR
 have HTK := hide (rTokens_any s hn (w.alloc (.cells #[.int .i64 0, .int .i64 0, .string ⟨#[]⟩] 46)))
 have hTL := hide (fun ks (h : Sp.toks s = some ks) => toks_len h)
 have HE := hide (h.low hba)
 have HREP := hide (hrep.below hba)
 have HGO := hide hgo
 have HL := hide hl
 have HT := hide (hT.below (hba.mono hT.ng))
 have HA := hide (AB.new w)
 have HBA := hide hba
 clear h hrep hgo hl hT hba hRR
 go_enter Tryz.func47, Tryz.ntmps47
 go_wp2_with (fail)
 refine (unhide HTK).mono ?_
 rintro e w1 ⟨he, hb1⟩
 have A1 := hide ((unhide HA).low hb1)
 have E1 := hide ((unhide HE).low hb1)
 have R1 := hide ((unhide HREP).below hb1)
 have T1 := hide ((unhide HT).below (hb1.mono (unhide HT).ng))
 have HB1 := hide ((unhide HBA).trans (hb1.mono (unhide HBA).size))
 clear hb1 HA HE HREP HT HBA HTK
 cases htk : Sp.toks s with
 | none =>
  rw [htk] at he
  have he2 : e = .returned (.tuple #[.slice none 0 0, .bool false]) := he
  subst he2
  have HF := hide (show RR = (9, 0, []) by rw [unhide HRR, gotA_none htk])
  clear he htk
  go_wp2_with (fail)
  refine (rNo_any 9 _).mono ?_
  rintro e w2 ⟨rfl, hb2⟩
  have a2 := (unhide A1).low hb2
  have g0 := a2.c0
  have g1 := a2.c1
  have g2 := a2.c2
  have z := a2.fz
  have HB2 := hide ((unhide HB1).trans (hb2.mono (unhide HB1).size))
  clear a2 hb2
  unfold ansV
  go_wp2_with (fail)
  refine bodyPost_ret (v := ansV 9 []) (by simp [results, Tryz.results47, go_sem, ansV, g0, g1, g2]) rfl ⟨?_, ?_⟩
  ·rw [unhide HF]; rfl
  ·exact below_set (below_set (below_set (unhide HB2) _ 0 (by omega) _) _ 1 (by omega) _) _ 2 (by omega) _
 | some ks =>
  rw [htk] at he
  obtain ⟨lv, rfl, hlv⟩ := he
  have HTK := hide htk
  have hkl := unhide hTL ks htk
  have e3 := (unhide E1).c3
  have HFIND := hide (rFind_any (F := F) ks (fun t ht => Nat.le_trans (hkl.2 t ht) hn) top o w1 (.pointer (some p)) lv (unhide R1) (unhide HGO) (unhide HL) hlv)
  clear htk hlv hkl
  go_wp2_with (fail)
  refine (unhide HFIND).mono ?_
  rintro e w3 ⟨ho, hb3⟩
  have A3 := hide ((unhide A1).low hb3)
  have T3 := hide ((unhide T1).below (hb3.mono (unhide T1).ng))
  have HB3 := hide ((unhide HB1).trans (hb3.mono (unhide HB1).size))
  clear hb3 A1 T1 R1 E1 HB1 e3 HFIND
  rcases nrm_find ks top o (unhide HGO) with ⟨y, f', h1, h2, h3, h4⟩ | ⟨c, hc, h1, h2⟩
  ·rw [h1] at ho
   obtain ⟨u, f2, rfl, hf2, hrep2⟩ := ho
   obtain rfl : f2 = f' := by omega
   have HF := hide (show RR = (0, 0, Sp.can top (Sp.nrm f2 y)) by rw [unhide HRR, gotA_ok (unhide HTK) h4])
   have hlen := ofind_len ks top f2 o y (unhide HGO) h1 h2
   have hcg : Sp.can top (Sp.nrm f2 y) = Sp.can f2 (Sp.nrm f2 y) := can_go f2 top y h3 (by omega)
   have HCAN := hide (canonical_ok f2 F w3 u y hrep2 h3 (unhide T3) (Nat.le_trans hlen (unhide HL)))
   rw [← hcg] at HCAN
   generalize Sp.can top (Sp.nrm f2 y) = tx at *
   clear h1 h2 h3 h4 hlen hcg hrep2 hf2
   go_wp2_with (fail)
   refine (unhide HCAN).mono ?_
   rintro e w4 ⟨rfl, hb4⟩
   have a2 := (unhide A3).low hb4
   have g0 := a2.c0
   have g1 := a2.c1
   have g2 := a2.c2
   have z := a2.fz
   have HB4 := hide ((unhide HB3).trans (hb4.mono (unhide HB3).size))
   clear a2 hb4 HCAN
   go_wp2_with (fail)
   refine bodyPost_ret (v := ansV 0 tx) (by simp [results, Tryz.results47, go_sem, ansV, g0, g1, g2]) rfl ⟨?_, ?_⟩
   ·rw [unhide HF]; rfl
   ·exact below_set (below_set (below_set (unhide HB4) _ 0 (by omega) _) _ 1 (by omega) _) _ 2 (by omega) _
  ·rw [h1] at ho
   have ho2 : e = .returned (.tuple #[.pointer none, .int .i64 c]) := ho
   subst ho2
   have HF := hide (show RR = (c, 0, []) by rw [unhide HRR, gotA_err (unhide HTK) h2])
   have e2 : ((c : Int) != 0) = true := by rw [bne_iff_ne]; omega
   clear ho h1 h2 hc
   go_wp2_with (fail)
   refine (rNo_any c _).mono ?_
   rintro e w4 ⟨rfl, hb4⟩
   have a2 := (unhide A3).low hb4
   have g0 := a2.c0
   have g1 := a2.c1
   have g2 := a2.c2
   have z := a2.fz
   have HB4 := hide ((unhide HB3).trans (hb4.mono (unhide HB3).size))
   clear a2 hb4
   unfold ansV
   go_wp2_with (fail)
   refine bodyPost_ret (v := ansV c []) (by simp [results, Tryz.results47, go_sem, ansV, g0, g1, g2]) rfl ⟨?_, ?_⟩
   ·rw [unhide HF]; rfl
   ·exact below_set (below_set (below_set (unhide HB4) _ 0 (by omega) _) _ 1 (by omega) _) _ 2 (by omega) _
end Go.Proofs.YtdpomdelmdofmaaGreatDoor

namespace Go.Proofs.YtdpomdelmdofmaaGreatDoor
open Go.RowKit Go.Maps
theorem puts_rise (L : List (Lit × Sp.V)) : ∀ E : List (Lit × Sp.V), (E ++ L).Pairwise (fun p q => p.1 ≠ q.1) → (∀ p ∈ E ++ L, ∃ s, p.1 = .string s) → E.Pairwise (fun p q => p.1.before q.1 = true) →
  ∃ E', Sp.puts (.map E) L = .map E' ∧ E'.Perm (E ++ L) ∧ E'.Pairwise (fun p q => p.1.before q.1 = true) := by
 induction L with
 | nil => intro E _ _ hr; exact ⟨E, rfl, by simp, hr⟩
 | cons p r ih =>
  intro E h hk hr
  have hp1 : (E ++ p :: r).Perm (p :: (E ++ r)) := List.perm_middle
  have hpw : (p :: (E ++ r)).Pairwise (fun p q => p.1 ≠ q.1) := hp1.pairwise h (fun hab => Ne.symm hab)
  have hne : ∀ q ∈ E, q.1.sameKey p.1 = false := fun q hq => sameKey_ne (Ne.symm ((List.pairwise_cons.1 hpw).1 q (by simp [hq])))
  have hf : (E.filter fun q => !q.1.sameKey p.1) = E := List.filter_eq_self.2 fun q hq => by rw [hne q hq]; rfl
  have hput : DataW.put (.map E) p.1 p.2 = .map (DataW.insert (p.1, p.2) E) := by
   show DataW.map (DataW.insert (p.1, p.2) (E.filter fun q => !q.1.sameKey p.1)) = _
   rw [hf]
  have hins : (DataW.insert (p.1, p.2) E).Perm (p :: E) := Go.WideShapes.insert_perm _ _
  have h2 : (DataW.insert (p.1, p.2) E ++ r).Perm (E ++ p :: r) := ((hins.append_right r).trans (List.Perm.refl _)).trans hp1.symm
  have hrise : (DataW.insert (p.1, p.2) E).Pairwise (fun p q => p.1.before q.1 = true) :=
   insert_rising (hk p (by simp)) (fun q hq => hk q (by simp [hq])) (fun q hq => Ne.symm ((List.pairwise_cons.1 hpw).1 q (by simp [hq]))) hr
  obtain ⟨E', e1, e2, e3⟩ := ih (DataW.insert (p.1, p.2) E) (h2.symm.pairwise h (fun hab => Ne.symm hab)) (fun q hq => hk q (h2.mem_iff.1 hq)) hrise
  exact ⟨E', by show Sp.puts (DataW.put (.map E) p.1 p.2) r = _; rw [hput]; exact e1, e2.trans h2, e3⟩
theorem obj_canon (f : Nat) (es : Sp.Ms) (hnd : (es.map (·.1)).Nodup) : ∃ E, Sp.nrm (f + 1) (Sp.oObj es) = Sp.vObj E ∧ E.Perm (es.map fun p => (Lit.string p.1, Sp.nrm f p.2)) ∧ E.Pairwise (fun p q => p.1 ≠ q.1) ∧ Maps.Canon (.map E : DataW Unit) := by
 obtain ⟨L, hL⟩ : ∃ L : List (Lit × Sp.V), L = es.map fun p => (Lit.string p.1, Sp.nrm f p.2) := ⟨_, rfl⟩
 have hpw : L.Pairwise (fun p q => p.1 ≠ q.1) := by
  rw [hL, List.pairwise_map]
  have h2 : es.Pairwise (fun a b => a.1 ≠ b.1) := List.pairwise_map.1 hnd
  exact h2.imp fun h e => h (Lit.string.inj e)
 have hks : ∀ p ∈ L, ∃ s, p.1 = .string s := fun p hp => by
  rw [hL] at hp
  obtain ⟨q, _, rfl⟩ := List.mem_map.1 hp
  exact ⟨q.1, rfl⟩
 obtain ⟨E, e1, e2, e3⟩ := puts_rise L [] hpw hks List.Pairwise.nil
 rw [List.nil_append] at e2
 have e0 : Sp.nrm (f + 1) (Sp.oObj es) = Sp.puts (.map []) L := by
  show Sp.puts (Sp.vObj []) ((Sp.lits es).map fun p => (p.1, Sp.nrm f p.2)) = _
  rw [hL]
  unfold Sp.lits
  rw [List.map_map]; rfl
 refine ⟨E, e0.trans e1, by rw [← hL]; exact e2, e2.symm.pairwise hpw (fun hab => Ne.symm hab), E, rfl, e3, fun p hp => ?_⟩
 obtain ⟨s, hs⟩ := hks p (e2.mem_iff.1 hp)
 rw [hs]; trivial
theorem ent_has {f : Nat} {es : Sp.Ms} {E : List (Lit × Sp.V)} (hp : E.Perm (es.map fun p => (Lit.string p.1, Sp.nrm f p.2))) (hd : E.Pairwise (fun p q => p.1 ≠ q.1)) {k : Sp.By} {y : Sp.O} (h : (k, y) ∈ es) :
  Maps.has (.map E : DataW Unit) (.string k) = true ∧ (DataW.map E).atKey (.string k) .nil = Sp.nrm f y := by
 have hin : (Lit.string k, Sp.nrm f y) ∈ E := hp.mem_iff.2 (List.mem_map.2 ⟨(k, y), h, rfl⟩)
 exact ⟨List.any_eq_true.2 ⟨_, hin, WideAt.sameKey_self trivial⟩, WideAt.atKey_mem .nil trivial hd hin⟩
theorem has_ent {f : Nat} {es : Sp.Ms} {E : List (Lit × Sp.V)} (hp : E.Perm (es.map fun p => (Lit.string p.1, Sp.nrm f p.2))) {k : Lit} (h : Maps.has (.map E : DataW Unit) k = true) : ∃ p ∈ es, k = .string p.1 := by
 obtain ⟨q, hq, hs⟩ := List.any_eq_true.1 (show E.any (fun p => p.1.sameKey k) = true from h)
 have e := WideAt.sameKey_eq hs
 obtain ⟨p, hpm, rfl⟩ := List.mem_map.1 (hp.mem_iff.1 hq)
 exact ⟨p, hpm, e.symm⟩
theorem oobj_same {f : Nat} {es es' : Sp.Ms} (hn : (es.map (·.1)).Nodup) (hn' : (es'.map (·.1)).Nodup) (hl : es.length = es'.length) (h : ∀ p ∈ es, ∃ y, Sp.mem p.1 es' = some y ∧ Sp.nrm f p.2 = Sp.nrm f y) :
  Sp.nrm (f + 1) (Sp.oObj es) = Sp.nrm (f + 1) (Sp.oObj es') := by
 obtain ⟨E, e1, e2, e3, e4⟩ := obj_canon f es hn
 obtain ⟨E', e1', e2', e3', e4'⟩ := obj_canon f es' hn'
 rw [e1, e1']
 refine obj_same e4 e4' (by have := e2.length_eq; have := e2'.length_eq; simp at *; omega) fun k hk => ?_
 obtain ⟨p, hpm, rfl⟩ := has_ent e2 hk
 obtain ⟨y, hy, he⟩ := h p hpm
 obtain ⟨a1, a2⟩ := ent_has e2 e3 (show (p.1, p.2) ∈ es from hpm)
 obtain ⟨b1, b2⟩ := ent_has e2' e3' (mem_some hy)
 exact ⟨b1, by rw [a2, b2, he]⟩
theorem oobj_diff {f : Nat} {es es' : Sp.Ms} (hn : (es.map (·.1)).Nodup) (hn' : (es'.map (·.1)).Nodup) {p : Sp.By × Sp.O} (hp : p ∈ es) (h : ∀ y, Sp.mem p.1 es' = some y → Sp.nrm f p.2 ≠ Sp.nrm f y) :
  Sp.nrm (f + 1) (Sp.oObj es) ≠ Sp.nrm (f + 1) (Sp.oObj es') := by
 obtain ⟨E, e1, e2, e3, e4⟩ := obj_canon f es hn
 obtain ⟨E', e1', e2', e3', e4'⟩ := obj_canon f es' hn'
 rw [e1, e1']
 obtain ⟨a1, a2⟩ := ent_has e2 e3 (show (p.1, p.2) ∈ es from hp)
 refine obj_ne a1 fun hh => ?_
 obtain ⟨q, hq, hk⟩ := has_ent e2' hh
 have hk2 : p.1 = q.1 := Lit.string.inj hk
 cases hm : Sp.mem p.1 es' with
 | none => exact absurd hk2.symm (mem_none hm q hq)
 | some y =>
  obtain ⟨b1, b2⟩ := ent_has e2' e3' (mem_some hm)
  rw [a2, b2]
  exact h y hm
theorem oobj_len {f : Nat} {es es' : Sp.Ms} (hn : (es.map (·.1)).Nodup) (hn' : (es'.map (·.1)).Nodup) (h : es.length ≠ es'.length) : Sp.nrm (f + 1) (Sp.oObj es) ≠ Sp.nrm (f + 1) (Sp.oObj es') := by
 obtain ⟨E, e1, e2, e3, e4⟩ := obj_canon f es hn
 obtain ⟨E', e1', e2', e3', e4'⟩ := obj_canon f es' hn'
 rw [e1, e1']
 intro e
 unfold Sp.vObj at e
 injection e with e
 subst e
 have := e2.length_eq
 have := e2'.length_eq
 simp at *
 omega
end Go.Proofs.YtdpomdelmdofmaaGreatDoor
