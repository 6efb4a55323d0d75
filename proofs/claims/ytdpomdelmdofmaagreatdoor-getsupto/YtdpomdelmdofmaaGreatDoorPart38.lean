/-
  Walk of the reference's (*Reading).value.
-/
import Derived.Test.YtdpomdelmdofmaaGreatDoorPart37
namespace Go.Proofs.YtdpomdelmdofmaaGreatDoor
open Go.RowKit
theorem OvEnd.form {o : Option (Sp.O × Sp.By)} {f : Nat} {t : ByteArray} {R : Nat} {mo : Int} {tw far : Bool} {w w' : World} {e : Ending} (h : OvEnd o f t R mo tw far w e w') : ∃ (a : Option Addr) (q : Nat), e = .returned (.tuple #[.pointer a, .int .i64 q]) := by
 rcases h.2 with ⟨d, r, V, q, a1, a2, _⟩ | ⟨a1, a2, _⟩
 ·exact ⟨_, q, a2⟩
 ·exact ⟨none, 0, a2⟩
set_option maxRecDepth 100000 in
set_option maxHeartbeats 8000000 in
theorem oValue_step {f : Nat} (hV : OvOk f) : OvOk (f + 1) := by
 intro R t mo tw far p l w hr ha hmo hlf
 have hRl := hr.lt
 obtain ⟨wa, hwa⟩ : ∃ wa, wa = w.alloc (.cells #[.string ⟨#[110, 117, 108, 108]⟩, .string ⟨#[102, 97, 108, 115, 101]⟩, .string ⟨#[116, 114, 117, 101]⟩] 9) := ⟨_, rfl⟩
 have hra : RB wa R t mo tw far := by rw [hwa]; exact (Below.heap_alloc _ _ _ hr.lt).trans hr
 have hka : KeptX R w wa := by rw [hwa]; exact (KeptX.refl R w).alloc _
 have hga : wa.heap[w.heap.size]? = some (.cells #[.string ⟨#[110, 117, 108, 108]⟩, .string ⟨#[102, 97, 108, 115, 101]⟩, .string ⟨#[116, 114, 117, 101]⟩] 9 (0, 0)) := by rw [hwa]; exact heap_new _ _ _ rfl
 have hcell : ∀ j, j < 3 → wa.cell? ⟨w.heap.size, j, none⟩ = some (.string ⟨(rwL j).toArray⟩) := by
  intro j hj
  match j, hj with
  | 0, _ => simp [World.cell?, hga, rwL]
  | 1, _ => simp [World.cell?, hga, rwL]
  | 2, _ => simp [World.cell?, hga, rwL]
 have hsz := ha.small
 have hln := ha.len
 have hple := ha.le
 have rs := hra.rs
 unfold RS at rs
 have HR := hide hra
 have HK := hide hka
 have HA := hide ha
 have HC := hide hcell
 have HV := hide hV
 clear hr ha hra hka hga hcell hV
 go_enter Tryz.func91, Tryz.ntmps91
 go_wp2_with (fail)
 rw [← hwa]
 have HW := hide hwa
 clear hwa
 go_loopw [7] (fun i wr => ∃ j : Nat, j ≤ 3 ∧ i = .int .i64 j ∧ (∀ k, k < j → Lib.hasPrefix l (rwL k) = false) ∧ wr = wa) (fun i _ => 3 - (intOf i).toNat)
 case atStart => exact ⟨0, by omega, rfl, fun k hk => absurd hk (by omega), rfl⟩
 case round =>
  obtain ⟨j, hj, rfl, hno, rfl⟩ := hrel
  have HNO := hide hno
  clear hno
  by_cases hlt : j < 3
  ·have hc := unhide HC j hlt
   have hl5 := rwL_len j
   obtain ⟨q, hq⟩ : ∃ q, q = p + (rwL j).length := ⟨_, rfl⟩
   have hqi : (p : Int) + ((rwL j).length : Int) = (q : Int) := by omega
   have hpq : p ≤ q := by omega
   have HQ := hide hq
   clear hq
   by_cases hle : q ≤ t.size
   ·have hdl : decide ((q : Int) ≤ (t.size : Int)) = true := decide_eq_true (by omega)
    have hex : t.extract p q = ⟨(l.take (rwL j).length).toArray⟩ := by
     have h1 := ext_list t p (rwL j).length
     rw [← unhide HQ, (unhide HA).eq] at h1
     rw [← h1, Array.toArray_toList]
    cases hp : Lib.hasPrefix l (rwL j) with
    | true =>
     have htk : l.take (rwL j).length = rwL j := by
      unfold Lib.hasPrefix at hp
      exact (List.prefix_iff_eq_take.1 (List.isPrefixOf_iff_prefix.1 hp)).symm
     rw [htk] at hex
     have hrv := rval_word f l j hlt hp
     have HRV := hide hrv
     have HAQ := hide (show At t q (l.drop (rwL j).length) by have := (unhide HA).add (rwL j).length (by omega); rwa [← unhide HQ] at this)
     have HL := hide hl5
     clear hp htk hrv hl5
     go_wp2_with (fail)
     go_ret2
     refine ⟨(unhide HK).alloc _, Or.inl ⟨Sp.oWord (rwK j), l.drop (rwL j).length, wr.heap.size, q, unhide HRV, rfl, unhide HAQ, ⟨wr.heap.size, rfl, (unhide HK).size, Or.inl ⟨rwK j, rwK_lt j, rfl, by rw [rwK_word]; exact heap_new _ _ _ rfl⟩⟩, ?_⟩⟩
     show RB _ R t mo (tw || false) (far || false)
     rw [Bool.or_false, Bool.or_false]
     exact (Below.heap_alloc _ _ _ (unhide HR).lt).trans (unhide HR)
    | false =>
     have htk : (l.take (rwL j).length == rwL j) = false := by
      rw [beq_eq_false_iff_ne]
      intro h
      unfold Lib.hasPrefix at hp
      rw [← Bool.not_eq_true, List.isPrefixOf_iff_prefix, List.prefix_iff_eq_take] at hp
      exact hp h.symm
     have HP := hide hp
     clear hp
     go_wp2_with (fail)
     exact ⟨⟨j + 1, by omega, by go_num, fun k hk => (by
      by_cases h : k = j
      ·rw [h]; exact unhide HP
      ·exact unhide HNO k (by omega)), trivial⟩, by simp only [intOf]; omega⟩
   ·have hdl : decide ((q : Int) ≤ (t.size : Int)) = false := decide_eq_false (by omega)
    have HP := hide (show Lib.hasPrefix l (rwL j) = false by
     unfold Lib.hasPrefix
     rw [← Bool.not_eq_true, List.isPrefixOf_iff_prefix]
     intro h
     have := h.length_le
     have := unhide HQ
     omega)
    go_wp2_with (fail)
    exact ⟨⟨j + 1, by omega, by go_num, fun k hk => (by
     by_cases h : k = j
     ·rw [h]; exact unhide HP
     ·exact unhide HNO k (by omega)), trivial⟩, by simp only [intOf]; omega⟩
  ·have HN3 := hide (fun (k : Nat) (hk : k < 3) => unhide HNO k (by omega))
   clear HNO
   go_wp2_with (fail)
   refine (rDigit_any (unhide HR).rs (unhide HA)).mono ?_
   rintro e w2 ⟨rfl, rfl⟩
   cases hd : Sp.dgH l with
   | true =>
    have HD := hide hd
    clear hd
    go_wp2_with (fail)
    refine (rNumber_any (unhide HR) (unhide HA) hmo).mono ?_
    rintro e w9 hend
    have hov := (hend.ov (f := f) (Or.inl (unhide HD))).up (unhide HK)
    obtain ⟨a, qq, rfl⟩ := hov.form
    have HOV := hide hov
    clear hov hend
    go_wp2_with (fail)
    go_ret2
    exact unhide HOV
   | false =>
    have HD := hide hd
    clear hd
    go_wp2_with (fail)
    refine (rIs_any (unhide HR).rs (unhide HA) 45 _ rfl).mono ?_
    rintro e w3 ⟨rfl, rfl⟩
    cases h45 : Sp.tk l 45 with
    | true =>
     have H45 := hide h45
     clear h45
     go_wp2_with (fail)
     refine (rNumber_any (unhide HR) (unhide HA) hmo).mono ?_
     rintro e w9 hend
     have hov := (hend.ov (f := f) (Or.inr (unhide H45))).up (unhide HK)
     obtain ⟨a, qq, rfl⟩ := hov.form
     have HOV := hide hov
     clear hov hend
     go_wp2_with (fail)
     go_ret2
     exact unhide HOV
    | false =>
     have H45 := hide h45
     clear h45
     go_wp2_with (fail)
     refine (rIs_any (unhide HR).rs (unhide HA) 34 _ rfl).mono ?_
     rintro e w4 ⟨rfl, rfl⟩
     cases h34 : Sp.tk l 34 with
     | true =>
      obtain ⟨r0, rfl⟩ := tk_form h34
      have hcall := hide (rText_any (unhide HR).rs (unhide HA) (unhide HR).lt)
      clear h34
      go_wp2_with (fail)
      refine (unhide hcall).mono ?_
      rintro e w5 ⟨hc, hb5⟩
      clear hcall
      rcases hc with ⟨k, l1, b, q1, hs, rfl, hbk, hat1, hq1⟩ | ⟨hs, rfl⟩
      ·obtain rfl : b = ⟨k.toArray⟩ := by rw [← hbk, Array.toArray_toList]
       have e0 : ((q1 : Int) == 0) = false := by rw [beq_eq_false_iff_ne]; omega
       have HRV := hide (show Sp.rval (f + 1) (34 :: r0) = some (Sp.oStr k, l1) by rw [rval_str, hs]; rfl)
       have HAT1 := hide hat1
       have HB5 := hide hb5
       clear hs hat1 hbk hb5
       go_wp2_with (fail)
       go_ret2
       refine ⟨((unhide HK).trans (KeptX.of_below (unhide HB5))).alloc _, Or.inl ⟨Sp.oStr k, l1, w5.heap.size, q1, unhide HRV, rfl, unhide HAT1, ⟨w5.heap.size, rfl, Nat.le_trans (unhide HK).size (unhide HB5).size, Or.inr (Or.inr (Or.inl ⟨k, rfl, heap_new _ _ _ rfl⟩))⟩, ?_⟩⟩
       show RB _ R t mo (tw || false) (far || false)
       rw [Bool.or_false, Bool.or_false]
       have hr5 : RB w5 R t mo tw far := (unhide HR).blk ((unhide HB5).block R (unhide HR).lt)
       exact (Below.heap_alloc _ _ _ hr5.lt).trans hr5
      ·have HF := hide (OvEnd.fail (o := Sp.rval (f + 1) (34 :: r0)) (f := f + 1) (tw := tw) (far := far) (by rw [rval_str, hs]; rfl) ((unhide HK).trans (KeptX.of_below hb5)) ((unhide HR).blk (hb5.block R (unhide HR).lt)))
       clear hs hb5
       go_wp2_with (fail)
       go_ret2
       exact unhide HF
     | false =>
      have H34 := hide h34
      clear h34
      go_wp2_with (fail)
      refine (rIs_any (unhide HR).rs (unhide HA) 91 _ rfl).mono ?_
      rintro e w5 ⟨rfl, rfl⟩
      cases h91 : Sp.tk l 91 with
      | true =>
       obtain ⟨r0, rfl⟩ := tk_form h91
       have hcall := hide (oArray_ok (unhide HV) (unhide HR) (unhide HA) hmo (by simpa using hlf))
       clear h91
       go_wp2_with (fail)
       refine (unhide hcall).mono ?_
       rintro e w9 hend
       have hov := hend.up (unhide HK)
       obtain ⟨a, qq, rfl⟩ := hov.form
       have HOV := hide hov
       clear hov hend hcall
       go_wp2_with (fail)
       go_ret2
       exact unhide HOV
      | false =>
       have H91 := hide h91
       clear h91
       go_wp2_with (fail)
       refine (rIs_any (unhide HR).rs (unhide HA) 123 _ rfl).mono ?_
       rintro e w6 ⟨rfl, rfl⟩
       cases h123 : Sp.tk l 123 with
       | true =>
        obtain ⟨r0, rfl⟩ := tk_form h123
        have hcall := hide (oObject_ok (unhide HV) (unhide HR) (unhide HA) hmo (by simpa using hlf))
        clear h123
        go_wp2_with (fail)
        refine (unhide hcall).mono ?_
        rintro e w9 hend
        have hov := hend.up (unhide HK)
        obtain ⟨a, qq, rfl⟩ := hov.form
        have HOV := hide hov
        clear hov hend hcall
        go_wp2_with (fail)
        go_ret2
        exact unhide HOV
       | false =>
        have HF := hide (OvEnd.fail (o := Sp.rval (f + 1) l) (f := f + 1) (tw := tw) (far := far) (rval_none f l (unhide HN3) (unhide HD) (unhide H45) (unhide H34) (unhide H91) h123) (unhide HK) (unhide HR))
        clear h123
        go_wp2_with (fail)
        go_ret2
        exact unhide HF
theorem oValue_ok (f : Nat) : OvOk f := by
 induction f with
 | zero => intro R t mo tw far p l w _ _ _ h; omega
 | succ f ih => exact oValue_step ih
end Go.Proofs.YtdpomdelmdofmaaGreatDoor

namespace Go.Proofs.YtdpomdelmdofmaaGreatDoor
open Go.RowKit
theorem maxs_bd (b : Int) (l : List Int) (h : ∀ x ∈ l, x ≤ b) : ∀ a, a ≤ b → Sp.maxs a l ≤ b := by
 induction l with
 | nil => intro a ha; exact ha
 | cons x r ih => intro a ha; exact ih (fun y hy => h y (by simp [hy])) _ (Int.max_le.2 ⟨ha, h x (by simp)⟩)
theorem dpO_bd (f : Nat) : ∀ o, 1 ≤ Sp.dpO f o ∧ Sp.dpO f o ≤ f + 1 := by
 induction f with
 | zero => intro o; exact ⟨Int.le_refl _, by simp [Sp.dpO]⟩
 | succ f ih =>
  intro o
  unfold Sp.dpO
  split
  ·rename_i es _
   have h1 := maxs_le (es.map (Sp.dpO f)) 0
   have h2 := maxs_bd (f + 1) (es.map (Sp.dpO f)) (fun x hx => by obtain ⟨y, _, rfl⟩ := List.mem_map.1 hx; exact (ih y).2) 0 (by omega)
   omega
  ·rename_i es
   have h1 := maxs_le (es.map fun p => Sp.dpO f p.2) 0
   have h2 := maxs_bd (f + 1) (es.map fun p => Sp.dpO f p.2) (fun x hx => by obtain ⟨y, _, rfl⟩ := List.mem_map.1 hx; exact (ih y.2).2) 0 (by omega)
   omega
  ·omega
def OdOk (f : Nat) : Prop := ∀ (F : Nat → Prop) (w : World) (v : Value) (o : Sp.O), ORep f F w v o → f ≤ 2100 → Calls Tryz.prog 93 #[v] w fun e w' => e = .returned (.int .i64 (Sp.dpO f o)) ∧ w' = w
set_option maxHeartbeats 4000000 in
theorem depth_nil {w : World} {b : Nat} {k : Sp.By} {ng : Bool} {ds : Sp.By} {x : Int} {s : Sp.By} {ks : Value} {a : Option Addr} {c : Nat} (h : OB w b k ng ds x s ks (.slice a 0 c)) :
  Calls Tryz.prog 93 #[.pointer (some ⟨b, 0, none⟩)] w fun e w' => e = .returned (.int .i64 1) ∧ w' = w := by
 have c6 := h.c6
 clear h
 go_enter Tryz.func93, Tryz.ntmps93
 go_wp2_with (fail)
 refine wp_loop_rounds 1 ?_
 rw [rounds_succ]
 go_wp2_with (fail)
 go_ret
 exact ⟨rfl, rfl⟩
set_option maxHeartbeats 4000000 in
theorem depth_some {f : Nat} (hD : OdOk f) (hf : f ≤ 2100) {w : World} {F : Nat → Prop} {b B : Nat} {k : Sp.By} {ng : Bool} {ds : Sp.By} {x : Int} {s : Sp.By} {ks sl : Value} {ps : List Value} {os : List Sp.O} (h : OB w b k ng ds x s ks sl)
  (hv : w.ownsRow B 66 1 sl ps.length ps) (hal : Al (ORep f F w) ps os) :
  Calls Tryz.prog 93 #[.pointer (some ⟨b, 0, none⟩)] w fun e w' => e = .returned (.int .i64 (Sp.maxs 0 (os.map (Sp.dpO f)) + 1)) ∧ w' = w := by
 have hle := hal.length
 by_cases h0 : ps.length = 0
 ·have hos : os = [] := List.eq_nil_of_length_eq_zero (by omega)
  subst hos
  have hz : ∃ a c, sl = .slice a 0 c := by
   rcases hv.2 with ⟨e, _⟩ | ⟨g, cap, cur, e, _⟩
   ·exact ⟨none, 0, e⟩
   ·exact ⟨_, cap, by rw [e, h0]⟩
  obtain ⟨a, c, rfl⟩ := hz
  exact depth_nil h
 ·obtain ⟨g, cap, rfl, h1, h2, h3, h4⟩ := owns_cell hv (by omega)
  have c6 := h.c6
  obtain ⟨n, hn⟩ : ∃ n, n = ps.length := ⟨_, rfl⟩
  rw [← hn] at c6 h1
  have hn1 : (n : Int) ≤ 9223372036854775807 := by unfold maxLen at h2; omega
  have HN := hide hn
  have HL := hide hle
  have HC := hide h4
  have HAL := hide hal
  have HD := hide hD
  clear h hv hn hle h4 hal hD h0
  go_enter Tryz.func93, Tryz.ntmps93
  go_wp2_with (fail)
  go_loopw [3, 4] (fun d i wr => ∃ (j : Nat) (m : Int), j ≤ n ∧ i = .int .i64 j ∧ d = .int .i64 m ∧ m = Sp.maxs 0 ((os.map (Sp.dpO f)).take j) ∧ 0 ≤ m ∧ m ≤ 2200 ∧ wr = w) (fun _ i _ => n - (intOf i).toNat)
  case atStart => exact ⟨0, 0, by omega, rfl, rfl, rfl, by omega, by omega, rfl⟩
  case round =>
   obtain ⟨j, m, hj, rfl, rfl, hm, hm0, hm1, rfl⟩ := hrel
   have HM := hide hm
   clear hm
   by_cases hlt : j < n
   ·have hjp : j < ps.length := by have := unhide HN; omega
    have hjo : j < os.length := by have := unhide HL; omega
    have q1 := unhide HC j hjp
    have hrep := (unhide HAL).get j hjp hjo
    have hcall := hide ((unhide HD) _ _ _ _ hrep hf)
    have hbd := dpO_bd f os[j]
    have hst : Sp.maxs 0 ((os.map (Sp.dpO f)).take (j + 1)) = max m (Sp.dpO f os[j]) := by
     rw [List.take_succ_eq_append_getElem (by simpa using hjo), maxs_snoc, ← unhide HM, List.getElem_map]
    have HST := hide hst
    clear hst hrep
    go_wp2_with (fail)
    refine (unhide hcall).mono ?_
    rintro e w2 ⟨rfl, rfl⟩
    clear hcall
    generalize Sp.dpO f os[j] = dj at *
    by_cases hgt : m < dj
    ·have e1 : decide (m < dj) = true := decide_eq_true hgt
     go_wp2_with (fail)
     exact ⟨⟨j + 1, dj, by omega, by go_num, rfl, by rw [unhide HST]; omega, by omega, by omega, trivial⟩, by simp only [intOf]; omega⟩
    ·have e1 : decide (m < dj) = false := decide_eq_false hgt
     go_wp2_with (fail)
     exact ⟨⟨j + 1, m, by omega, by go_num, rfl, by rw [unhide HST]; omega, by omega, by omega, trivial⟩, by simp only [intOf]; omega⟩
   ·have hjn : (os.map (Sp.dpO f)).take j = os.map (Sp.dpO f) := List.take_of_length_le (by have := unhide HN; have := unhide HL; simp; omega)
    have HJ := hide hjn
    clear hjn
    go_wp2_with (fail)
    go_ret
    exact ⟨by rw [← unhide HJ, ← unhide HM]; rfl, rfl⟩
theorem depth_ok (f : Nat) : OdOk f := by
 induction f with
 | zero => intro F w v o h; exact h.elim
 | succ f ih =>
  intro F w v o h hf
  obtain ⟨b, rfl, hb, h⟩ := h
  rcases h with ⟨k, hk, rfl, h⟩ | ⟨n, x, rfl, h⟩ | ⟨s, rfl, h⟩ | ⟨es, sl, ps, rfl, h, ho, hs, ha⟩ | ⟨es, kl, sl, ps, rfl, h, ho, hs, ho2, hs2, ha⟩
  ·exact depth_nil h
  ·exact depth_nil h
  ·exact depth_nil h
  ·exact depth_some ih (by omega) h ho ha
  ·have e : Sp.dpO (f + 1) (Sp.oObj es) = Sp.maxs 0 ((es.map (·.2)).map (Sp.dpO f)) + 1 := by
    show Sp.maxs 0 ((Sp.lits es).map fun p => Sp.dpO f p.2) + 1 = _
    unfold Sp.lits
    rw [List.map_map, List.map_map]
    rfl
   rw [e]
   exact depth_some ih (by omega) h ho2 ha
end Go.Proofs.YtdpomdelmdofmaaGreatDoor

namespace Go.Proofs.YtdpomdelmdofmaaGreatDoor
open Go.RowKit
def Eat (l r : Sp.By) : Prop := Sp.u8 l = Sp.u8 r
theorem Eat.refl (l : Sp.By) : Eat l l := rfl
theorem Eat.trans {a b c : Sp.By} (h : Eat a b) (k : Eat b c) : Eat a c := Eq.trans h k
theorem eat_one (a : UInt8) (r : Sp.By) (h : a.toNat < 128) : Eat (a :: r) r := by
 have e := sca_one (r := r) h
 unfold Eat
 rw [u8_go (by simp) (by rw [e]; simp), e]
 rfl
theorem eat_tk {l : Sp.By} {c : UInt8} (h : Sp.tk l c = true) (hc : c.toNat < 128) : Eat l l.tail := by
 obtain ⟨r, rfl⟩ := tk_form h
 exact eat_one c r hc
theorem eat_skB (l : Sp.By) : Eat l (Sp.skB l) := by
 induction l with
 | nil => exact Eat.refl _
 | cons c r ih =>
  rw [Sp.skB]
  split
  ·rename_i h
   refine (eat_one c r ?_).trans ih
   unfold Sp.isB at h
   simp only [Bool.or_eq_true, beq_iff_eq] at h
   rcases h with ((rfl | rfl) | rfl) | rfl <;> decide
  ·exact Eat.refl _
theorem eat_dg (l : Sp.By) : Eat l (Sp.dgR l) := by
 induction l with
 | nil => exact Eat.refl _
 | cons c r ih =>
  rw [Sp.dgR]
  split
  ·rename_i h
   exact (eat_one c r (by have := (isD_iff c).1 h; omega)).trans ih
  ·exact Eat.refl _
theorem eat_frac {l f r : Sp.By} (h : Sp.frac l = some (f, r)) : Eat l r := by
 unfold Sp.frac at h
 split at h
 ·rename_i k
  split at h
  ·cases h
  ·injection h with h; injection h with h1 h2; subst h2; exact (eat_tk k (by decide)).trans (eat_dg _)
 ·injection h with h; injection h with h1 h2; subst h2; exact Eat.refl _
theorem eat_expo {l r : Sp.By} {n : Int} (h : Sp.expo l = some (n, r)) : Eat l r := by
 unfold Sp.expo at h
 split at h
 ·rename_i k
  have h0 : Eat l l.tail := by
   rcases Bool.or_eq_true _ _ ▸ k with k | k
   ·exact eat_tk k (by decide)
   ·exact eat_tk k (by decide)
  split at h
  ·rename_i k2
   split at h
   ·cases h
   ·injection h with h; injection h with h1 h2; subst h2; exact h0.trans ((eat_tk k2 (by decide)).trans (eat_dg _))
  ·split at h
   ·rename_i k2
    split at h
    ·cases h
    ·injection h with h; injection h with h1 h2; subst h2; exact h0.trans ((eat_tk k2 (by decide)).trans (eat_dg _))
   ·split at h
    ·cases h
    ·injection h with h; injection h with h1 h2; subst h2; exact h0.trans (eat_dg _)
 ·injection h with h; injection h with h1 h2; subst h2; exact Eat.refl _
theorem eat_numB {ng : Bool} {l r : Sp.By} {n : Sp.Nm} (h : Sp.numB ng l = some (n, r)) : Eat l r := by
 unfold Sp.numB at h
 split at h
 ·cases h
 ·split at h
  ·cases h
  ·rename_i f r1 hf
   split at h
   ·cases h
   ·rename_i e r2 he
    injection h with h; injection h with h1 h2; subst h2
    exact (eat_dg _).trans ((eat_frac hf).trans (eat_expo he))
theorem eat_num {l r : Sp.By} {n : Sp.Nm} (h : Sp.num l = some (n, r)) : Eat l r := by
 unfold Sp.num at h
 split at h
 ·rename_i k; exact (eat_tk k (by decide)).trans (eat_numB h)
 ·exact eat_numB h
theorem hexd_asc {n d : Nat} (h : Sp.hexd n = some d) : n < 128 := by
 unfold Sp.hexd at h
 repeat' split at h
 all_goals first | omega | cases h
theorem eat_hexs (k : Nat) : ∀ (n : Nat) (l : Sp.By) (m : Nat) (r : Sp.By), Sp.hexs k n l = some (m, r) → Eat l r := by
 induction k with
 | zero => intro n l m r h; injection h with h; injection h with h1 h2; subst h2; exact Eat.refl _
 | succ k ih =>
  intro n l m r h
  rw [Sp.hexs] at h
  cases l with
  | nil => simp [Sp.pk, Sp.hexd] at h
  | cons c l =>
   split at h
   ·cases h
   ·rename_i d hd
    exact (eat_one c l (hexd_asc hd)).trans (ih _ _ _ _ h)
theorem eat_scal {l r : Sp.By} {m : Nat} (h : Sp.scal l = some (m, r)) : Eat l r := by
 unfold Sp.scal at h
 split at h
 ·cases h
 ·rename_i a r1 hx
  have e1 := eat_hexs _ _ _ _ _ hx
  split at h
  ·injection h with h; injection h with h1 h2; subst h2; exact e1
  ·split at h
   ·cases h
   ·split at h
    ·rename_i k1
     split at h
     ·rename_i k2
      split at h
      ·cases h
      ·rename_i b r2 hy
       have e2 := eat_hexs _ _ _ _ _ hy
       split at h
       ·cases h
       ·have h2 := (Prod.mk.inj (Option.some.inj h)).2
        subst h2
        exact e1.trans ((eat_tk k1 (by decide)).trans ((eat_tk k2 (by decide)).trans e2))
     ·cases h
    ·cases h
theorem eat_escIn {l r : Sp.By} {m : Nat} (T : List (UInt8 × Nat)) (hT : ∀ x ∈ T, x.1.toNat < 128) (h : Sp.escIn l T = some (m, r)) : Eat l r := by
 induction T with
 | nil => cases h
 | cons x T ih =>
  obtain ⟨c, n⟩ := x
  rw [Sp.escIn] at h
  split at h
  ·rename_i k
   injection h with h; injection h with h1 h2; subst h2; exact eat_tk k (hT (c, n) (by simp))
  ·exact ih (fun x hx => hT x (by simp [hx])) h
theorem esc_asc : ∀ x ∈ Sp.escT, x.1.toNat < 128 := by
 intro x hx
 simp only [Sp.escT, List.mem_cons, List.not_mem_nil, or_false] at hx
 rcases hx with rfl | rfl | rfl | rfl | rfl | rfl | rfl | rfl <;> decide
theorem eat_chr {l r : Sp.By} {m : Nat} (hl : l ≠ []) (h : Sp.chr l = some (m, r)) : Eat l r := by
 cases l with
 | nil => exact absurd rfl hl
 | cons c l =>
  cases k : Sp.tk (c :: l) 92 with
  | true =>
   have h2 : Sp.esc (c :: l).tail = some (m, r) := by unfold Sp.chr at h; rw [if_pos k] at h; exact h
   refine (eat_tk k (by decide)).trans ?_
   unfold Sp.esc at h2
   split at h2
   ·rename_i k2; exact (eat_tk k2 (by decide)).trans (eat_scal h2)
   ·exact eat_escIn _ esc_asc h2
  | false =>
   rcases sca_chr k with ⟨_, h1⟩ | ⟨v, n, h1, h2, _, _, h5⟩
   ·rw [h1] at h; cases h
   ·rw [h5] at h
    split at h
    ·cases h
    ·injection h with h; injection h with h6 h7; subst h7
     unfold Eat
     rw [u8_go (by simp) (by rw [h1]; simp only; omega), h1]
theorem eat_chrs (f : Nat) : ∀ (l s r : Sp.By), Sp.chrs f l = some (s, r) → Eat l r := by
 induction f with
 | zero => intro l s r h; cases h
 | succ f ih =>
  intro l s r h
  rw [Sp.chrs] at h
  split at h
  ·rename_i k
   injection h with h; injection h with h1 h2; subst h2; exact eat_tk k (by decide)
  ·split at h
   ·cases h
   ·rename_i c r1 hc
    split at h
    ·cases h
    ·rename_i s1 r2 hx
     injection h with h; injection h with h1 h2; subst h2
     refine (eat_chr ?_ hc).trans (ih _ _ _ hx)
     intro e
     subst e
     have := (chr_len hc).1
     simp at this
theorem eat_quo {l s r : Sp.By} (h : Sp.quo l = some (s, r)) : Eat l r := by
 unfold Sp.quo at h
 split at h
 ·rename_i k; exact (eat_tk k (by decide)).trans (eat_chrs _ _ _ _ h)
 ·cases h
theorem eat_list (x : Sp.By) (hx : ∀ c ∈ x, c.toNat < 128) (r : Sp.By) : Eat (x ++ r) r := by
 induction x with
 | nil => exact Eat.refl _
 | cons c x ih => exact (eat_one c _ (hx c (by simp))).trans (ih fun c hc => hx c (by simp [hc]))
theorem eat_word {l r : Sp.By} {m : Nat} (T : List Sp.By) (hT : ∀ x ∈ T, ∀ c ∈ x, c.toNat < 128) : ∀ k, Sp.wordIn l k T = some (m, r) → Eat l r := by
 induction T with
 | nil => intro k h; cases h
 | cons x T ih =>
  intro k h
  rw [Sp.wordIn] at h
  split at h
  ·rename_i hp
   injection h with h; injection h with h1 h2; subst h2
   unfold Lib.hasPrefix at hp
   obtain ⟨z, rfl⟩ := List.isPrefixOf_iff_prefix.1 hp
   rw [List.drop_left]
   exact eat_list x (hT x (by simp)) z
  ·exact ih (fun y hy => hT y (by simp [hy])) _ h
theorem eat_lst {σ : Type} (cl : UInt8) (hcl : cl.toNat < 128) (item : Sp.By → σ → Option (Sp.By × σ)) (hi : ∀ l s l' s', item l s = some (l', s') → Eat l l') (n : Nat) : ∀ l s r s', Sp.lst cl item n l s = some (r, s') → Eat l r := by
 induction n with
 | zero => intro l s r s' h; cases h
 | succ n ih =>
  intro l s r s' h
  rw [Sp.lst] at h
  split at h
  ·cases h
  ·rename_i l1 s1 h1
   have e1 := ((eat_skB l).trans (hi _ _ _ _ h1)).trans (eat_skB l1)
   split at h
   ·rename_i k
    injection h with h; injection h with h2 h3; subst h2; exact e1.trans (eat_tk k hcl)
   ·split at h
    ·rename_i k
     exact e1.trans ((eat_tk k (by decide)).trans (ih _ _ _ _ h))
    ·cases h
theorem eat_lstAll {σ : Type} (op cl : UInt8) (hop : op.toNat < 128) (hcl : cl.toNat < 128) (item : Sp.By → σ → Option (Sp.By × σ)) (hi : ∀ l s l' s', item l s = some (l', s') → Eat l l') {l r : Sp.By} {s s' : σ} (h : Sp.lstAll op cl item l s = some (r, s')) : Eat l r := by
 unfold Sp.lstAll at h
 split at h
 ·rename_i k
  have e1 := (eat_tk k hop).trans (eat_skB _)
  split at h
  ·rename_i k2
   injection h with h; injection h with h1 h2; subst h1; exact e1.trans (eat_tk k2 hcl)
  ·exact e1.trans (eat_lst cl hcl item hi _ _ _ _ _ h)
 ·cases h
theorem eat_rval (f : Nat) : ∀ (l : Sp.By) (o : Sp.O) (r : Sp.By), Sp.rval f l = some (o, r) → Eat l r := by
 induction f with
 | zero => intro l o r h; cases h
 | succ f ih =>
  intro l o r h
  unfold Sp.rval at h
  split at h
  ·split at h
   ·cases h
   ·rename_i h1
    injection h with h; injection h with h2 h3; subst h3
    refine eat_lstAll 123 125 (by decide) (by decide) _ ?_ h1
    intro l s l' s' h
    unfold Sp.rmemb at h
    split at h
    ·cases h
    ·rename_i k l1 hq
     split at h
     ·rename_i k58
      split at h
      ·cases h
      ·rename_i o r hv
       injection h with h; injection h with h1 h2; subst h1
       exact (eat_quo hq).trans ((eat_skB _).trans ((eat_tk k58 (by decide)).trans ((eat_skB _).trans (ih _ _ _ hv))))
     ·cases h
  ·split at h
   ·split at h
    ·cases h
    ·rename_i h1
     injection h with h; injection h with h2 h3; subst h3
     refine eat_lstAll 91 93 (by decide) (by decide) _ ?_ h1
     intro l s l' s' h
     unfold Sp.relem at h
     split at h
     ·cases h
     ·rename_i o r hv
      injection h with h; injection h with h1 h2; subst h1
      exact ih _ _ _ hv
   ·split at h
    ·split at h
     ·cases h
     ·rename_i h1
      injection h with h; injection h with h2 h3; subst h3; exact eat_quo h1
    ·split at h
     ·split at h
      ·cases h
      ·rename_i h1
       injection h with h; injection h with h2 h3; subst h3; exact eat_num h1
     ·split at h
      ·cases h
      ·rename_i h1
       injection h with h; injection h with h2 h3; subst h3; exact eat_word _ (by decide) _ h1
theorem u8_of_rval {f : Nat} {s r : Sp.By} {o : Sp.O} (h : Sp.rval f (Sp.skB s) = some (o, r)) (he : (Sp.skB r).isEmpty = true) : Sp.u8 s = true := by
 have h1 := (eat_skB s).trans ((eat_rval f _ _ _ h).trans (eat_skB r))
 have h2 : Sp.skB r = [] := by simpa using he
 rw [h2] at h1
 unfold Eat at h1
 rw [h1, u8_nil]
end Go.Proofs.YtdpomdelmdofmaaGreatDoor
