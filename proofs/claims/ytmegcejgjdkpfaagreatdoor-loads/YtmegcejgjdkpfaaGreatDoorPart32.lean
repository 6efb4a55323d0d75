/-
  Walk of the reference's (*Val).depth.
  A text that the grammar takes is UTF-8; the program's exponents and the reference's own are the same, or both too far.
  The program's exponents and the reference's own are the same, or both too far; what is read, by the reference's reader.
-/
import Derived.Test.YtmegcejgjdkpfaaGreatDoorPart31
namespace Go.Proofs.YtmegcejgjdkpfaaGreatDoor
open Go.RowKit

theorem maxs_bd (b : Int) (l : List Int) (h : ∀ x ∈ l, x ≤ b) : ∀ a, a ≤ b → Sp.maxs a l ≤ b := by
  induction l with
  | nil => intro a ha; exact ha
  | cons x r ih => intro a ha; exact ih (fun y hy => h y (by simp [hy])) _ (Int.max_le.2 ⟨ha, h x (by simp)⟩)
theorem dpO_bd (f : Nat) : ∀ o, 1 ≤ Sp.dpO f o ∧ Sp.dpO f o ≤ f + 1 := by
  induction f with
  | zero => intro o; exact ⟨Int.le_refl _, by simp [Sp.dpO]⟩
  | succ f ih =>
    intro o
    unfold Sp.dpO
    split
    · rename_i es _
      have h1 := maxs_le (es.map (Sp.dpO f)) 0
      have h2 := maxs_bd (f + 1) (es.map (Sp.dpO f)) (fun x hx => by obtain ⟨y, _, rfl⟩ := List.mem_map.1 hx; exact (ih y).2) 0 (by omega)
      omega
    · rename_i es
      have h1 := maxs_le (es.map fun p => Sp.dpO f p.2) 0
      have h2 := maxs_bd (f + 1) (es.map fun p => Sp.dpO f p.2) (fun x hx => by obtain ⟨y, _, rfl⟩ := List.mem_map.1 hx; exact (ih y.2).2) 0 (by omega)
      omega
    · omega

def OdOk (f : Nat) : Prop := ∀ (F : Nat → Prop) (w : World) (v : Value) (o : Sp.O), ORep f F w v o → f ≤ 2100 → Calls Tryz.prog 70 #[v] w fun e w' => e = .returned (.int .i64 (Sp.dpO f o)) ∧ w' = w

set_option maxHeartbeats 4000000 in
theorem depth_nil {w : World} {b : Nat} {k : Sp.By} {ng : Bool} {ds : Sp.By} {x : Int} {s : Sp.By} {ks : Value} {a : Option Addr} {c : Nat} (h : OB w b k ng ds x s ks (.slice a 0 c)) :
    Calls Tryz.prog 70 #[.pointer (some ⟨b, 0, none⟩)] w fun e w' => e = .returned (.int .i64 1) ∧ w' = w := by
  have c6 := h.c6
  clear h
  go_enter Tryz.func70, Tryz.ntmps70
  go_wp2_with (fail)
  refine wp_loop_rounds 1 ?_
  rw [rounds_succ]
  go_wp2_with (fail)
  go_ret
  exact ⟨rfl, rfl⟩

set_option maxHeartbeats 4000000 in
theorem depth_some {f : Nat} (hD : OdOk f) (hf : f ≤ 2100) {w : World} {F : Nat → Prop} {b B : Nat} {k : Sp.By} {ng : Bool} {ds : Sp.By} {x : Int} {s : Sp.By} {ks sl : Value} {ps : List Value} {os : List Sp.O} (h : OB w b k ng ds x s ks sl)
    (hv : w.ownsRow B 62 1 sl ps.length ps) (hal : Al (ORep f F w) ps os) :
    Calls Tryz.prog 70 #[.pointer (some ⟨b, 0, none⟩)] w fun e w' => e = .returned (.int .i64 (Sp.maxs 0 (os.map (Sp.dpO f)) + 1)) ∧ w' = w := by
  have hle := hal.length
  by_cases h0 : ps.length = 0
  · have hos : os = [] := List.eq_nil_of_length_eq_zero (by omega)
    subst hos
    have hz : ∃ a c, sl = .slice a 0 c := by
      rcases hv.2 with ⟨e, _⟩ | ⟨g, cap, cur, e, _⟩
      · exact ⟨none, 0, e⟩
      · exact ⟨_, cap, by rw [e, h0]⟩
    obtain ⟨a, c, rfl⟩ := hz
    exact depth_nil h
  · obtain ⟨g, cap, rfl, h1, h2, h3, h4⟩ := owns_cell hv (by omega)
    have c6 := h.c6
    obtain ⟨n, hn⟩ : ∃ n, n = ps.length := ⟨_, rfl⟩
    rw [← hn] at c6 h1
    have hn1 : (n : Int) ≤ 9223372036854775807 := by unfold maxLen at h2; omega
    have HN := hide hn
    have HL := hide hle
    have HC := hide h4
    have HAL := hide hal
    have HD := hide hD
    clear h hv hn hle h4 hal hD h0
    go_enter Tryz.func70, Tryz.ntmps70
    go_wp2_with (fail)
    go_loopw [3, 4] (fun d i wr => ∃ (j : Nat) (m : Int), j ≤ n ∧ i = .int .i64 j ∧ d = .int .i64 m ∧ m = Sp.maxs 0 ((os.map (Sp.dpO f)).take j) ∧ 0 ≤ m ∧ m ≤ 2200 ∧ wr = w) (fun _ i _ => n - (intOf i).toNat)
    case atStart => exact ⟨0, 0, by omega, rfl, rfl, rfl, by omega, by omega, rfl⟩
    case round =>
      obtain ⟨j, m, hj, rfl, rfl, hm, hm0, hm1, rfl⟩ := hrel
      have HM := hide hm
      clear hm
      by_cases hlt : j < n
      · have hjp : j < ps.length := by have := unhide HN; omega
        have hjo : j < os.length := by have := unhide HL; omega
        have q1 := unhide HC j hjp
        have hrep := (unhide HAL).get j hjp hjo
        have hcall := hide ((unhide HD) _ _ _ _ hrep hf)
        have hbd := dpO_bd f os[j]
        have hst : Sp.maxs 0 ((os.map (Sp.dpO f)).take (j + 1)) = max m (Sp.dpO f os[j]) := by
          rw [List.take_succ_eq_append_getElem (by simpa using hjo), maxs_snoc, ← unhide HM, List.getElem_map]
        have HST := hide hst
        clear hst hrep
        go_wp2_with (fail)
        refine (unhide hcall).mono ?_
        rintro e w2 ⟨rfl, rfl⟩
        clear hcall
        generalize Sp.dpO f os[j] = dj at *
        by_cases hgt : m < dj
        · have e1 : decide (m < dj) = true := decide_eq_true hgt
          go_wp2_with (fail)
          exact ⟨⟨j + 1, dj, by omega, by go_num, rfl, by rw [unhide HST]; omega, by omega, by omega, trivial⟩, by simp only [intOf]; omega⟩
        · have e1 : decide (m < dj) = false := decide_eq_false hgt
          go_wp2_with (fail)
          exact ⟨⟨j + 1, m, by omega, by go_num, rfl, by rw [unhide HST]; omega, by omega, by omega, trivial⟩, by simp only [intOf]; omega⟩
      · have hjn : (os.map (Sp.dpO f)).take j = os.map (Sp.dpO f) := List.take_of_length_le (by have := unhide HN; have := unhide HL; simp; omega)
        have HJ := hide hjn
        clear hjn
        go_wp2_with (fail)
        go_ret
        exact ⟨by rw [← unhide HJ, ← unhide HM]; rfl, rfl⟩

theorem depth_ok (f : Nat) : OdOk f := by
  induction f with
  | zero => intro F w v o h; exact h.elim
  | succ f ih =>
    intro F w v o h hf
    obtain ⟨b, rfl, hb, h⟩ := h
    rcases h with ⟨k, hk, rfl, h⟩ | ⟨n, x, rfl, h⟩ | ⟨s, rfl, h⟩ | ⟨es, sl, ps, rfl, h, ho, hs, ha⟩ | ⟨es, kl, sl, ps, rfl, h, ho, hs, ho2, hs2, ha⟩
    · exact depth_nil h
    · exact depth_nil h
    · exact depth_nil h
    · exact depth_some ih (by omega) h ho ha
    · have e : Sp.dpO (f + 1) (Sp.oObj es) = Sp.maxs 0 ((es.map (·.2)).map (Sp.dpO f)) + 1 := by
        show Sp.maxs 0 ((Sp.lits es).map fun p => Sp.dpO f p.2) + 1 = _
        unfold Sp.lits
        rw [List.map_map, List.map_map]
        rfl
      rw [e]
      exact depth_some ih (by omega) h ho2 ha

end Go.Proofs.YtmegcejgjdkpfaaGreatDoor

namespace Go.Proofs.YtmegcejgjdkpfaaGreatDoor
open Go.RowKit

/-- what stands ahead of r in l is UTF-8, if it is cut off between characters -/
def Eat (l r : Sp.By) : Prop := Sp.u8 l = Sp.u8 r
theorem Eat.refl (l : Sp.By) : Eat l l := rfl
theorem Eat.trans {a b c : Sp.By} (h : Eat a b) (k : Eat b c) : Eat a c := Eq.trans h k
theorem eat_one (a : UInt8) (r : Sp.By) (h : a.toNat < 128) : Eat (a :: r) r := by
  have e := sca_one (r := r) h
  unfold Eat
  rw [u8_go (by simp) (by rw [e]; simp), e]
  rfl
theorem eat_tk {l : Sp.By} {c : UInt8} (h : Sp.tk l c = true) (hc : c.toNat < 128) : Eat l l.tail := by
  obtain ⟨r, rfl⟩ := tk_form h
  exact eat_one c r hc
theorem eat_skB (l : Sp.By) : Eat l (Sp.skB l) := by
  induction l with
  | nil => exact Eat.refl _
  | cons c r ih =>
    rw [Sp.skB]
    split
    · rename_i h
      refine (eat_one c r ?_).trans ih
      unfold Sp.isB at h
      simp only [Bool.or_eq_true, beq_iff_eq] at h
      rcases h with ((rfl | rfl) | rfl) | rfl <;> decide
    · exact Eat.refl _
theorem eat_dg (l : Sp.By) : Eat l (Sp.dgR l) := by
  induction l with
  | nil => exact Eat.refl _
  | cons c r ih =>
    rw [Sp.dgR]
    split
    · rename_i h
      exact (eat_one c r (by have := (isD_iff c).1 h; omega)).trans ih
    · exact Eat.refl _
theorem eat_frac {l f r : Sp.By} (h : Sp.frac l = some (f, r)) : Eat l r := by
  unfold Sp.frac at h
  split at h
  · rename_i k
    split at h
    · cases h
    · injection h with h; injection h with h1 h2; subst h2; exact (eat_tk k (by decide)).trans (eat_dg _)
  · injection h with h; injection h with h1 h2; subst h2; exact Eat.refl _
theorem eat_expo {l r : Sp.By} {n : Int} (h : Sp.expo l = some (n, r)) : Eat l r := by
  unfold Sp.expo at h
  split at h
  · rename_i k
    have h0 : Eat l l.tail := by
      rcases Bool.or_eq_true _ _ ▸ k with k | k
      · exact eat_tk k (by decide)
      · exact eat_tk k (by decide)
    split at h
    · rename_i k2
      split at h
      · cases h
      · injection h with h; injection h with h1 h2; subst h2; exact h0.trans ((eat_tk k2 (by decide)).trans (eat_dg _))
    · split at h
      · rename_i k2
        split at h
        · cases h
        · injection h with h; injection h with h1 h2; subst h2; exact h0.trans ((eat_tk k2 (by decide)).trans (eat_dg _))
      · split at h
        · cases h
        · injection h with h; injection h with h1 h2; subst h2; exact h0.trans (eat_dg _)
  · injection h with h; injection h with h1 h2; subst h2; exact Eat.refl _
theorem eat_numB {ng : Bool} {l r : Sp.By} {n : Sp.Nm} (h : Sp.numB ng l = some (n, r)) : Eat l r := by
  unfold Sp.numB at h
  split at h
  · cases h
  · split at h
    · cases h
    · rename_i f r1 hf
      split at h
      · cases h
      · rename_i e r2 he
        injection h with h; injection h with h1 h2; subst h2
        exact (eat_dg _).trans ((eat_frac hf).trans (eat_expo he))
theorem eat_num {l r : Sp.By} {n : Sp.Nm} (h : Sp.num l = some (n, r)) : Eat l r := by
  unfold Sp.num at h
  split at h
  · rename_i k; exact (eat_tk k (by decide)).trans (eat_numB h)
  · exact eat_numB h
theorem hexd_asc {n d : Nat} (h : Sp.hexd n = some d) : n < 128 := by
  unfold Sp.hexd at h
  repeat' split at h
  all_goals first | omega | cases h
theorem eat_hexs (k : Nat) : ∀ (n : Nat) (l : Sp.By) (m : Nat) (r : Sp.By), Sp.hexs k n l = some (m, r) → Eat l r := by
  induction k with
  | zero => intro n l m r h; injection h with h; injection h with h1 h2; subst h2; exact Eat.refl _
  | succ k ih =>
    intro n l m r h
    rw [Sp.hexs] at h
    cases l with
    | nil => simp [Sp.pk, Sp.hexd] at h
    | cons c l =>
      split at h
      · cases h
      · rename_i d hd
        exact (eat_one c l (hexd_asc hd)).trans (ih _ _ _ _ h)
theorem eat_scal {l r : Sp.By} {m : Nat} (h : Sp.scal l = some (m, r)) : Eat l r := by
  unfold Sp.scal at h
  split at h
  · cases h
  · rename_i a r1 hx
    have e1 := eat_hexs _ _ _ _ _ hx
    split at h
    · injection h with h; injection h with h1 h2; subst h2; exact e1
    · split at h
      · cases h
      · split at h
        · rename_i k1
          split at h
          · rename_i k2
            split at h
            · cases h
            · rename_i b r2 hy
              have e2 := eat_hexs _ _ _ _ _ hy
              split at h
              · cases h
              · have h2 := (Prod.mk.inj (Option.some.inj h)).2
                subst h2
                exact e1.trans ((eat_tk k1 (by decide)).trans ((eat_tk k2 (by decide)).trans e2))
          · cases h
        · cases h
theorem eat_escIn {l r : Sp.By} {m : Nat} (T : List (UInt8 × Nat)) (hT : ∀ x ∈ T, x.1.toNat < 128) (h : Sp.escIn l T = some (m, r)) : Eat l r := by
  induction T with
  | nil => cases h
  | cons x T ih =>
    obtain ⟨c, n⟩ := x
    rw [Sp.escIn] at h
    split at h
    · rename_i k
      injection h with h; injection h with h1 h2; subst h2; exact eat_tk k (hT (c, n) (by simp))
    · exact ih (fun x hx => hT x (by simp [hx])) h
theorem esc_asc : ∀ x ∈ Sp.escT, x.1.toNat < 128 := by
  intro x hx
  simp only [Sp.escT, List.mem_cons, List.not_mem_nil, or_false] at hx
  rcases hx with rfl | rfl | rfl | rfl | rfl | rfl | rfl | rfl <;> decide
theorem eat_chr {l r : Sp.By} {m : Nat} (hl : l ≠ []) (h : Sp.chr l = some (m, r)) : Eat l r := by
  cases l with
  | nil => exact absurd rfl hl
  | cons c l =>
    cases k : Sp.tk (c :: l) 92 with
    | true =>
      have h2 : Sp.esc (c :: l).tail = some (m, r) := by unfold Sp.chr at h; rw [if_pos k] at h; exact h
      refine (eat_tk k (by decide)).trans ?_
      unfold Sp.esc at h2
      split at h2
      · rename_i k2; exact (eat_tk k2 (by decide)).trans (eat_scal h2)
      · exact eat_escIn _ esc_asc h2
    | false =>
      rcases sca_chr k with ⟨_, h1⟩ | ⟨v, n, h1, h2, _, _, h5⟩
      · rw [h1] at h; cases h
      · rw [h5] at h
        split at h
        · cases h
        · injection h with h; injection h with h6 h7; subst h7
          unfold Eat
          rw [u8_go (by simp) (by rw [h1]; simp only; omega), h1]
theorem eat_chrs (f : Nat) : ∀ (l s r : Sp.By), Sp.chrs f l = some (s, r) → Eat l r := by
  induction f with
  | zero => intro l s r h; cases h
  | succ f ih =>
    intro l s r h
    rw [Sp.chrs] at h
    split at h
    · rename_i k
      injection h with h; injection h with h1 h2; subst h2; exact eat_tk k (by decide)
    · split at h
      · cases h
      · rename_i c r1 hc
        split at h
        · cases h
        · rename_i s1 r2 hx
          injection h with h; injection h with h1 h2; subst h2
          refine (eat_chr ?_ hc).trans (ih _ _ _ hx)
          intro e
          subst e
          have := (chr_len hc).1
          simp at this
theorem eat_quo {l s r : Sp.By} (h : Sp.quo l = some (s, r)) : Eat l r := by
  unfold Sp.quo at h
  split at h
  · rename_i k; exact (eat_tk k (by decide)).trans (eat_chrs _ _ _ _ h)
  · cases h
theorem eat_list (x : Sp.By) (hx : ∀ c ∈ x, c.toNat < 128) (r : Sp.By) : Eat (x ++ r) r := by
  induction x with
  | nil => exact Eat.refl _
  | cons c x ih => exact (eat_one c _ (hx c (by simp))).trans (ih fun c hc => hx c (by simp [hc]))
theorem eat_word {l r : Sp.By} {m : Nat} (T : List Sp.By) (hT : ∀ x ∈ T, ∀ c ∈ x, c.toNat < 128) : ∀ k, Sp.wordIn l k T = some (m, r) → Eat l r := by
  induction T with
  | nil => intro k h; cases h
  | cons x T ih =>
    intro k h
    rw [Sp.wordIn] at h
    split at h
    · rename_i hp
      injection h with h; injection h with h1 h2; subst h2
      unfold Lib.hasPrefix at hp
      obtain ⟨z, rfl⟩ := List.isPrefixOf_iff_prefix.1 hp
      rw [List.drop_left]
      exact eat_list x (hT x (by simp)) z
    · exact ih (fun y hy => hT y (by simp [hy])) _ h
theorem eat_lst {σ : Type} (cl : UInt8) (hcl : cl.toNat < 128) (item : Sp.By → σ → Option (Sp.By × σ)) (hi : ∀ l s l' s', item l s = some (l', s') → Eat l l') (n : Nat) : ∀ l s r s', Sp.lst cl item n l s = some (r, s') → Eat l r := by
  induction n with
  | zero => intro l s r s' h; cases h
  | succ n ih =>
    intro l s r s' h
    rw [Sp.lst] at h
    split at h
    · cases h
    · rename_i l1 s1 h1
      have e1 := ((eat_skB l).trans (hi _ _ _ _ h1)).trans (eat_skB l1)
      split at h
      · rename_i k
        injection h with h; injection h with h2 h3; subst h2; exact e1.trans (eat_tk k hcl)
      · split at h
        · rename_i k
          exact e1.trans ((eat_tk k (by decide)).trans (ih _ _ _ _ h))
        · cases h
theorem eat_lstAll {σ : Type} (op cl : UInt8) (hop : op.toNat < 128) (hcl : cl.toNat < 128) (item : Sp.By → σ → Option (Sp.By × σ)) (hi : ∀ l s l' s', item l s = some (l', s') → Eat l l') {l r : Sp.By} {s s' : σ} (h : Sp.lstAll op cl item l s = some (r, s')) : Eat l r := by
  unfold Sp.lstAll at h
  split at h
  · rename_i k
    have e1 := (eat_tk k hop).trans (eat_skB _)
    split at h
    · rename_i k2
      injection h with h; injection h with h1 h2; subst h1; exact e1.trans (eat_tk k2 hcl)
    · exact e1.trans (eat_lst cl hcl item hi _ _ _ _ _ h)
  · cases h
theorem eat_rval (f : Nat) : ∀ (l : Sp.By) (o : Sp.O) (r : Sp.By), Sp.rval f l = some (o, r) → Eat l r := by
  induction f with
  | zero => intro l o r h; cases h
  | succ f ih =>
    intro l o r h
    unfold Sp.rval at h
    split at h
    · split at h
      · cases h
      · rename_i h1
        injection h with h; injection h with h2 h3; subst h3
        refine eat_lstAll 123 125 (by decide) (by decide) _ ?_ h1
        intro l s l' s' h
        unfold Sp.rmemb at h
        split at h
        · cases h
        · rename_i k l1 hq
          split at h
          · rename_i k58
            split at h
            · cases h
            · rename_i o r hv
              injection h with h; injection h with h1 h2; subst h1
              exact (eat_quo hq).trans ((eat_skB _).trans ((eat_tk k58 (by decide)).trans ((eat_skB _).trans (ih _ _ _ hv))))
          · cases h
    · split at h
      · split at h
        · cases h
        · rename_i h1
          injection h with h; injection h with h2 h3; subst h3
          refine eat_lstAll 91 93 (by decide) (by decide) _ ?_ h1
          intro l s l' s' h
          unfold Sp.relem at h
          split at h
          · cases h
          · rename_i o r hv
            injection h with h; injection h with h1 h2; subst h1
            exact ih _ _ _ hv
      · split at h
        · split at h
          · cases h
          · rename_i h1
            injection h with h; injection h with h2 h3; subst h3; exact eat_quo h1
        · split at h
          · split at h
            · cases h
            · rename_i h1
              injection h with h; injection h with h2 h3; subst h3; exact eat_num h1
          · split at h
            · cases h
            · rename_i h1
              injection h with h; injection h with h2 h3; subst h3; exact eat_word _ (by decide) _ h1

/-- a text that reads is UTF-8 -/
theorem u8_of_rval {f : Nat} {s r : Sp.By} {o : Sp.O} (h : Sp.rval f (Sp.skB s) = some (o, r)) (he : (Sp.skB r).isEmpty = true) : Sp.u8 s = true := by
  have h1 := (eat_skB s).trans ((eat_rval f _ _ _ h).trans (eat_skB r))
  have h2 : Sp.skB r = [] := by simpa using he
  rw [h2] at h1
  unfold Eat at h1
  rw [h1, u8_nil]

end Go.Proofs.YtmegcejgjdkpfaaGreatDoor

namespace Go.Proofs.YtmegcejgjdkpfaaGreatDoor
open Go.RowKit

def Near (e x : Int) : Prop := e = x ∨ ((e < -900000 ∨ 900000 < e) ∧ (x < -900000 ∨ 900000 < x))

theorem trim_cnt (ds : Sp.By) (h : Lib.trimRightB (Lib.trimLeftB ds 48) 48 ≠ []) : (Lib.trimLeftB ds 48).length + (Lib.trimRightB ds 48).length = ds.length + (Lib.trimRightB (Lib.trimLeftB ds 48) 48).length := by
  induction ds with
  | nil => rfl
  | cons a r ih =>
    by_cases ha : a = 48
    · subst ha
      have e1 : Lib.trimLeftB (48 :: r) 48 = Lib.trimLeftB r 48 := trimL_zero rfl
      rw [e1] at h ⊢
      have h2 := ih h
      have hne : Lib.trimRightB r 48 ≠ [] := by
        intro e
        rw [← trim_comm, e] at h
        exact h rfl
      rw [trimR_cons, if_neg hne]
      simp only [List.length_cons]
      omega
    · have e1 : Lib.trimLeftB (a :: r) 48 = a :: r := trimL_id (by simpa using ha)
      rw [e1]
theorem expo_near {l r : Sp.By} {ev : Int} (h : Sp.expo l = some (ev, r)) : ev = Sp.rexp l ∨ (ev = 1000000 ∧ 1000000 ≤ Sp.rexp l) ∨ (ev = -1000000 ∧ Sp.rexp l ≤ -1000000) := by
  have hg : ∀ l : Sp.By, Sp.grt (Sp.dg l) 0 = Sp.exNum (Sp.dg l) 0 ∧ Sp.exNum (Sp.dg l) 0 < 1000000 ∨ 1000000 ≤ Sp.grt (Sp.dg l) 0 ∧ Sp.exNum (Sp.dg l) 0 = 1000000 := fun l =>
    grt_ex (Sp.dg l) (fun c hc => (isD_iff c).2 (dg_all _ c hc)) 0 0 (by omega) (by omega) (by omega)
  have h1 := hg l.tail.tail
  have h2 := hg l.tail
  unfold Sp.expo at h
  unfold Sp.rexp
  split at h
  · rename_i k
    rw [if_pos k]
    split at h
    · rename_i k2
      rw [if_pos k2]
      split at h
      · cases h
      · have h3 := (Prod.mk.inj (Option.some.inj h)).1
        omega
    · rename_i k2
      rw [if_neg k2]
      split at h
      · rename_i k3
        rw [if_pos k3]
        split at h
        · cases h
        · have h3 := (Prod.mk.inj (Option.some.inj h)).1
          omega
      · rename_i k3
        rw [if_neg k3]
        split at h
        · cases h
        · have h3 := (Prod.mk.inj (Option.some.inj h)).1
          omega
  · rename_i k
    rw [if_neg k]
    exact Or.inl (Prod.mk.inj (Option.some.inj h)).1.symm
theorem numB_near {ng : Bool} {l r : Sp.By} {n : Sp.Nm} (hl : l.length ≤ 2000) (h : Sp.numB ng l = some (n, r)) : Near n.2.2 (Sp.rexB l) := by
  have hdl := dg_len l
  unfold Sp.numB at h
  split at h
  · cases h
  · split at h
    · cases h
    · rename_i f r1 hf
      have hfl := frac_len hf
      split at h
      · cases h
      · rename_i e r2 he
        have h1 := (Prod.mk.inj (Option.some.inj h)).1
        subst h1
        unfold Sp.rexB
        rw [hf]
        simp only
        unfold Sp.rmk Sp.mkNm
        simp only
        rw [trim_comm]
        by_cases hw : Lib.trimRightB (Lib.trimLeftB (Sp.dg l ++ f) 48) 48 = []
        · rw [if_pos hw, if_pos hw]; exact Or.inl rfl
        · rw [if_neg hw, if_neg hw]
          have hc := trim_cnt _ hw
          have hz := trimR_len (Sp.dg l ++ f) 48
          have hlen : (Sp.dg l ++ f).length ≤ 4000 := by rw [List.length_append]; omega
          have hfl2 : f.length ≤ 2000 := by omega
          have hn := expo_near he
          unfold Near
          simp only
          omega
theorem num_near {l r : Sp.By} {n : Sp.Nm} (hl : l.length ≤ 2000) (h : Sp.num l = some (n, r)) : Near n.2.2 (Sp.rex l) := by
  unfold Sp.num at h
  unfold Sp.rex
  split at h
  · rename_i k
    rw [if_pos k]
    exact numB_near (by have := List.length_tail (l := l); omega) h
  · rename_i k
    rw [if_neg k]
    exact numB_near hl h

/-- as it is read -/
def Sp.nrO : Nat → Sp.O → Prop
  | 0, _ => False
  | f + 1, o => (∃ k, k < 3 ∧ o = Sp.oWord k) ∨ (∃ n x, o = Sp.oNum n x ∧ Near n.2.2 x) ∨ (∃ s, o = Sp.oStr s) ∨ (∃ es, o = Sp.oArr es ∧ ∀ e ∈ es, Sp.nrO f e) ∨ (∃ es : Sp.Ms, o = Sp.oObj es ∧ ∀ p ∈ es, Sp.nrO f p.2)

theorem rval_near (f : Nat) : ∀ (l : Sp.By) (o : Sp.O) (r : Sp.By), l.length ≤ 2000 → Sp.rval f l = some (o, r) → Sp.nrO f o := by
  induction f with
  | zero => intro l o r hl h; cases h
  | succ f ih =>
    intro l o r hl h
    unfold Sp.rval at h
    split at h
    · split at h
      · cases h
      · rename_i r1 es h1
        have ho := (Prod.mk.inj (Option.some.inj h)).1
        subst ho
        obtain ⟨hI, _⟩ := lstAll_inv (σ := Sp.Ms) (fun l s => l.length ≤ 2000 ∧ ∀ p ∈ s, Sp.nrO f p.2) (fun a b s h hl => ⟨by omega, h.2⟩) (by
          rintro a s a' s' ⟨hla, hs⟩ hm
          unfold Sp.rmemb at hm
          split at hm
          · cases hm
          · rename_i k l1 hq
            have q1 := Sp.quo_len hq
            have q2 := Sp.skB_len l1
            have q3 := Sp.skB_len (Sp.skB l1).tail
            have q4 := List.length_tail (l := Sp.skB l1)
            split at hm
            · split at hm
              · cases hm
              · rename_i o r hv
                have q5 := rval_len _ _ _ _ hv
                obtain ⟨h1, h2⟩ := Prod.mk.inj (Option.some.inj hm)
                subst h1; subst h2
                refine ⟨by omega, fun p hp => ?_⟩
                rcases List.mem_append.1 hp with hp | hp
                · exact hs p hp
                · obtain rfl := List.mem_singleton.1 hp
                  exact ih _ _ _ (by omega) hv
            · cases hm) ⟨by rw [List.length_tail]; omega, fun p hp => absurd hp (by simp)⟩ h1
        exact Or.inr (Or.inr (Or.inr (Or.inr ⟨es, rfl, hI.2⟩)))
    · split at h
      · split at h
        · cases h
        · rename_i r1 es h1
          have ho := (Prod.mk.inj (Option.some.inj h)).1
          subst ho
          obtain ⟨hI, _⟩ := lstAll_inv (σ := List Sp.O) (fun l s => l.length ≤ 2000 ∧ ∀ p ∈ s, Sp.nrO f p) (fun a b s h hl => ⟨by omega, h.2⟩) (by
            rintro a s a' s' ⟨hla, hs⟩ hm
            unfold Sp.relem at hm
            split at hm
            · cases hm
            · rename_i o r hv
              have q5 := rval_len _ _ _ _ hv
              obtain ⟨h1, h2⟩ := Prod.mk.inj (Option.some.inj hm)
              subst h1; subst h2
              refine ⟨by omega, fun p hp => ?_⟩
              rcases List.mem_append.1 hp with hp | hp
              · exact hs p hp
              · obtain rfl := List.mem_singleton.1 hp
                exact ih _ _ _ hla hv) ⟨by rw [List.length_tail]; omega, fun p hp => absurd hp (by simp)⟩ h1
          exact Or.inr (Or.inr (Or.inr (Or.inl ⟨es, rfl, hI.2⟩)))
      · split at h
        · split at h
          · cases h
          · rename_i s r1 h1
            have ho := (Prod.mk.inj (Option.some.inj h)).1
            subst ho
            exact Or.inr (Or.inr (Or.inl ⟨s, rfl⟩))
        · split at h
          · split at h
            · cases h
            · rename_i n r1 h1
              have ho := (Prod.mk.inj (Option.some.inj h)).1
              subst ho
              exact Or.inr (Or.inl ⟨n, _, rfl, num_near hl h1⟩)
          · split at h
            · cases h
            · rename_i k r1 h1
              have ho := (Prod.mk.inj (Option.some.inj h)).1
              subst ho
              refine Or.inl ⟨k, ?_, rfl⟩
              unfold Sp.wordIn Sp.words at h1
              simp only [Sp.wordIn] at h1
              repeat' split at h1
              all_goals first | (have h2 := (Prod.mk.inj (Option.some.inj h1)).1; omega) | cases h1

end Go.Proofs.YtmegcejgjdkpfaaGreatDoor
