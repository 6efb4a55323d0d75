/-
  A slice of strings in memory: a pointer's tokens.
  A tree in memory, changed within: what is on the way stays, what is beside stays.
  A tree in memory, changed deep within: the way there told by the numbers of the items.
-/
import Derived.Test.YtdpomdelmdofmaaGreatDoorPart01
import Derived.Test.YtdpomdelmdofmaaGreatDoorPart11
namespace Go.Proofs.YtdpomdelmdofmaaGreatDoor
open Go.RowKit

/-- the slice v holds these tokens, in block g from place o on -/
def TokAt (w : World) (g o : Nat) (l : List Sp.By) : Prop := g < w.heap.size ∧ ∀ k (hk : k < l.length), w.cell? ⟨g, o + k, none⟩ = some (.string ⟨l[k].toArray⟩)
/-- the slice v holds these tokens -/
def Toks (w : World) (v : Value) (l : List Sp.By) : Prop :=
  (l = [] ∧ ∃ a c, v = .slice a 0 c ∧ c ≤ maxLen) ∨ ∃ g o cap, v = .slice (some ⟨g, o, none⟩) l.length cap ∧ l.length ≤ cap ∧ cap ≤ maxLen ∧ TokAt w g o l

theorem Toks.bel {w w' : World} {v : Value} {l : List Sp.By} (h : Toks w v l) (hb : Below w.heap.size w w') : Toks w' v l := by
  rcases h with h | ⟨g, o, cap, rfl, h1, h2, hg, hc⟩
  · exact Or.inl h
  · exact Or.inr ⟨g, o, cap, rfl, h1, h2, Nat.lt_of_lt_of_le hg hb.size, fun k hk => (hb.cell (p := ⟨g, o + k, none⟩) hg).trans (hc k hk)⟩
end Go.Proofs.YtdpomdelmdofmaaGreatDoor

namespace Go.Proofs.YtdpomdelmdofmaaGreatDoor
open Go.RowKit

namespace Sp
/-- what stands right within, in its order -/
def kids (a : A) : List A := match a with
  | .agg [.lit (.int _ _), .lit (.int _ _), x] => (match x with
    | .slice al _ => al
    | .map es => es.map Prod.snd
    | _ => [])
  | _ => []
/-- another tree for the i-th of them -/
def kid (a : A) (i : Nat) (c : A) : A := match a with
  | .agg [.lit (.int k b), .lit (.int l g), x] => (match x with
    | .slice al _ => .agg [.lit (.int k b), .lit (.int l g), .slice (al.set i c) []]
    | .map es => .agg [.lit (.int k b), .lit (.int l g), .map (es.modify i fun p => (p.1, c))]
    | y => .agg [.lit (.int k b), .lit (.int l g), y])
  | y => y
theorem kids_arr (b g : Nat) (al : List A) : kids (nd b g (.slice al [])) = al := rfl
theorem kids_obj (b g : Nat) (es : List (Lit × A)) : kids (nd b g (.map es)) = es.map Prod.snd := rfl
theorem kids_word (b g k : Nat) : kids (nd b g (vWord k)) = [] := rfl
theorem kids_num (b g : Nat) (n : Nm) : kids (nd b g (vNum n)) = [] := rfl
theorem kids_str (b g : Nat) (s : By) : kids (nd b g (vStr s)) = [] := rfl
theorem kid_arr (b g i : Nat) (al : List A) (c : A) : kid (nd b g (.slice al [])) i c = nd b g (.slice (al.set i c) []) := rfl
theorem kid_obj (b g i : Nat) (es : List (Lit × A)) (c : A) : kid (nd b g (.map es)) i c = nd b g (.map (es.modify i fun p => (p.1, c))) := rfl
end Sp

/-- one of a list is changed, what belongs to the others is kept -/
theorem flat_split {α β : Type} (q : α → List β) : ∀ (l : List α) (i : Nat) (a : α), l[i]? = some a → ∃ l1 l2, l = l1 ++ a :: l2 ∧ l1.length = i
  | [], i, a, h => by simp at h
  | x :: r, 0, a, h => ⟨[], r, by simpa using h, rfl⟩
  | x :: r, i + 1, a, h => by
    obtain ⟨l1, l2, e, e2⟩ := flat_split q r i a (by simpa using h)
    exact ⟨x :: l1, l2, by rw [e]; rfl, by simp [e2]⟩
theorem Al.app {α β : Type} {P : α → β → Prop} : ∀ {l : List α} {m1 m2 : List β}, Al P l (m1 ++ m2) → ∃ l1 l2, l = l1 ++ l2 ∧ Al P l1 m1 ∧ Al P l2 m2
  | l, [], m2, h => ⟨[], l, rfl, trivial, h⟩
  | [], _ :: _, _, h => h.elim
  | a :: r, b :: m1, m2, ⟨h1, h2⟩ => by
    obtain ⟨l1, l2, e, h3, h4⟩ := Al.app h2
    exact ⟨a :: l1, l2, by rw [e]; rfl, ⟨h1, h3⟩, h4⟩
theorem Al.append {α β : Type} {P : α → β → Prop} : ∀ {l1 l2 : List α} {m1 m2 : List β}, Al P l1 m1 → Al P l2 m2 → Al P (l1 ++ l2) (m1 ++ m2)
  | [], _, [], _, _, h => h
  | _ :: _, _, _ :: _, _, ⟨a, b⟩, h => ⟨a, Al.append b h⟩
theorem Pt.app {P : Value → Sp.V → Prop} : ∀ {l : List (Lit × DataW Value)} {m1 m2 : List (Lit × Sp.V)}, Pt P l (m1 ++ m2) → ∃ l1 l2, l = l1 ++ l2 ∧ Pt P l1 m1 ∧ Pt P l2 m2
  | l, [], m2, h => ⟨[], l, rfl, trivial, h⟩
  | [], _ :: _, _, h => h.elim
  | a :: r, b :: m1, m2, ⟨h1, h2⟩ => by
    obtain ⟨l1, l2, e, h3, h4⟩ := Pt.app h2
    exact ⟨a :: l1, l2, by rw [e]; rfl, ⟨h1, h3⟩, h4⟩
theorem Pt.append {P : Value → Sp.V → Prop} : ∀ {l1 l2 : List (Lit × DataW Value)} {m1 m2 : List (Lit × Sp.V)}, Pt P l1 m1 → Pt P l2 m2 → Pt P (l1 ++ l2) (m1 ++ m2)
  | [], _, [], _, _, h => h
  | _ :: _, _, _ :: _, _, ⟨a, b⟩, h => ⟨a, Pt.append b h⟩

theorem modify_at {α : Type} (q : α → α) (a : α) (l2 : List α) : ∀ l1 : List α, (l1 ++ a :: l2).modify l1.length q = l1 ++ q a :: l2
  | [] => rfl
  | x :: r => by simp only [List.cons_append, List.length_cons, List.modify_succ_cons, modify_at q a l2 r]

/-- the i-th is changed, and what is no block of it is kept -/
theorem TRep.kid {f i : Nat} {w w' : World} {v : Value} {a c c' : Sp.A} (h : TRep (f + 1) w v a) (hi : (Sp.kids a)[i]? = some c) (hn : (Sp.fp (f + 1) a).Nodup)
    (hk : ∀ k ∈ Sp.fp (f + 1) a, k ∉ Sp.fp f c → w'.heap[k]? = w.heap[k]?) (hc : ∀ u, TRep f w u c → TRep f w' u c') : TRep (f + 1) w' v (Sp.kid a i c') := by
  obtain ⟨b, g, x, rfl, hv, h⟩ := h
  rcases h with ⟨k, h1, h2, rfl, h⟩ | ⟨n, h2, rfl, h, hbd⟩ | ⟨s, h2, rfl, h⟩ | ⟨al, sl, ps, rfl, h, ho, hs, ha⟩ | ⟨es, n, D, rfl, h, ho, hp⟩
  · rw [Sp.kids_word] at hi; simp at hi
  · rw [Sp.kids_num] at hi; simp at hi
  · rw [Sp.kids_str] at hi; simp at hi
  · rw [Sp.kids_arr] at hi
    obtain ⟨l1, l2, rfl, hl⟩ := flat_split (Sp.fp f) al i c hi
    rw [Sp.fp_arr, List.flatMap_append, List.flatMap_cons] at hn hk
    obtain ⟨q1, q2, rfl, ha1, ha2⟩ := ha.app
    cases q2 with
    | nil => exact ha2.elim
    | cons u q2 =>
      obtain ⟨hu, ha2⟩ := ha2
      rw [Sp.kid_arr, List.set_append_right _ _ (by omega), show i - l1.length = 0 by omega, List.set_cons_zero]
      obtain ⟨n1, n2⟩ := List.nodup_cons.1 hn
      obtain ⟨n3, n4, n5⟩ := List.nodup_append.1 n2
      obtain ⟨n6, n7, n8⟩ := List.nodup_append.1 n4
      obtain ⟨n9, n10, n11⟩ := List.nodup_append.1 n7
      refine ⟨b, g, _, rfl, hv, Or.inr (Or.inr (Or.inr (Or.inl ⟨_, sl, q1 ++ u :: q2, rfl, h.kept (hk b (by simp) fun hb => n1 ?_), owns_kept ho fun g' hg' => hk g' ?_ fun hb => ?_, hs, Al.append (Al.mem (fun u' d hd hu' => TRep.move (fun k hkc => hk k ?_ fun hb => ?_) hu') ha1) ⟨hc u hu, Al.mem (fun u' d hd hu' => TRep.move (fun k hkc => hk k ?_ fun hb => ?_) hu') ha2⟩⟩)))⟩
      · exact List.mem_append_right _ (List.mem_append_right _ (List.mem_append_left _ hb))
      · obtain ⟨rfl, h0⟩ := own_if hs hg'
        simp [h0]
      · obtain ⟨rfl, h0⟩ := own_if hs hg'
        exact n5 g' (by simp [h0]) g' (List.mem_append_right _ (List.mem_append_left _ hb)) rfl
      · exact List.mem_cons_of_mem _ (List.mem_append_right _ (List.mem_append_left _ (List.mem_flatMap.2 ⟨d, hd, hkc⟩)))
      · exact n8 k (List.mem_flatMap.2 ⟨d, hd, hkc⟩) k (List.mem_append_left _ hb) rfl
      · exact List.mem_cons_of_mem _ (List.mem_append_right _ (List.mem_append_right _ (List.mem_append_right _ (List.mem_flatMap.2 ⟨d, hd, hkc⟩))))
      · exact n11 k hb k (List.mem_flatMap.2 ⟨d, hd, hkc⟩) rfl
  · rw [Sp.kids_obj] at hi
    rw [List.getElem?_map] at hi
    obtain ⟨⟨key, c2⟩, hi2, rfl⟩ := Option.map_eq_some_iff.1 hi
    obtain ⟨l1, l2, rfl, hl⟩ := flat_split (fun p => Sp.fp f p.2) es i _ hi2
    rw [Sp.fp_obj, List.flatMap_append, List.flatMap_cons] at hn hk
    obtain ⟨q1, q2, rfl, ha1, ha2⟩ := hp.app
    cases q2 with
    | nil => exact ha2.elim
    | cons u q2 =>
      obtain ⟨⟨ku, xu, eu, hu⟩, ha2⟩ := ha2
      have em : (l1 ++ (key, c2) :: l2).modify i (fun p => (p.1, c')) = l1 ++ (key, c') :: l2 := by
        rw [← hl]; exact modify_at _ _ _ _
      rw [Sp.kid_obj, em]
      obtain ⟨n1, n2⟩ := List.nodup_cons.1 hn
      obtain ⟨n3, n4⟩ := List.nodup_cons.1 n2
      obtain ⟨n6, n7, n8⟩ := List.nodup_append.1 n4
      obtain ⟨n9, n10, n11⟩ := List.nodup_append.1 n7
      refine ⟨b, g, _, rfl, hv, Or.inr (Or.inr (Or.inr (Or.inr ⟨_, n, q1 ++ u :: q2, rfl, h.kept (hk b (by simp) fun hb => n1 ?_), map_kept ho (hk g (by simp) fun hb => n3 ?_), Pt.append (Pt.mem (fun u' d hd hu' => TRep.move (fun k hkc => hk k ?_ fun hb => ?_) hu') ha1) ⟨⟨ku, xu, eu, hc xu hu⟩, Pt.mem (fun u' d hd hu' => TRep.move (fun k hkc => hk k ?_ fun hb => ?_) hu') ha2⟩⟩)))⟩
      · exact List.mem_cons_of_mem _ (List.mem_append_right _ (List.mem_append_left _ hb))
      · exact List.mem_append_right _ (List.mem_append_left _ hb)
      · exact List.mem_cons_of_mem _ (List.mem_cons_of_mem _ (List.mem_append_left _ (List.mem_flatMap.2 ⟨d, hd, hkc⟩)))
      · exact n8 k (List.mem_flatMap.2 ⟨d, hd, hkc⟩) k (List.mem_append_left _ hb) rfl
      · exact List.mem_cons_of_mem _ (List.mem_cons_of_mem _ (List.mem_append_right _ (List.mem_append_right _ (List.mem_flatMap.2 ⟨d, hd, hkc⟩))))
      · exact n11 k hb k (List.mem_flatMap.2 ⟨d, hd, hkc⟩) rfl

end Go.Proofs.YtdpomdelmdofmaaGreatDoor

namespace Go.Proofs.YtdpomdelmdofmaaGreatDoor
open Go.RowKit

namespace Sp
/-- what stands at the end of this way -/
def sub : List Nat → A → Option A
  | [], a => some a
  | i :: r, a => match (kids a)[i]? with
    | some c => sub r c
    | none => none
/-- another tree there -/
def put : List Nat → A → A → A
  | [], n, _ => n
  | i :: r, n, a => match (kids a)[i]? with
    | some c => kid a i (put r n c)
    | none => a
theorem sub_cons {i : Nat} {r : List Nat} {a n : A} (h : sub (i :: r) a = some n) : ∃ c, (kids a)[i]? = some c ∧ sub r c = some n := by
  unfold sub at h
  split at h
  · rename_i c hc; exact ⟨c, hc, h⟩
  · cases h
theorem put_cons {i : Nat} {r : List Nat} {a c : A} (n : A) (h : (kids a)[i]? = some c) : put (i :: r) n a = kid a i (put r n c) := by
  rw [put, h]
/-- the forms of a tree with something within -/
theorem kids_form {a c : A} {i : Nat} (h : (kids a)[i]? = some c) : (∃ k b l g al x, a = .agg [.lit (.int k b), .lit (.int l g), .slice al x] ∧ al[i]? = some c) ∨ (∃ k b l g es key, a = .agg [.lit (.int k b), .lit (.int l g), .map es] ∧ es[i]? = some (key, c)) := by
  unfold kids at h
  split at h
  · rename_i k b l g x
    split at h
    · rename_i al y; exact Or.inl ⟨_, _, _, _, al, y, rfl, h⟩
    · rename_i es
      rw [List.getElem?_map] at h
      obtain ⟨⟨key, c2⟩, h2, rfl⟩ := Option.map_eq_some_iff.1 h
      exact Or.inr ⟨_, _, _, _, es, key, rfl, h2⟩
    · simp at h
  · simp at h
/-- its blocks: those of the i-th, and the rest -/
theorem fp_kid {f i : Nat} {a c : A} (h : (kids a)[i]? = some c) : ∃ rest, (fp (f + 1) a).Perm (rest ++ fp f c) ∧ ∀ c', (fp (f + 1) (kid a i c')).Perm (rest ++ fp f c') := by
  rcases kids_form h with ⟨k, b, l, g, al, x, rfl, h7⟩ | ⟨k, b, l, g, es, key, rfl, h7⟩
  · obtain ⟨l1, l2, rfl, hl⟩ := flat_split (fp f) al i c h7
    have e (y : List A) (z : List A) : fp (f + 1) (.agg [.lit (.int k b), .lit (.int l g), .slice y z]) = b.toNat :: ((if g = 0 then [] else [g.toNat]) ++ y.flatMap (fp f)) := rfl
    have p (c' : A) : (b.toNat :: ((if g = 0 then [] else [g.toNat]) ++ (l1 ++ c' :: l2).flatMap (fp f))).Perm ((b.toNat :: ((if g = 0 then [] else [g.toNat]) ++ (l1.flatMap (fp f) ++ l2.flatMap (fp f)))) ++ fp f c') := by
      rw [List.flatMap_append, List.flatMap_cons, List.cons_append, List.append_assoc, List.append_assoc]
      exact ((((List.perm_append_comm).append_left _)).append_left _).cons _
    refine ⟨_, by rw [e]; exact p c, fun c' => ?_⟩
    have e2 : kid (.agg [.lit (.int k b), .lit (.int l g), .slice (l1 ++ c :: l2) x]) i c' = .agg [.lit (.int k b), .lit (.int l g), .slice (l1 ++ c' :: l2) []] := by
      show DataW.agg [.lit (.int k b), .lit (.int l g), .slice ((l1 ++ c :: l2).set i c') []] = _
      rw [List.set_append_right _ _ (by omega), show i - l1.length = 0 by omega, List.set_cons_zero]
    rw [e2, e]
    exact p c'
  · obtain ⟨l1, l2, rfl, hl⟩ := flat_split (fun p => fp f p.2) es i (key, c) h7
    have e (y : List (Lit × A)) : fp (f + 1) (.agg [.lit (.int k b), .lit (.int l g), .map y]) = b.toNat :: g.toNat :: y.flatMap (fun p => fp f p.2) := rfl
    have p (c' : A) : (b.toNat :: g.toNat :: (l1 ++ (key, c') :: l2).flatMap (fun p => fp f p.2)).Perm ((b.toNat :: g.toNat :: (l1.flatMap (fun p => fp f p.2) ++ l2.flatMap (fun p => fp f p.2))) ++ fp f c') := by
      rw [List.flatMap_append, List.flatMap_cons, List.cons_append, List.cons_append, List.append_assoc]
      exact (((List.perm_append_comm).append_left _).cons _).cons _
    refine ⟨_, by rw [e]; exact p c, fun c' => ?_⟩
    have e2 : kid (.agg [.lit (.int k b), .lit (.int l g), .map (l1 ++ (key, c) :: l2)]) i c' = .agg [.lit (.int k b), .lit (.int l g), .map (l1 ++ (key, c') :: l2)] := by
      show DataW.agg [.lit (.int k b), .lit (.int l g), .map ((l1 ++ (key, c) :: l2).modify i fun p => (p.1, c'))] = _
      rw [← hl, modify_at]
    rw [e2, e]
    exact p c'
/-- the same, deep within -/
theorem fp_put {f : Nat} : ∀ {p : List Nat} {a n : A}, sub p a = some n → ∃ rest, (fp (f + p.length) a).Perm (rest ++ fp f n) ∧ ∀ n', (fp (f + p.length) (put p n' a)).Perm (rest ++ fp f n')
  | [], a, n, h => by
    injection h with h
    subst h
    exact ⟨[], List.Perm.refl _, fun n' => List.Perm.refl _⟩
  | i :: r, a, n, h => by
    obtain ⟨c, hc, h2⟩ := sub_cons h
    obtain ⟨rest, h3, h4⟩ := fp_put (f := f) h2
    obtain ⟨rest2, h5, h6⟩ := fp_kid (f := f + r.length) hc
    refine ⟨rest2 ++ rest, ?_, fun n' => ?_⟩
    · rw [List.append_assoc]; exact h5.trans (h3.append_left _)
    · rw [List.append_assoc, put_cons n' hc]; exact (h6 _).trans ((h4 n').append_left _)
theorem sub_fp {f : Nat} {p : List Nat} {a n : A} (h : sub p a = some n) : ∀ k ∈ fp f n, k ∈ fp (f + p.length) a := by
  obtain ⟨rest, h1, _⟩ := fp_put (f := f) h
  exact fun k hk => h1.mem_iff.2 (List.mem_append_right _ hk)
theorem sub_nodup {f : Nat} {p : List Nat} {a n : A} (h : sub p a = some n) (hn : (fp (f + p.length) a).Nodup) : (fp f n).Nodup := by
  obtain ⟨rest, h1, _⟩ := fp_put (f := f) h
  exact (List.nodup_append.1 (h1.nodup_iff.1 hn)).2.1
/-- blocks of its own for what comes in: then all blocks are told apart -/
theorem put_nodup {f : Nat} {p : List Nat} {a n n' : A} (h : sub p a = some n) (hn : (fp (f + p.length) a).Nodup) (hn' : (fp f n').Nodup) (hd : ∀ k ∈ fp f n', k ∈ fp (f + p.length) a → k ∈ fp f n) : (fp (f + p.length) (put p n' a)).Nodup := by
  obtain ⟨rest, h1, h2⟩ := fp_put (f := f) h
  have h3 := List.nodup_append.1 (h1.nodup_iff.1 hn)
  refine (h2 n').nodup_iff.2 (List.nodup_append.2 ⟨h3.1, hn', fun x hx y hy e => ?_⟩)
  subst e
  exact h3.2.2 x hx x (hd x hy (h1.mem_iff.2 (List.mem_append_left _ hx))) rfl
theorem put_fp {f : Nat} {p : List Nat} {a n n' : A} (h : sub p a = some n) : ∀ k ∈ fp (f + p.length) (put p n' a), k ∈ fp (f + p.length) a ∨ k ∈ fp f n' := by
  obtain ⟨rest, h1, h2⟩ := fp_put (f := f) h
  intro k hk
  rcases List.mem_append.1 ((h2 n').mem_iff.1 hk) with hk | hk
  · exact Or.inl (h1.mem_iff.2 (List.mem_append_left _ hk))
  · exact Or.inr hk
end Sp

/-- what stands within, and the pointer to it -/
theorem TRep.at {f : Nat} {w : World} : ∀ {p : List Nat} {v : Value} {a n : Sp.A}, TRep (f + p.length) w v a → Sp.sub p a = some n → ∃ u, TRep f w u n
  | [], v, a, n, h, hs => by
    injection hs with hs
    subst hs
    exact ⟨v, h⟩
  | i :: r, v, a, n, h, hs => by
    obtain ⟨c, hc, h2⟩ := Sp.sub_cons hs
    obtain ⟨b, g, x, rfl, hv, h⟩ := (show TRep ((f + r.length) + 1) w v a from h)
    rcases h with ⟨k, _, _, rfl, h⟩ | ⟨n, _, rfl, h, hbd⟩ | ⟨s, _, rfl, h⟩ | ⟨al, sl, ps, rfl, h, ho, hs, ha⟩ | ⟨es, n, D, rfl, h, ho, hp⟩
    · rw [Sp.kids_word] at hc; simp at hc
    · rw [Sp.kids_num] at hc; simp at hc
    · rw [Sp.kids_str] at hc; simp at hc
    · rw [Sp.kids_arr] at hc
      obtain ⟨u, hu⟩ := ha.right (List.mem_of_getElem? hc)
      exact TRep.at hu h2
    · rw [Sp.kids_obj, List.getElem?_map] at hc
      obtain ⟨q, hq, rfl⟩ := Option.map_eq_some_iff.1 hc
      obtain ⟨u, hu⟩ := hp.right (List.mem_of_getElem? hq)
      exact TRep.at hu h2

/-- A tree is changed deep within, and nothing else of it. -/
theorem TRep.put {f : Nat} {w w' : World} {n' : Sp.A} : ∀ {p : List Nat} {v : Value} {a n : Sp.A}, TRep (f + p.length) w v a → Sp.sub p a = some n → (Sp.fp (f + p.length) a).Nodup →
    (∀ k ∈ Sp.fp (f + p.length) a, k ∉ Sp.fp f n → w'.heap[k]? = w.heap[k]?) → (∀ u, TRep f w u n → TRep f w' u n') → TRep (f + p.length) w' v (Sp.put p n' a)
  | [], v, a, n, h, hs, _, _, hc => by
    injection hs with hs
    subst hs
    exact hc v h
  | i :: r, v, a, n, h, hs, hn, hk, hc => by
    obtain ⟨c, hci, h2⟩ := Sp.sub_cons hs
    rw [Sp.put_cons n' hci]
    obtain ⟨rest, h5, h6⟩ := Sp.fp_kid (f := f + r.length) hci
    have hcn := (List.nodup_append.1 (h5.nodup_iff.1 hn)).2.1
    refine TRep.kid (f := f + r.length) h hci hn (fun k hk1 hk2 => hk k hk1 fun hk3 => hk2 (Sp.sub_fp h2 k hk3)) fun u hu => ?_
    exact TRep.put hu h2 hcn (fun k hk1 hk2 => hk k (h5.mem_iff.2 (List.mem_append_right _ hk1)) hk2) hc

end Go.Proofs.YtdpomdelmdofmaaGreatDoor
