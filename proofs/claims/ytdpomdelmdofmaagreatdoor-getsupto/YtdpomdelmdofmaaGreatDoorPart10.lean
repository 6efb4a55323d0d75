/-
  Plain functions: what the reader makes of a text, as data; the canonical text of such data.
-/
import Derived.Test.YtdpomdelmdofmaaGreatDoorPart08
import Derived.Test.YtdpomdelmdofmaaGreatDoorPart09
import GoSem.ClaimMapViews
import Derived.Maps.Views
import Derived.Maps.OwnSet
import Derived.Test.YtdpomdelmdofmaaGreatDoorPart05
namespace Go.Proofs.YtdpomdelmdofmaaGreatDoor.Sp
abbrev V := DataW Unit
def vWord (k : Nat) : V := .lit (.int .i64 k)
def vNum (n : Nm) : V := .agg [.lit (.bool n.1), .lit (.string n.2.1), .lit (.int .i64 n.2.2)]
def vStr (s : By) : V := .lit (.string s)
def vArr (es : List V) : V := .slice es []
def vObj (es : List (Lit × V)) : V := .map es
abbrev Fl := Bool × Int × Int
def words : List By := [[110, 117, 108, 108], [116, 114, 117, 101], [102, 97, 108, 115, 101]]
def wordIn (l : By) : Nat → List By → Option (Nat × By)
 | _, [] => none
 | k, x :: r => if Lib.hasPrefix l x then some (k, l.drop x.length) else wordIn l (k + 1) r
def lst {σ : Type} (cl : UInt8) (item : By → σ → Option (By × σ)) : Nat → By → σ → Option (By × σ)
 | 0, _, _ => none
 | n + 1, l, s => match item (skB l) s with
  | none => none
  | some (l1, s1) => if tk (skB l1) cl then some ((skB l1).tail, s1) else if tk (skB l1) 44 then lst cl item n (skB l1).tail s1 else none
def lstAll {σ : Type} (op cl : UInt8) (item : By → σ → Option (By × σ)) (l : By) (s : σ) : Option (By × σ) :=
 if tk l op then (if tk (skB l.tail) cl then some ((skB l.tail).tail, s) else lst cl item ((skB l.tail).length + 1) (skB l.tail) s) else none
def elem (rd : By → Fl → Option (V × By × Fl)) (l : By) (s : List V × Fl) : Option (By × (List V × Fl)) :=
 match rd l s.2 with
 | none => none
 | some (v, r, fl) => some (r, (s.1 ++ [v], fl))
def memb (rd : By → Fl → Option (V × By × Fl)) (l : By) (s : V × Fl) : Option (By × (V × Fl)) :=
 match quo l with
 | none => none
 | some (k, l1) => if tk (skB l1) 58 then (match rd (skB (skB l1).tail) s.2 with
  | none => none
  | some (v, r, fl) => some (r, (DataW.put s.1 (.string k) v, (fl.1 || Maps.has s.1 (.string k), fl.2)))) else none
def val : Nat → Int → By → Fl → Option (V × By × Fl)
 | 0, _, _, _ => none
 | f + 1, lv, l, fl =>
  if pk l = 123 then (match lstAll 123 125 (memb (val f (lv + 1))) l (vObj [], (fl.1, (max fl.2.1 lv, fl.2.2))) with
   | none => none
   | some (r, (v, fl')) => some (v, r, fl'))
  else if pk l = 91 then (match lstAll 91 93 (elem (val f (lv + 1))) l ([], (fl.1, (max fl.2.1 lv, fl.2.2))) with
   | none => none
   | some (r, (es, fl')) => some (vArr es, r, fl'))
  else if pk l = 34 then (match quo l with
   | none => none
   | some (s, r) => some (vStr s, r, (fl.1, (max fl.2.1 lv, fl.2.2))))
  else if pk l = 45 ∨ (48 ≤ pk l ∧ pk l ≤ 57) then (match num l with
   | none => none
   | some (n, r) => some (vNum n, r, (fl.1, (max fl.2.1 lv, max (max fl.2.2 n.2.2) (-n.2.2)))))
  else match wordIn l 0 words with
   | none => none
   | some (k, r) => some (vWord k, r, (fl.1, (max fl.2.1 lv, fl.2.2)))
theorem skB_len (l : By) : (skB l).length ≤ l.length := by
 induction l with
 | nil => simp [skB]
 | cons c r ih =>
  unfold skB
  split
  ·simp; omega
  ·simp
theorem wordIn_len (l : By) (ws : List By) (hw : ∀ x ∈ ws, x ≠ []) : ∀ (k n : Nat) (r : By), wordIn l k ws = some (n, r) → r.length < l.length := by
 induction ws with
 | nil => intro k n r h; cases h
 | cons x ws ih =>
  intro k n r h
  unfold wordIn at h
  split at h
  ·rename_i hp
   unfold Lib.hasPrefix at hp
   have h3 := (List.isPrefixOf_iff_prefix.1 hp).length_le
   have h4 : 0 < x.length := List.length_pos_iff.2 (hw x (by simp))
   injection h with h; injection h with h1 h2; subst h2; simp; omega
  ·exact ih (fun y hy => hw y (by simp [hy])) _ _ _ h
theorem chrs_len (f : Nat) : ∀ (l s r : By), chrs f l = some (s, r) → r.length ≤ l.length := by
 induction f with
 | zero => intro l s r h; cases h
 | succ f ih =>
  intro l s r h
  unfold chrs at h
  split at h
  ·injection h with h; injection h with h1 h2; subst h2; simp
  ·split at h
   ·cases h
   ·rename_i c r1 hc
    have := chr_len hc
    split at h
    ·cases h
    ·rename_i s1 r2 hx
     have h3 := ih _ _ _ hx
     injection h with h; injection h with h1 h2; subst h2; omega
theorem quo_len {l s r : By} (h : quo l = some (s, r)) : r.length < l.length := by
 unfold quo at h
 split at h
 ·rename_i k
  have := tk_cons k
  have := chrs_len _ _ _ _ h
  omega
 ·cases h
theorem lst_len {σ : Type} (cl : UInt8) (item : By → σ → Option (By × σ)) (hi : ∀ l s l' s', item l s = some (l', s') → l'.length < l.length) (n : Nat) : ∀ (l : By) (s : σ) (r : By) (s' : σ), lst cl item n l s = some (r, s') → r.length < l.length := by
 induction n with
 | zero => intro l s r s' h; cases h
 | succ n ih =>
  intro l s r s' h
  unfold lst at h
  split at h
  ·cases h
  ·rename_i l1 s1 h1
   have a := hi _ _ _ _ h1
   have b := skB_len l
   have c := skB_len l1
   split at h
   ·rename_i k
    have := tk_cons k
    injection h with h; injection h with h2 h3; subst h2; omega
   ·split at h
    ·rename_i k
     have := tk_cons k
     have := ih _ _ _ _ h
     omega
    ·cases h
theorem lstAll_len {σ : Type} {op cl : UInt8} {item : By → σ → Option (By × σ)} (hi : ∀ l s l' s', item l s = some (l', s') → l'.length < l.length) {l : By} {s : σ} {r : By} {s' : σ} (h : lstAll op cl item l s = some (r, s')) : r.length < l.length := by
 unfold lstAll at h
 split at h
 ·rename_i k
  have := tk_cons k
  have b := skB_len l.tail
  split at h
  ·rename_i k2
   have := tk_cons k2
   injection h with h; injection h with h2 h3; subst h2; omega
  ·have := lst_len cl item hi _ _ _ _ _ h
   omega
 ·cases h
theorem num_len {l : By} {n : Nm} {r : By} (h : num l = some (n, r)) : r.length < l.length := by
 have hf : ∀ {l : By} {n r}, expo l = some (n, r) → r.length ≤ l.length := by
  intro l n r h
  unfold expo at h
  have a := dg_len l.tail
  have b := dg_len l.tail.tail
  have c := List.length_tail (l := l)
  have d := List.length_tail (l := l.tail)
  repeat' split at h
  all_goals first | (injection h with h; injection h with h1 h2; subst h2; omega) | cases h
 have hb : ∀ {b : Bool} {l : By} {n r}, numB b l = some (n, r) → r.length < l.length := by
  intro b l n r h
  unfold numB at h
  have a := dg_len l
  split at h
  ·cases h
  ·rename_i hne
   have hne2 : 0 < (dg l).length := by
    apply List.length_pos_iff.2; intro e; rw [e] at hne; simp at hne
   split at h
   ·cases h
   ·rename_i f r1 h1
    have := frac_len h1
    split at h
    ·cases h
    ·rename_i e r2 h2
     have := hf h2
     injection h with h; injection h with h3 h4; subst h4; omega
 unfold num at h
 split at h
 ·have := hb h; have := List.length_tail (l := l); omega
 ·exact hb h
theorem val_len (f : Nat) : ∀ (lv : Int) (l : By) (fl : Fl) (v : V) (r : By) (fl' : Fl), val f lv l fl = some (v, r, fl') → r.length < l.length := by
 induction f with
 | zero => intro lv l fl v r fl' h; cases h
 | succ f ih =>
  intro lv l fl v r fl' h
  unfold val at h
  have he : ∀ l s l' s', elem (val f (lv + 1)) l s = some (l', s') → l'.length < l.length := by
   intro l s l' s' h
   unfold elem at h
   split at h
   ·cases h
   ·rename_i v r fl hv
    have := ih _ _ _ _ _ _ hv
    injection h with h; injection h with h1 h2; subst h1; exact this
  have hm : ∀ l s l' s', memb (val f (lv + 1)) l s = some (l', s') → l'.length < l.length := by
   intro l s l' s' h
   unfold memb at h
   split at h
   ·cases h
   ·rename_i k l1 hq
    have a := quo_len hq
    have b := skB_len l1
    split at h
    ·have c := skB_len (skB l1).tail
     have d := List.length_tail (l := skB l1)
     split at h
     ·cases h
     ·rename_i v r fl hv
      have := ih _ _ _ _ _ _ hv
      injection h with h; injection h with h1 h2; subst h1; omega
    ·cases h
  split at h
  ·split at h
   ·cases h
   ·rename_i h1
    have := lstAll_len hm h1
    injection h with h; injection h with h2 h3; injection h3 with h3 h4; subst h3; omega
  ·split at h
   ·split at h
    ·cases h
    ·rename_i h1
     have := lstAll_len he h1
     injection h with h; injection h with h2 h3; injection h3 with h3 h4; subst h3; omega
   ·split at h
    ·split at h
     ·cases h
     ·rename_i h1
      have := quo_len h1
      injection h with h; injection h with h2 h3; injection h3 with h3 h4; subst h3; omega
    ·split at h
     ·split at h
      ·cases h
      ·rename_i h1
       have := num_len h1
       injection h with h; injection h with h2 h3; injection h3 with h3 h4; subst h3; omega
     ·split at h
      ·cases h
      ·rename_i h1
       have := wordIn_len _ _ (by decide) _ _ _ h1
       injection h with h; injection h with h2 h3; injection h3 with h3 h4; subst h3; omega
end Go.Proofs.YtdpomdelmdofmaaGreatDoor.Sp

namespace Go.Proofs.YtdpomdelmdofmaaGreatDoor
open Go.RowKit
def RV (v : Value) : Option (DataW Value × List MemPlace) := some (.held v, [])
def VB (w : World) (b : Nat) (k : Int) (n : Sp.Nm) (s : Sp.By) (sl mp : Value) : Prop :=
 w.heap[b]? = some (.cells #[.int .i64 k, .bool n.1, .string ⟨n.2.1.toArray⟩, .int .i64 n.2.2, .string ⟨s.toArray⟩, sl, mp] 111 (0, 0))
abbrev n0 : Sp.Nm := (false, [], 0)
def Al {α β : Type} (P : α → β → Prop) : List α → List β → Prop
 | [], [] => True
 | a :: r, b :: s => P a b ∧ Al P r s
 | _, _ => False
def Pt (P : Value → Sp.V → Prop) : List (Lit × DataW Value) → List (Lit × Sp.V) → Prop
 | [], [] => True
 | a :: r, b :: s => (a.1 = b.1 ∧ ∃ x, a.2 = .held x ∧ P x b.2) ∧ Pt P r s
 | _, _ => False
def Rep : Nat → (Nat → Prop) → World → Value → Sp.V → Prop
 | 0, _, _, _, _ => False
 | f + 1, F, w, v, d => ∃ b, v = .pointer (some ⟨b, 0, none⟩) ∧ F b ∧
  ((∃ k : Nat, k < 3 ∧ d = Sp.vWord k ∧ VB w b k n0 [] (.slice none 0 0) (.map none)) ∨
   (∃ n, d = Sp.vNum n ∧ VB w b 3 n [] (.slice none 0 0) (.map none) ∧ -100000000 ≤ n.2.2 ∧ n.2.2 ≤ 100000000) ∨
   (∃ s, d = Sp.vStr s ∧ VB w b 4 n0 s (.slice none 0 0) (.map none)) ∨
   (∃ es sl ps, d = Sp.vArr es ∧ VB w b 5 n0 [] sl (.map none) ∧ w.ownsRow 0 80 1 sl ps.length ps ∧ (∀ g, sl.ownBlock = some g → F g) ∧ Al (Rep f F w) ps es) ∨
   (∃ es m n D, d = Sp.vObj es ∧ VB w b 6 n0 [] (.slice none 0 0) (.map (some m)) ∧ F m ∧ w.ownsMap Tryz.prog 9 RV m n (.map D) ∧ Pt (Rep f F w) D es))
theorem Al.mono {α β : Type} {P Q : α → β → Prop} (h : ∀ a b, P a b → Q a b) : ∀ {l : List α} {m : List β}, Al P l m → Al Q l m
 | [], [], _ => trivial
 | _ :: _, _ :: _, ⟨a, b⟩ => ⟨h _ _ a, Al.mono h b⟩
theorem Al.snoc {α β : Type} {P : α → β → Prop} {a : α} {b : β} (h : P a b) : ∀ {l : List α} {m : List β}, Al P l m → Al P (l ++ [a]) (m ++ [b])
 | [], [], _ => ⟨h, trivial⟩
 | _ :: _, _ :: _, ⟨c, d⟩ => ⟨c, Al.snoc h d⟩
theorem Al.length {α β : Type} {P : α → β → Prop} : ∀ {l : List α} {m : List β}, Al P l m → l.length = m.length
 | [], [], _ => rfl
 | _ :: _, _ :: _, ⟨_, d⟩ => congrArg (· + 1) (Al.length d)
theorem Al.get {α β : Type} {P : α → β → Prop} : ∀ {l : List α} {m : List β}, Al P l m → ∀ (i : Nat) (hi : i < l.length) (hj : i < m.length), P l[i] m[i]
 | _ :: _, _ :: _, ⟨c, _⟩, 0, _, _ => c
 | _ :: _, _ :: _, ⟨_, d⟩, i + 1, hi, hj => Al.get d i (by simpa using hi) (by simpa using hj)
theorem Pt.mono {P Q : Value → Sp.V → Prop} (h : ∀ a b, P a b → Q a b) : ∀ {l : List (Lit × DataW Value)} {m : List (Lit × Sp.V)}, Pt P l m → Pt Q l m
 | [], [], _ => trivial
 | _ :: _, _ :: _, ⟨⟨k, x, e, a⟩, b⟩ => ⟨⟨k, x, e, h _ _ a⟩, Pt.mono h b⟩
theorem Pt.filter {P : Value → Sp.V → Prop} (c : Lit → Bool) : ∀ {l : List (Lit × DataW Value)} {m : List (Lit × Sp.V)}, Pt P l m → Pt P (l.filter fun p => c p.1) (m.filter fun p => c p.1)
 | [], [], _ => trivial
 | a :: r, b :: s, ⟨⟨k, x, e, h⟩, t⟩ => by
  simp only [List.filter_cons]
  rw [k]
  split
  ·exact ⟨⟨k, x, e, h⟩, Pt.filter c t⟩
  ·exact Pt.filter c t
theorem Pt.insert {P : Value → Sp.V → Prop} (k : Lit) (x : Value) (v : Sp.V) (h : P x v) : ∀ {l : List (Lit × DataW Value)} {m : List (Lit × Sp.V)}, Pt P l m → Pt P (DataW.insert (k, .held x) l) (DataW.insert (k, v) m)
 | [], [], _ => ⟨⟨rfl, x, rfl, h⟩, trivial⟩
 | a :: r, b :: s, ⟨⟨kk, y, e, g⟩, t⟩ => by
  simp only [DataW.insert]
  rw [kk]
  split
  ·exact ⟨⟨rfl, x, rfl, h⟩, ⟨kk, y, e, g⟩, t⟩
  ·exact ⟨⟨kk, y, e, g⟩, Pt.insert k x v h t⟩
theorem Pt.has {P : Value → Sp.V → Prop} (k : Lit) : ∀ {l : List (Lit × DataW Value)} {m : List (Lit × Sp.V)}, Pt P l m → Maps.has (.map l) k = Maps.has (.map m) k
 | [], [], _ => rfl
 | a :: r, b :: s, ⟨⟨kk, _⟩, t⟩ => by
  have := Pt.has k t
  simp only [Maps.has, List.any_cons] at this ⊢
  rw [kk, this]
theorem Pt.put {P : Value → Sp.V → Prop} (k : Lit) (x : Value) (v : Sp.V) (h : P x v) {l : List (Lit × DataW Value)} {m : List (Lit × Sp.V)} (t : Pt P l m) :
  ∃ l' m', DataW.put (.map l) k (.held x) = .map l' ∧ DataW.put (.map m) k v = .map m' ∧ Pt P l' m' :=
 ⟨_, _, rfl, rfl, Pt.insert k x v h (Pt.filter (fun c => !c.sameKey k) t)⟩
theorem owns_kept {w w' : World} {B e n : Nat} {v : Value} {xs : List Value} (h : w.ownsRow B e 1 v n xs) (hk : ∀ g, v.ownBlock = some g → w'.heap[g]? = w.heap[g]?) : w'.ownsRow B e 1 v n xs := by
 refine ⟨h.1, h.2.imp id ?_⟩
 rintro ⟨g, cap, cur, h1, h2, h3, h4⟩
 exact ⟨g, cap, cur, h1, h2, (hk g (by rw [h1]; rfl)).trans h3, h4⟩
theorem owns_lt {w : World} {B e n : Nat} {v : Value} {xs : List Value} (h : w.ownsRow B e 1 v n xs) (g : Nat) (hg : v.ownBlock = some g) : g < w.heap.size ∧ B ≤ g := by
 rcases h.2 with ⟨h1, _⟩ | ⟨g', cap, cur, h1, h2, h3, _⟩
 ·rw [h1] at hg; cases hg
 ·rw [h1] at hg; injection hg with hg; subst hg; exact ⟨(Array.getElem?_eq_some_iff.1 h3).1, h2⟩
theorem map_lt {w : World} {m n : Nat} {D : DataW Value} (h : w.ownsMap Tryz.prog 9 RV m n D) : m < w.heap.size := by
 obtain ⟨es, clock, hb, _⟩ := h; exact (Array.getElem?_eq_some_iff.1 hb).1
theorem map_kept {w w' : World} {m n : Nat} {D : DataW Value} (h : w.ownsMap Tryz.prog 9 RV m n D) (hk : w'.heap[m]? = w.heap[m]?) : w'.ownsMap Tryz.prog 9 RV m n D := by
 obtain ⟨es, clock, hb, r⟩ := h; exact ⟨es, clock, hk.trans hb, r⟩
theorem VB.lt {w : World} {b : Nat} {k : Int} {n : Sp.Nm} {s : Sp.By} {sl mp : Value} (h : VB w b k n s sl mp) : b < w.heap.size := (Array.getElem?_eq_some_iff.1 h).1
theorem VB.kept {w w' : World} {b : Nat} {k : Int} {n : Sp.Nm} {s : Sp.By} {sl mp : Value} (h : VB w b k n s sl mp) (hk : w'.heap[b]? = w.heap[b]?) : VB w' b k n s sl mp := hk.trans h
theorem Rep.move {F F' : Nat → Prop} {w w' : World} (hF : ∀ k, F k → k < w.heap.size → w'.heap[k]? = w.heap[k]? ∧ F' k) : ∀ {f : Nat} {v : Value} {d : Sp.V}, Rep f F w v d → Rep f F' w' v d := by
 intro f
 induction f with
 | zero => intro v d h; exact h
 | succ f ih =>
  intro v d h
  obtain ⟨b, hv, hb, h⟩ := h
  rcases h with ⟨k, hk, hd, h⟩ | ⟨n, hd, h, hbd⟩ | ⟨s, hd, h⟩ | ⟨es, sl, ps, hd, h, ho, hs, ha⟩ | ⟨es, m, n, D, hd, h, hm, ho, hp⟩
  ·have g := hF b hb h.lt
   exact ⟨b, hv, g.2, Or.inl ⟨k, hk, hd, h.kept g.1⟩⟩
  ·have g := hF b hb h.lt
   exact ⟨b, hv, g.2, Or.inr (Or.inl ⟨n, hd, h.kept g.1, hbd⟩)⟩
  ·have g := hF b hb h.lt
   exact ⟨b, hv, g.2, Or.inr (Or.inr (Or.inl ⟨s, hd, h.kept g.1⟩))⟩
  ·have g := hF b hb h.lt
   exact ⟨b, hv, g.2, Or.inr (Or.inr (Or.inr (Or.inl ⟨es, sl, ps, hd, h.kept g.1, owns_kept ho (fun g' hg => (hF g' (hs g' hg) (owns_lt ho g' hg).1).1), fun g' hg => (hF g' (hs g' hg) (owns_lt ho g' hg).1).2, ha.mono (fun _ _ => ih)⟩)))⟩
  ·have g := hF b hb h.lt
   have g2 := hF m hm (map_lt ho)
   exact ⟨b, hv, g.2, Or.inr (Or.inr (Or.inr (Or.inr ⟨es, m, n, D, hd, h.kept g.1, g2.2, map_kept ho g2.1, hp.mono (fun _ _ => ih)⟩)))⟩
theorem Rep.ptr {f : Nat} {F : Nat → Prop} {w : World} {v : Value} {d : Sp.V} (h : Rep f F w v d) : ∃ b, v = .pointer (some ⟨b, 0, none⟩) ∧ b < w.heap.size ∧ F b := by
 cases f with
 | zero => exact h.elim
 | succ f =>
  obtain ⟨b, hv, hb, h⟩ := h
  refine ⟨b, hv, ?_, hb⟩
  rcases h with ⟨k, hk, hd, h⟩ | ⟨n, hd, h, hbd⟩ | ⟨s, hd, h⟩ | ⟨es, sl, ps, hd, h, ho, hs, ha⟩ | ⟨es, m, n, D, hd, h, hm, ho, hp⟩
  all_goals exact h.lt
end Go.Proofs.YtdpomdelmdofmaaGreatDoor

namespace Go.Proofs.YtdpomdelmdofmaaGreatDoor
open Go.RowKit
theorem RD.uniq {w : World} {R : Nat} {t t' : ByteArray} {l l' : Sp.By} {tw tw' : Bool} {dp fr dp' fr' : Int} (h : RD w R t l tw dp fr) (h' : RD w R t' l' tw' dp' fr') : t = t' ∧ l = l' ∧ tw = tw' ∧ dp = dp' ∧ fr = fr' := by
 obtain ⟨p, a, h⟩ := h
 obtain ⟨p', a', h'⟩ := h'
 have e := (show w.heap[R]? = _ from h).symm.trans (show w.heap[R]? = _ from h')
 simp at e
 obtain ⟨e1, e2, e3, e4, e5⟩ := e
 subst e1
 have : p = p' := by omega
 subst this
 exact ⟨rfl, a.eq.symm.trans a'.eq, e3, e4, e5⟩
structure ItemOk {σ : Type} (g : FuncId) (caps : Array Value) (R : Nat) (t : ByteArray) (N : Nat) (item : Sp.By → σ → Option (Sp.By × σ)) (I : World → Sp.By → σ → Prop) (J : World → Prop) : Prop where
 rd : ∀ w l s, I w l s → ∃ tw dp fr, RD w R t l tw dp fr
 move : ∀ w w' l l' s tw dp fr, I w l s → RD w R t l tw dp fr → RD w' R t l' tw dp fr → KeptX R w w' → l'.length ≤ l.length → I w' l' s
 out : ∀ w l s, I w l s → J w
 len : ∀ l s l' s', item l s = some (l', s') → l'.length < l.length
 call : ∀ w l s, I w l s → l.length < N → Calls Tryz.prog g caps w fun e w' =>
  (∃ l' s', item l s = some (l', s') ∧ e = .returned (.bool true) ∧ I w' l' s') ∨ (item l s = none ∧ e = .returned (.bool false) ∧ J w')
def listEnd {σ : Type} (o : Option (Sp.By × σ)) (e : Ending) (w' : World) (I : World → Sp.By → σ → Prop) (J : World → Prop) : Prop :=
 (∃ l' s', o = some (l', s') ∧ e = .returned (.bool true) ∧ I w' l' s') ∨ (o = none ∧ e = .returned (.bool false) ∧ J w')
set_option maxHeartbeats 4000000 in
theorem list_arr {σ : Type} (p0 p1 p2 : Value) (op cl : UInt8) (opn cln : Int) (hopn : opn = op.toNat) (hcln : cln = cl.toNat) (R : Nat) (t : ByteArray) (N : Nat) (item : Sp.By → σ → Option (Sp.By × σ)) (I : World → Sp.By → σ → Prop) (J : World → Prop)
  (K : ItemOk 219 #[p0, p1, p2] R t N item I J) (w : World) (l : Sp.By) (s : σ) (hI : I w l s) (hN : l.length ≤ N) :
  Calls Tryz.prog 216 #[.pointer (some ⟨R, 0, none⟩), .int .u8 opn, .int .u8 cln, .func (.func 219) #[] #[p0, p1, p2]] w fun e w' => listEnd (Sp.lstAll op cl item l s) e w' I J := by
 obtain ⟨tw, dp, fr, hr⟩ := K.rd _ _ _ hI
 have HI := hide hI
 have HO := hide hopn
 have HC := hide hcln
 clear hI hopn hcln
 by_cases k1 : Sp.tk l op = true
 ·have K1 := hide k1
  have hl1 := tk_cons k1
  clear k1
  go_enter Tryz.func216, Tryz.ntmps216
  go_wp2_with (fail)
  refine (take_yes op opn (unhide HO) hr (unhide K1)).mono ?_
  rintro e w1 ⟨rfl, hr1, hk1⟩
  go_wp2_with (fail)
  refine (blanks_any hr1).mono ?_
  rintro e w2 ⟨rfl, hr2, hk2⟩
  have hsk := Sp.skB_len l.tail
  have I2 := hide (K.move _ _ _ _ _ _ _ _ (unhide HI) hr hr2 (hk1.trans hk2) (by first | exact Nat.le_refl _ | omega | (simp only [List.length_tail]; omega)))
  by_cases k2 : Sp.tk (Sp.skB l.tail) cl = true
  ·have K2 := hide k2
   clear k2
   go_wp2_with (fail)
   refine (take_yes cl cln (unhide HC) hr2 (unhide K2)).mono ?_
   rintro e w3 ⟨rfl, hr3, hk3⟩
   go_wp2_with (fail)
   go_ret
   refine Or.inl ⟨_, s, ?_, rfl, K.move _ _ _ _ _ _ _ _ (unhide I2) hr2 hr3 hk3 (by first | exact Nat.le_refl _ | omega | (simp only [List.length_tail]; omega))⟩
   unfold Sp.lstAll
   rw [unhide K1, unhide K2]; rfl
  ·have K2 := hide (tk_false k2)
   clear k2
   go_wp2_with (fail)
   refine (takeN cl cln (unhide HC) hr2 (unhide K2)).mono ?_
   rintro e w3 ⟨rfl, hr3, hk3⟩
   have I3 := hide (K.move _ _ _ _ _ _ _ _ (unhide I2) hr2 hr3 hk3 (by first | exact Nat.le_refl _ | omega | (simp only [List.length_tail]; omega)))
   have hE : Hid (Sp.lstAll op cl item l s = Sp.lst cl item ((Sp.skB l.tail).length + 1) (Sp.skB l.tail) s) := by
    unfold Hid Sp.lstAll
    rw [unhide K1, unhide K2]; rfl
   have hb : (Sp.skB l.tail).length < N := by omega
   generalize Sp.skB l.tail = l2 at *
   clear hr hr1 hr2 hk1 hk2 hk3 K1 K2 HI I2 hl1 hsk hN
   go_wp2_with (fail)
   go_loopw [18] (fun _ wr => ∃ (n : Nat) (l' : Sp.By) (s' : σ), I wr l' s' ∧ l'.length < n ∧ l'.length < N ∧ Sp.lst cl item (l2.length + 1) l2 s = Sp.lst cl item n l' s') (fun _ wr => left wr R)
   case atStart => exact ⟨_, l2, s, unhide I3, Nat.lt_succ_self _, hb, rfl⟩
   case round =>
    obtain ⟨n, l', s', hi, hn, hlN, he⟩ := hrel
    obtain ⟨m, rfl⟩ : ∃ m, n = m + 1 := ⟨n - 1, by omega⟩
    obtain ⟨tw, dp, fr, hr⟩ := K.rd _ _ _ hi
    have HI := hide hi
    have HE := hide he
    have HL := hide hr.left
    have hsk := Sp.skB_len l'
    clear hi he I3 hr3
    go_wp2_with (fail)
    refine (blanks_any hr).mono ?_
    rintro e w4 ⟨rfl, hr4, hk4⟩
    have I4 := hide (K.move _ _ _ _ _ _ _ _ (unhide HI) hr hr4 hk4 (by first | exact Nat.le_refl _ | omega | (simp only [List.length_tail]; omega)))
    go_wp2_with (fail)
    refine (K.call _ _ _ (unhide I4) (by omega)).mono ?_
    rintro e w5 hc
    rcases hc with ⟨l5, s5, hit, rfl, hI5⟩ | ⟨hit, rfl, hJ⟩
    ·obtain ⟨tw5, dp5, fr5, hr5⟩ := K.rd _ _ _ hI5
     have I5 := hide hI5
     have HIT := hide hit
     have hl5 := K.len _ _ _ _ hit
     have hsk5 := Sp.skB_len l5
     clear hI5 hit
     go_wp2_with (fail)
     refine (blanks_any hr5).mono ?_
     rintro e w6 ⟨rfl, hr6, hk6⟩
     have I6 := hide (K.move _ _ _ _ _ _ _ _ (unhide I5) hr5 hr6 hk6 (by first | exact Nat.le_refl _ | omega | (simp only [List.length_tail]; omega)))
     by_cases k3 : Sp.tk (Sp.skB l5) cl = true
     ·have K3 := hide k3
      clear k3
      go_wp2_with (fail)
      refine (take_yes cl cln (unhide HC) hr6 (unhide K3)).mono ?_
      rintro e w7 ⟨rfl, hr7, hk7⟩
      go_wp2_with (fail)
      go_ret
      refine Or.inl ⟨_, s5, ?_, rfl, K.move _ _ _ _ _ _ _ _ (unhide I6) hr6 hr7 hk7 (by first | exact Nat.le_refl _ | omega | (simp only [List.length_tail]; omega))⟩
      rw [unhide hE, unhide HE, Sp.lst, unhide HIT]
      simp only
      rw [unhide K3]; rfl
     ·have K3 := hide (tk_false k3)
      clear k3
      go_wp2_with (fail)
      refine (takeN cl cln (unhide HC) hr6 (unhide K3)).mono ?_
      rintro e w7 ⟨rfl, hr7, hk7⟩
      have I7 := hide (K.move _ _ _ _ _ _ _ _ (unhide I6) hr6 hr7 hk7 (by first | exact Nat.le_refl _ | omega | (simp only [List.length_tail]; omega)))
      by_cases k4 : Sp.tk (Sp.skB l5) 44 = true
      ·have K4 := hide k4
       have hl4 := tk_cons k4
       clear k4
       go_wp2_with (fail)
       refine (take_yes 44 _ rfl hr7 (unhide K4)).mono ?_
       rintro e w8 ⟨rfl, hr8, hk8⟩
       have I8 := hide (K.move _ _ _ _ _ _ _ _ (unhide I7) hr7 hr8 hk8 (by first | exact Nat.le_refl _ | omega | (simp only [List.length_tail]; omega)))
       go_wp2_with (fail)
       go_roundw
       case rel =>
        refine ⟨m, _, s5, unhide I8, by omega, by omega, ?_⟩
        rw [unhide HE, Sp.lst, unhide HIT]
        simp only
        rw [unhide K3, unhide K4]; rfl
       case measure => rw [hr8.left, unhide HL]; omega
      ·have K4 := hide (tk_false k4)
       clear k4
       go_wp2_with (fail)
       refine (takeN 44 _ rfl hr7 (unhide K4)).mono ?_
       rintro e w8 ⟨rfl, hr8, hk8⟩
       go_wp2_with (fail)
       go_ret
       refine Or.inr ⟨?_, rfl, K.out _ _ _ (K.move _ _ _ _ _ _ _ _ (unhide I7) hr7 hr8 hk8 (by first | exact Nat.le_refl _ | omega | (simp only [List.length_tail]; omega)))⟩
       rw [unhide hE, unhide HE, Sp.lst, unhide HIT]
       simp only
       rw [unhide K3, unhide K4]; rfl
    ·have HIT := hide hit
     clear hit
     go_wp2_with (fail)
     go_ret
     refine Or.inr ⟨?_, rfl, hJ⟩
     rw [unhide hE, unhide HE, Sp.lst, unhide HIT]
 ·have K1 := hide (tk_false k1)
  clear k1
  go_enter Tryz.func216, Tryz.ntmps216
  go_wp2_with (fail)
  refine (takeN op opn (unhide HO) hr (unhide K1)).mono ?_
  rintro e w1 ⟨rfl, hr1, hk1⟩
  go_wp2_with (fail)
  go_ret
  refine Or.inr ⟨?_, rfl, K.out _ _ _ (K.move _ _ _ _ _ _ _ _ (unhide HI) hr hr1 hk1 (by first | exact Nat.le_refl _ | omega | (simp only [List.length_tail]; omega)))⟩
  unfold Sp.lstAll
  rw [unhide K1]; rfl
set_option maxHeartbeats 4000000 in
theorem list_obj {σ : Type} (p0 p1 p2 : Value) (op cl : UInt8) (opn cln : Int) (hopn : opn = op.toNat) (hcln : cln = cl.toNat) (R : Nat) (t : ByteArray) (N : Nat) (item : Sp.By → σ → Option (Sp.By × σ)) (I : World → Sp.By → σ → Prop) (J : World → Prop)
  (K : ItemOk 217 #[p0, p1, p2] R t N item I J) (w : World) (l : Sp.By) (s : σ) (hI : I w l s) (hN : l.length ≤ N) :
  Calls Tryz.prog 216 #[.pointer (some ⟨R, 0, none⟩), .int .u8 opn, .int .u8 cln, .func (.func 217) #[] #[p0, p1, p2]] w fun e w' => listEnd (Sp.lstAll op cl item l s) e w' I J := by
 obtain ⟨tw, dp, fr, hr⟩ := K.rd _ _ _ hI
 have HI := hide hI
 have HO := hide hopn
 have HC := hide hcln
 clear hI hopn hcln
 by_cases k1 : Sp.tk l op = true
 ·have K1 := hide k1
  have hl1 := tk_cons k1
  clear k1
  go_enter Tryz.func216, Tryz.ntmps216
  go_wp2_with (fail)
  refine (take_yes op opn (unhide HO) hr (unhide K1)).mono ?_
  rintro e w1 ⟨rfl, hr1, hk1⟩
  go_wp2_with (fail)
  refine (blanks_any hr1).mono ?_
  rintro e w2 ⟨rfl, hr2, hk2⟩
  have hsk := Sp.skB_len l.tail
  have I2 := hide (K.move _ _ _ _ _ _ _ _ (unhide HI) hr hr2 (hk1.trans hk2) (by first | exact Nat.le_refl _ | omega | (simp only [List.length_tail]; omega)))
  by_cases k2 : Sp.tk (Sp.skB l.tail) cl = true
  ·have K2 := hide k2
   clear k2
   go_wp2_with (fail)
   refine (take_yes cl cln (unhide HC) hr2 (unhide K2)).mono ?_
   rintro e w3 ⟨rfl, hr3, hk3⟩
   go_wp2_with (fail)
   go_ret
   refine Or.inl ⟨_, s, ?_, rfl, K.move _ _ _ _ _ _ _ _ (unhide I2) hr2 hr3 hk3 (by first | exact Nat.le_refl _ | omega | (simp only [List.length_tail]; omega))⟩
   unfold Sp.lstAll
   rw [unhide K1, unhide K2]; rfl
  ·have K2 := hide (tk_false k2)
   clear k2
   go_wp2_with (fail)
   refine (takeN cl cln (unhide HC) hr2 (unhide K2)).mono ?_
   rintro e w3 ⟨rfl, hr3, hk3⟩
   have I3 := hide (K.move _ _ _ _ _ _ _ _ (unhide I2) hr2 hr3 hk3 (by first | exact Nat.le_refl _ | omega | (simp only [List.length_tail]; omega)))
   have hE : Hid (Sp.lstAll op cl item l s = Sp.lst cl item ((Sp.skB l.tail).length + 1) (Sp.skB l.tail) s) := by
    unfold Hid Sp.lstAll
    rw [unhide K1, unhide K2]; rfl
   have hb : (Sp.skB l.tail).length < N := by omega
   generalize Sp.skB l.tail = l2 at *
   clear hr hr1 hr2 hk1 hk2 hk3 K1 K2 HI I2 hl1 hsk hN
   go_wp2_with (fail)
   go_loopw [18] (fun _ wr => ∃ (n : Nat) (l' : Sp.By) (s' : σ), I wr l' s' ∧ l'.length < n ∧ l'.length < N ∧ Sp.lst cl item (l2.length + 1) l2 s = Sp.lst cl item n l' s') (fun _ wr => left wr R)
   case atStart => exact ⟨_, l2, s, unhide I3, Nat.lt_succ_self _, hb, rfl⟩
   case round =>
    obtain ⟨n, l', s', hi, hn, hlN, he⟩ := hrel
    obtain ⟨m, rfl⟩ : ∃ m, n = m + 1 := ⟨n - 1, by omega⟩
    obtain ⟨tw, dp, fr, hr⟩ := K.rd _ _ _ hi
    have HI := hide hi
    have HE := hide he
    have HL := hide hr.left
    have hsk := Sp.skB_len l'
    clear hi he I3 hr3
    go_wp2_with (fail)
    refine (blanks_any hr).mono ?_
    rintro e w4 ⟨rfl, hr4, hk4⟩
    have I4 := hide (K.move _ _ _ _ _ _ _ _ (unhide HI) hr hr4 hk4 (by first | exact Nat.le_refl _ | omega | (simp only [List.length_tail]; omega)))
    go_wp2_with (fail)
    refine (K.call _ _ _ (unhide I4) (by omega)).mono ?_
    rintro e w5 hc
    rcases hc with ⟨l5, s5, hit, rfl, hI5⟩ | ⟨hit, rfl, hJ⟩
    ·obtain ⟨tw5, dp5, fr5, hr5⟩ := K.rd _ _ _ hI5
     have I5 := hide hI5
     have HIT := hide hit
     have hl5 := K.len _ _ _ _ hit
     have hsk5 := Sp.skB_len l5
     clear hI5 hit
     go_wp2_with (fail)
     refine (blanks_any hr5).mono ?_
     rintro e w6 ⟨rfl, hr6, hk6⟩
     have I6 := hide (K.move _ _ _ _ _ _ _ _ (unhide I5) hr5 hr6 hk6 (by first | exact Nat.le_refl _ | omega | (simp only [List.length_tail]; omega)))
     by_cases k3 : Sp.tk (Sp.skB l5) cl = true
     ·have K3 := hide k3
      clear k3
      go_wp2_with (fail)
      refine (take_yes cl cln (unhide HC) hr6 (unhide K3)).mono ?_
      rintro e w7 ⟨rfl, hr7, hk7⟩
      go_wp2_with (fail)
      go_ret
      refine Or.inl ⟨_, s5, ?_, rfl, K.move _ _ _ _ _ _ _ _ (unhide I6) hr6 hr7 hk7 (by first | exact Nat.le_refl _ | omega | (simp only [List.length_tail]; omega))⟩
      rw [unhide hE, unhide HE, Sp.lst, unhide HIT]
      simp only
      rw [unhide K3]; rfl
     ·have K3 := hide (tk_false k3)
      clear k3
      go_wp2_with (fail)
      refine (takeN cl cln (unhide HC) hr6 (unhide K3)).mono ?_
      rintro e w7 ⟨rfl, hr7, hk7⟩
      have I7 := hide (K.move _ _ _ _ _ _ _ _ (unhide I6) hr6 hr7 hk7 (by first | exact Nat.le_refl _ | omega | (simp only [List.length_tail]; omega)))
      by_cases k4 : Sp.tk (Sp.skB l5) 44 = true
      ·have K4 := hide k4
       have hl4 := tk_cons k4
       clear k4
       go_wp2_with (fail)
       refine (take_yes 44 _ rfl hr7 (unhide K4)).mono ?_
       rintro e w8 ⟨rfl, hr8, hk8⟩
       have I8 := hide (K.move _ _ _ _ _ _ _ _ (unhide I7) hr7 hr8 hk8 (by first | exact Nat.le_refl _ | omega | (simp only [List.length_tail]; omega)))
       go_wp2_with (fail)
       go_roundw
       case rel =>
        refine ⟨m, _, s5, unhide I8, by omega, by omega, ?_⟩
        rw [unhide HE, Sp.lst, unhide HIT]
        simp only
        rw [unhide K3, unhide K4]; rfl
       case measure => rw [hr8.left, unhide HL]; omega
      ·have K4 := hide (tk_false k4)
       clear k4
       go_wp2_with (fail)
       refine (takeN 44 _ rfl hr7 (unhide K4)).mono ?_
       rintro e w8 ⟨rfl, hr8, hk8⟩
       go_wp2_with (fail)
       go_ret
       refine Or.inr ⟨?_, rfl, K.out _ _ _ (K.move _ _ _ _ _ _ _ _ (unhide I7) hr7 hr8 hk8 (by first | exact Nat.le_refl _ | omega | (simp only [List.length_tail]; omega)))⟩
       rw [unhide hE, unhide HE, Sp.lst, unhide HIT]
       simp only
       rw [unhide K3, unhide K4]; rfl
    ·have HIT := hide hit
     clear hit
     go_wp2_with (fail)
     go_ret
     refine Or.inr ⟨?_, rfl, hJ⟩
     rw [unhide hE, unhide HE, Sp.lst, unhide HIT]
 ·have K1 := hide (tk_false k1)
  clear k1
  go_enter Tryz.func216, Tryz.ntmps216
  go_wp2_with (fail)
  refine (takeN op opn (unhide HO) hr (unhide K1)).mono ?_
  rintro e w1 ⟨rfl, hr1, hk1⟩
  go_wp2_with (fail)
  go_ret
  refine Or.inr ⟨?_, rfl, K.out _ _ _ (K.move _ _ _ _ _ _ _ _ (unhide HI) hr hr1 hk1 (by first | exact Nat.le_refl _ | omega | (simp only [List.length_tail]; omega)))⟩
  unfold Sp.lstAll
  rw [unhide K1]; rfl
end Go.Proofs.YtdpomdelmdofmaaGreatDoor
