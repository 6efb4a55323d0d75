/-
  What a script's answers are, as plain functions; walks of within, isConfig, failed.
-/
import Derived.Test.YtdpomdelmdofmaaGreatDoorPart22
import Derived.Test.YtdpomdelmdofmaaGreatDoorPart01
import Derived.Test.YtdpomdelmdofmaaGreatDoorPart11
namespace Go.Proofs.YtdpomdelmdofmaaGreatDoor
open Go.RowKit
def Sp.inB (n a b : Int) : Bool := decide (a ≤ n) && decide (n ≤ b)
def Sp.cfg (d e n : Int) : Bool := Sp.inB d 1 20 && (Sp.inB e 0 400 && Sp.inB n 0 2000)
def Sp.ldd (r : Nat × Option Sp.V) (doc : Sp.Doc) : Sp.Ans × Sp.Doc :=
 match r.2 with
 | some v => ((r.1, 0, []), some (v, none))
 | none => ((r.1, 0, []), doc)
def Sp.gotA (v : Sp.V) (s : Sp.By) : Sp.Ans := match Sp.toks s with
 | none => (9, 0, [])
 | some l => match Sp.find v l with
  | .ok e => (0, 0, Sp.can top e)
  | .error c => (c, 0, [])
noncomputable def Sp.tst (d e : Int) (v : Sp.V) (s t : Sp.By) : Nat := match Sp.toks s with
 | none => 9
 | some l => match Sp.readTo t d e with
  | (c, none) => c
  | (_, some x) => match Sp.find v l with
   | .error c => c
   | .ok y => if veq y x = true then 0 else 14
noncomputable def Sp.ask (d e : Int) (v : Sp.V) (o : Sp.St) : Sp.Ans :=
 if o.1 = 2 then (0, 0, Sp.can top v) else if o.1 = 3 then Sp.gotA v o.2.1 else if o.1 = 4 then (Sp.tst d e v o.2.1 o.2.2, 0, []) else (1, 0, [])
noncomputable def Sp.step (d e n : Int) (doc : Sp.Doc) (o : Sp.St) : Sp.Ans × Sp.Doc :=
 if Sp.cfg d e n then
  (if o.1 < 1 ∨ 9 < o.1 then ((1, 0, []), doc)
   else if o.1 = 1 then Sp.ldd (Sp.readTo o.2.1 d e) doc
   else match doc with
    | none => ((3, 0, []), doc)
    | some v => if o.1 < 5 then (Sp.ask d e v.1 o, doc) else ((Sp.amend d e n v o).1, some (Sp.amend d e n v o).2))
 else ((2, 0, []), doc)
noncomputable def Sp.run (d e n : Int) : Sp.Doc → List Sp.St → List Sp.Ans
 | _, [] => []
 | doc, o :: r => (Sp.step d e n doc o).1 :: Sp.run d e n (Sp.step d e n doc o).2 r
noncomputable def Sp.docAfter (d e n : Int) : Sp.Doc → List Sp.St → Sp.Doc
 | doc, [] => doc
 | doc, o :: r => Sp.docAfter d e n (Sp.step d e n doc o).2 r
theorem Sp.run_len (d e n : Int) : ∀ (l : List Sp.St) (doc : Sp.Doc), (Sp.run d e n doc l).length = l.length := by
 intro l
 induction l with
 | nil => intro doc; rfl
 | cons o r ih => intro doc; simp [Sp.run, ih]
theorem Sp.run_take (d e n : Int) : ∀ (l : List Sp.St) (doc : Sp.Doc) (k : Nat), Sp.run d e n doc (l.take k) = (Sp.run d e n doc l).take k := by
 intro l
 induction l with
 | nil => intro doc k; simp [Sp.run]
 | cons o r ih =>
  intro doc k
  cases k with
  | zero => rfl
  | succ k => simp [Sp.run, ih]
theorem Sp.run_snoc (d e n : Int) : ∀ (l : List Sp.St) (doc : Sp.Doc) (o : Sp.St), Sp.run d e n doc (l ++ [o]) = Sp.run d e n doc l ++ [(Sp.step d e n (Sp.docAfter d e n doc l) o).1] := by
 intro l
 induction l with
 | nil => intro doc o; rfl
 | cons x r ih => intro doc o; simp [Sp.run, Sp.docAfter, ih]
theorem Sp.after_snoc (d e n : Int) : ∀ (l : List Sp.St) (doc : Sp.Doc) (o : Sp.St), Sp.docAfter d e n doc (l ++ [o]) = (Sp.step d e n (Sp.docAfter d e n doc l) o).2 := by
 intro l
 induction l with
 | nil => intro doc o; rfl
 | cons x r ih => intro doc o; simp [Sp.docAfter, ih]
def ansA (a : Sp.Ans) : Value := .agg #[.int .i64 a.1, .int .i64 a.2.1, .string ⟨a.2.2.toArray⟩]
def ansV (c : Nat) (t : Sp.By) : Value := .agg #[.int .i64 c, .int .i64 0, .string ⟨t.toArray⟩]
set_option maxHeartbeats 1000000 in
theorem within_any (n a b : Int) (w : World) : Calls Tryz.prog 52 #[.int .i64 n, .int .i64 a, .int .i64 b] w fun e w' => e = .returned (.bool (Sp.inB n a b)) ∧ w' = w := by
 by_cases h1 : a ≤ n
 ·by_cases h2 : n ≤ b
  ·have e1 : decide (a ≤ n) = true := by simpa using h1
   have e2 : decide (n ≤ b) = true := by simpa using h2
   have HE := hide (show Sp.inB n a b = true by unfold Sp.inB; rw [e1, e2]; rfl)
   clear h1 h2
   go_enter Tryz.func52, Tryz.ntmps52
   go_wp2_with (fail)
   go_ret
   exact ⟨by rw [unhide HE]; rfl, rfl⟩
  ·have e1 : decide (a ≤ n) = true := by simpa using h1
   have e2 : decide (n ≤ b) = false := by simpa using h2
   have HE := hide (show Sp.inB n a b = false by unfold Sp.inB; rw [e1, e2]; rfl)
   clear h1 h2
   go_enter Tryz.func52, Tryz.ntmps52
   go_wp2_with (fail)
   go_ret
   exact ⟨by rw [unhide HE]; rfl, rfl⟩
 ·have e1 : decide (a ≤ n) = false := by simpa using h1
  have HE := hide (show Sp.inB n a b = false by unfold Sp.inB; rw [e1]; rfl)
  clear h1
  go_enter Tryz.func52, Tryz.ntmps52
  go_wp2_with (fail)
  go_ret
  exact ⟨by rw [unhide HE]; rfl, rfl⟩
set_option maxHeartbeats 1000000 in
theorem isConfig_any (d e n : Int) (w : World) : Calls Tryz.prog 40 #[.agg #[.int .i64 d, .int .i64 e, .int .i64 n]] w fun x w' => x = .returned (.bool (Sp.cfg d e n)) ∧ Below w.heap.size w w' := by
 have hb : Below w.heap.size w (w.alloc (.cells #[.int .i64 d, .int .i64 e, .int .i64 n] 23)) := (Below.refl _ _).alloc (Nat.le_refl _) _
 go_enter Tryz.func40, Tryz.ntmps40
 go_wp2_with (fail)
 refine (within_any d 1 20 _).mono ?_
 rintro x w1 ⟨rfl, rfl⟩
 cases h1 : Sp.inB d 1 20 with
 | false =>
  have H1 := hide h1
  clear h1
  simp only
  go_wp2_with (fail)
  go_ret
  exact ⟨by unfold Sp.cfg; rw [unhide H1]; rfl, hb⟩
 | true =>
  have H1 := hide h1
  clear h1
  simp only
  go_wp2_with (fail)
  refine (within_any e 0 400 _).mono ?_
  rintro x w1 ⟨rfl, rfl⟩
  cases h2 : Sp.inB e 0 400 with
  | false =>
   have H2 := hide h2
   clear h2
   simp only
   go_wp2_with (fail)
   go_ret
   exact ⟨by unfold Sp.cfg; rw [unhide H1, unhide H2]; rfl, hb⟩
  | true =>
   have H2 := hide h2
   clear h2
   simp only
   go_wp2_with (fail)
   refine (within_any n 0 2000 _).mono ?_
   rintro x w1 ⟨rfl, rfl⟩
   go_wp2_with (fail)
   go_ret
   exact ⟨by unfold Sp.cfg; rw [unhide H1, unhide H2]; simp, hb⟩
set_option maxHeartbeats 1000000 in
theorem failed_any (c : Nat) (w : World) : Calls Tryz.prog 41 #[.int .i64 c] w fun x w' => x = .returned (ansV c []) ∧ Below w.heap.size w w' := by
 unfold ansV
 go_enter Tryz.func41, Tryz.ntmps41
 go_wp2_with (fail)
 refine bodyPost_ret (v := .agg #[.int .i64 c, .int .i64 0, .string ⟨([] : Sp.By).toArray⟩]) (by simp [results, Tryz.results41, go_sem]) rfl ⟨rfl, ?_⟩
 exact (Below.refl _ w).alloc (Nat.le_refl _) _
end Go.Proofs.YtdpomdelmdofmaaGreatDoor

namespace Go.Proofs.YtdpomdelmdofmaaGreatDoor
open Go.RowKit
def TokAt (w : World) (g o : Nat) (l : List Sp.By) : Prop := g < w.heap.size ∧ ∀ k (hk : k < l.length), w.cell? ⟨g, o + k, none⟩ = some (.string ⟨l[k].toArray⟩)
def Toks (w : World) (v : Value) (l : List Sp.By) : Prop :=
 (l = [] ∧ ∃ a c, v = .slice a 0 c ∧ c ≤ maxLen) ∨ ∃ g o cap, v = .slice (some ⟨g, o, none⟩) l.length cap ∧ l.length ≤ cap ∧ cap ≤ maxLen ∧ TokAt w g o l
theorem Toks.bel {w w' : World} {v : Value} {l : List Sp.By} (h : Toks w v l) (hb : Below w.heap.size w w') : Toks w' v l := by
 rcases h with h | ⟨g, o, cap, rfl, h1, h2, hg, hc⟩
 ·exact Or.inl h
 ·exact Or.inr ⟨g, o, cap, rfl, h1, h2, Nat.lt_of_lt_of_le hg hb.size, fun k hk => (hb.cell (p := ⟨g, o + k, none⟩) hg).trans (hc k hk)⟩
end Go.Proofs.YtdpomdelmdofmaaGreatDoor

namespace Go.Proofs.YtdpomdelmdofmaaGreatDoor
open Go.RowKit
namespace Sp
def kids (a : A) : List A := match a with
 | .agg [.lit (.int _ _), .lit (.int _ _), x] => (match x with
  | .slice al _ => al
  | .map es => es.map Prod.snd
  | _ => [])
 | _ => []
def kid (a : A) (i : Nat) (c : A) : A := match a with
 | .agg [.lit (.int k b), .lit (.int l g), x] => (match x with
  | .slice al _ => .agg [.lit (.int k b), .lit (.int l g), .slice (al.set i c) []]
  | .map es => .agg [.lit (.int k b), .lit (.int l g), .map (es.modify i fun p => (p.1, c))]
  | y => .agg [.lit (.int k b), .lit (.int l g), y])
 | y => y
theorem kids_arr (b g : Nat) (al : List A) : kids (nd b g (.slice al [])) = al := rfl
theorem kids_obj (b g : Nat) (es : List (Lit × A)) : kids (nd b g (.map es)) = es.map Prod.snd := rfl
theorem kids_word (b g k : Nat) : kids (nd b g (vWord k)) = [] := rfl
theorem kids_num (b g : Nat) (n : Nm) : kids (nd b g (vNum n)) = [] := rfl
theorem kids_str (b g : Nat) (s : By) : kids (nd b g (vStr s)) = [] := rfl
theorem kid_arr (b g i : Nat) (al : List A) (c : A) : kid (nd b g (.slice al [])) i c = nd b g (.slice (al.set i c) []) := rfl
theorem kid_obj (b g i : Nat) (es : List (Lit × A)) (c : A) : kid (nd b g (.map es)) i c = nd b g (.map (es.modify i fun p => (p.1, c))) := rfl
end Sp
theorem flat_split {α β : Type} (q : α → List β) : ∀ (l : List α) (i : Nat) (a : α), l[i]? = some a → ∃ l1 l2, l = l1 ++ a :: l2 ∧ l1.length = i
 | [], i, a, h => by simp at h
 | x :: r, 0, a, h => ⟨[], r, by simpa using h, rfl⟩
 | x :: r, i + 1, a, h => by
  obtain ⟨l1, l2, e, e2⟩ := flat_split q r i a (by simpa using h)
  exact ⟨x :: l1, l2, by rw [e]; rfl, by simp [e2]⟩
theorem Al.app {α β : Type} {P : α → β → Prop} : ∀ {l : List α} {m1 m2 : List β}, Al P l (m1 ++ m2) → ∃ l1 l2, l = l1 ++ l2 ∧ Al P l1 m1 ∧ Al P l2 m2
 | l, [], m2, h => ⟨[], l, rfl, trivial, h⟩
 | [], _ :: _, _, h => h.elim
 | a :: r, b :: m1, m2, ⟨h1, h2⟩ => by
  obtain ⟨l1, l2, e, h3, h4⟩ := Al.app h2
  exact ⟨a :: l1, l2, by rw [e]; rfl, ⟨h1, h3⟩, h4⟩
theorem Al.append {α β : Type} {P : α → β → Prop} : ∀ {l1 l2 : List α} {m1 m2 : List β}, Al P l1 m1 → Al P l2 m2 → Al P (l1 ++ l2) (m1 ++ m2)
 | [], _, [], _, _, h => h
 | _ :: _, _, _ :: _, _, ⟨a, b⟩, h => ⟨a, Al.append b h⟩
theorem Pt.app {P : Value → Sp.V → Prop} : ∀ {l : List (Lit × DataW Value)} {m1 m2 : List (Lit × Sp.V)}, Pt P l (m1 ++ m2) → ∃ l1 l2, l = l1 ++ l2 ∧ Pt P l1 m1 ∧ Pt P l2 m2
 | l, [], m2, h => ⟨[], l, rfl, trivial, h⟩
 | [], _ :: _, _, h => h.elim
 | a :: r, b :: m1, m2, ⟨h1, h2⟩ => by
  obtain ⟨l1, l2, e, h3, h4⟩ := Pt.app h2
  exact ⟨a :: l1, l2, by rw [e]; rfl, ⟨h1, h3⟩, h4⟩
theorem Pt.append {P : Value → Sp.V → Prop} : ∀ {l1 l2 : List (Lit × DataW Value)} {m1 m2 : List (Lit × Sp.V)}, Pt P l1 m1 → Pt P l2 m2 → Pt P (l1 ++ l2) (m1 ++ m2)
 | [], _, [], _, _, h => h
 | _ :: _, _, _ :: _, _, ⟨a, b⟩, h => ⟨a, Pt.append b h⟩
theorem modify_at {α : Type} (q : α → α) (a : α) (l2 : List α) : ∀ l1 : List α, (l1 ++ a :: l2).modify l1.length q = l1 ++ q a :: l2
 | [] => rfl
 | x :: r => by simp only [List.cons_append, List.length_cons, List.modify_succ_cons, modify_at q a l2 r]
theorem TRep.kid {f i : Nat} {w w' : World} {v : Value} {a c c' : Sp.A} (h : TRep (f + 1) w v a) (hi : (Sp.kids a)[i]? = some c) (hn : (Sp.fp (f + 1) a).Nodup)
  (hk : ∀ k ∈ Sp.fp (f + 1) a, k ∉ Sp.fp f c → w'.heap[k]? = w.heap[k]?) (hc : ∀ u, TRep f w u c → TRep f w' u c') : TRep (f + 1) w' v (Sp.kid a i c') := by
 obtain ⟨b, g, x, rfl, hv, h⟩ := h
 rcases h with ⟨k, h1, h2, rfl, h⟩ | ⟨n, h2, rfl, h, hbd⟩ | ⟨s, h2, rfl, h⟩ | ⟨al, sl, ps, rfl, h, ho, hs, ha⟩ | ⟨es, n, D, rfl, h, ho, hp⟩
 ·rw [Sp.kids_word] at hi; simp at hi
 ·rw [Sp.kids_num] at hi; simp at hi
 ·rw [Sp.kids_str] at hi; simp at hi
 ·rw [Sp.kids_arr] at hi
  obtain ⟨l1, l2, rfl, hl⟩ := flat_split (Sp.fp f) al i c hi
  rw [Sp.fp_arr, List.flatMap_append, List.flatMap_cons] at hn hk
  obtain ⟨q1, q2, rfl, ha1, ha2⟩ := ha.app
  cases q2 with
  | nil => exact ha2.elim
  | cons u q2 =>
   obtain ⟨hu, ha2⟩ := ha2
   rw [Sp.kid_arr, List.set_append_right _ _ (by omega), show i - l1.length = 0 by omega, List.set_cons_zero]
   obtain ⟨n1, n2⟩ := List.nodup_cons.1 hn
   obtain ⟨n3, n4, n5⟩ := List.nodup_append.1 n2
   obtain ⟨n6, n7, n8⟩ := List.nodup_append.1 n4
   obtain ⟨n9, n10, n11⟩ := List.nodup_append.1 n7
   refine ⟨b, g, _, rfl, hv, Or.inr (Or.inr (Or.inr (Or.inl ⟨_, sl, q1 ++ u :: q2, rfl, h.kept (hk b (by simp) fun hb => n1 ?_), owns_kept ho fun g' hg' => hk g' ?_ fun hb => ?_, hs, Al.append (Al.mem (fun u' d hd hu' => TRep.move (fun k hkc => hk k ?_ fun hb => ?_) hu') ha1) ⟨hc u hu, Al.mem (fun u' d hd hu' => TRep.move (fun k hkc => hk k ?_ fun hb => ?_) hu') ha2⟩⟩)))⟩
   ·exact List.mem_append_right _ (List.mem_append_right _ (List.mem_append_left _ hb))
   ·obtain ⟨rfl, h0⟩ := own_if hs hg'
    simp [h0]
   ·obtain ⟨rfl, h0⟩ := own_if hs hg'
    exact n5 g' (by simp [h0]) g' (List.mem_append_right _ (List.mem_append_left _ hb)) rfl
   ·exact List.mem_cons_of_mem _ (List.mem_append_right _ (List.mem_append_left _ (List.mem_flatMap.2 ⟨d, hd, hkc⟩)))
   ·exact n8 k (List.mem_flatMap.2 ⟨d, hd, hkc⟩) k (List.mem_append_left _ hb) rfl
   ·exact List.mem_cons_of_mem _ (List.mem_append_right _ (List.mem_append_right _ (List.mem_append_right _ (List.mem_flatMap.2 ⟨d, hd, hkc⟩))))
   ·exact n11 k hb k (List.mem_flatMap.2 ⟨d, hd, hkc⟩) rfl
 ·rw [Sp.kids_obj] at hi
  rw [List.getElem?_map] at hi
  obtain ⟨⟨key, c2⟩, hi2, rfl⟩ := Option.map_eq_some_iff.1 hi
  obtain ⟨l1, l2, rfl, hl⟩ := flat_split (fun p => Sp.fp f p.2) es i _ hi2
  rw [Sp.fp_obj, List.flatMap_append, List.flatMap_cons] at hn hk
  obtain ⟨q1, q2, rfl, ha1, ha2⟩ := hp.app
  cases q2 with
  | nil => exact ha2.elim
  | cons u q2 =>
   obtain ⟨⟨ku, xu, eu, hu⟩, ha2⟩ := ha2
   have em : (l1 ++ (key, c2) :: l2).modify i (fun p => (p.1, c')) = l1 ++ (key, c') :: l2 := by
    rw [← hl]; exact modify_at _ _ _ _
   rw [Sp.kid_obj, em]
   obtain ⟨n1, n2⟩ := List.nodup_cons.1 hn
   obtain ⟨n3, n4⟩ := List.nodup_cons.1 n2
   obtain ⟨n6, n7, n8⟩ := List.nodup_append.1 n4
   obtain ⟨n9, n10, n11⟩ := List.nodup_append.1 n7
   refine ⟨b, g, _, rfl, hv, Or.inr (Or.inr (Or.inr (Or.inr ⟨_, n, q1 ++ u :: q2, rfl, h.kept (hk b (by simp) fun hb => n1 ?_), map_kept ho (hk g (by simp) fun hb => n3 ?_), Pt.append (Pt.mem (fun u' d hd hu' => TRep.move (fun k hkc => hk k ?_ fun hb => ?_) hu') ha1) ⟨⟨ku, xu, eu, hc xu hu⟩, Pt.mem (fun u' d hd hu' => TRep.move (fun k hkc => hk k ?_ fun hb => ?_) hu') ha2⟩⟩)))⟩
   ·exact List.mem_cons_of_mem _ (List.mem_append_right _ (List.mem_append_left _ hb))
   ·exact List.mem_append_right _ (List.mem_append_left _ hb)
   ·exact List.mem_cons_of_mem _ (List.mem_cons_of_mem _ (List.mem_append_left _ (List.mem_flatMap.2 ⟨d, hd, hkc⟩)))
   ·exact n8 k (List.mem_flatMap.2 ⟨d, hd, hkc⟩) k (List.mem_append_left _ hb) rfl
   ·exact List.mem_cons_of_mem _ (List.mem_cons_of_mem _ (List.mem_append_right _ (List.mem_append_right _ (List.mem_flatMap.2 ⟨d, hd, hkc⟩))))
   ·exact n11 k hb k (List.mem_flatMap.2 ⟨d, hd, hkc⟩) rfl
end Go.Proofs.YtdpomdelmdofmaaGreatDoor
