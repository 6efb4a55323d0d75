/-
  Walk of the program's Same, but for arrays and objects.
-/
import Derived.Test.YtdpomdelmdofmaaGreatDoorPart21
import Derived.Maps.Range
import Derived.Test.YtdpomdelmdofmaaGreatDoorPart22
import Derived.Test.YtdpomdelmdofmaaGreatDoorPart19
import Derived.Test.YtdpomdelmdofmaaGreatDoorPart16
import Derived.Test.YtdpomdelmdofmaaGreatDoorPart24
namespace Go.Proofs.YtdpomdelmdofmaaGreatDoor
open Go.RowKit
theorem owns_cell1 {w : World} {B e n : Nat} {v : Value} {xs : List Value} (h : w.ownsRow B e 1 v n xs) (hpos : 0 < n) : ∃ g cap, v = .slice (some ⟨g, 0, none⟩) n cap ∧ n ≤ cap ∧ cap ≤ maxLen ∧ g < w.heap.size ∧ ∀ k (hk : k < xs.length), w.cell? ⟨g, k, none⟩ = some xs[k] := by
 obtain ⟨hlen, h⟩ := h
 rcases h with ⟨_, h0⟩ | ⟨g, cap, cur, h1, _, h3, h4, h5, h6, h7⟩
 ·omega
 ·refine ⟨g, cap, h1, h4, h5, (Array.getElem?_eq_some_iff.1 h3).1, fun k hk => ?_⟩
  have hkc : k < cur.size := by rw [h6]; omega
  have e : w.cell? ⟨g, k, none⟩ = cur[k]? := by simp [World.cell?, h3]
  rw [e, Array.getElem?_eq_getElem hkc]
  congr 1
  have h8 : xs[k]? = some cur[k] := by
   rw [← h7, List.getElem?_take, if_pos (by omega)]
   simp
  rw [List.getElem?_eq_getElem hk] at h8
  exact (Option.some.inj h8).symm
section
variable {w : World} {b b' : Nat}
set_option maxHeartbeats 4000000 in
theorem same_diff {k k' : Int} {n n' : Sp.Nm} {s s' : Sp.By} {sl sl' mp mp' : Value} (h : VB w b k n s sl mp) (h' : VB w b' k' n' s' sl' mp') (hk : k ≠ k') :
  Calls Tryz.prog 82 #[.pointer (some ⟨b, 0, none⟩), .pointer (some ⟨b', 0, none⟩)] w fun e w' => e = .returned (.bool false) ∧ Below w.heap.size w w' := by
 have c0 := h.c0
 have d0 := h'.c0
 have e0 : (k == k') = false := beq_eq_false_iff_ne.2 hk
 have e1 : (k != k') = true := by simpa using hk
 clear h h' hk
 go_enter Tryz.func82, Tryz.ntmps82
 go_wp2_with (fail)
 go_quiet (fail)
 go_wp2_with (fail)
 go_ret
 exact ⟨rfl, ⟨rfl, rfl, rfl, Nat.le_refl _, fun _ _ => rfl⟩⟩
set_option maxHeartbeats 4000000 in
theorem same_word {k : Nat} (hk : k < 3) {n n' : Sp.Nm} {s s' : Sp.By} {sl sl' mp mp' : Value} (h : VB w b k n s sl mp) (h' : VB w b' k n' s' sl' mp') :
  Calls Tryz.prog 82 #[.pointer (some ⟨b, 0, none⟩), .pointer (some ⟨b', 0, none⟩)] w fun e w' => e = .returned (.bool true) ∧ Below w.heap.size w w' := by
 have c0 := h.c0
 have d0 := h'.c0
 clear h h'
 have e3 : ((k : Int) == 3) = false := by rw [beq_eq_false_iff_ne]; omega
 have e4 : ((k : Int) == 4) = false := by rw [beq_eq_false_iff_ne]; omega
 have e5 : ((k : Int) == 5) = false := by rw [beq_eq_false_iff_ne]; omega
 have e6 : ((k : Int) == 6) = false := by rw [beq_eq_false_iff_ne]; omega
 go_enter Tryz.func82, Tryz.ntmps82
 go_wp2_with (fail)
 go_quiet (fail)
 go_wp2_with (fail)
 go_ret
 exact ⟨rfl, ⟨rfl, rfl, rfl, Nat.le_refl _, fun _ _ => rfl⟩⟩
set_option maxHeartbeats 4000000 in
theorem same_str {n n' : Sp.Nm} {s s' : Sp.By} {sl sl' mp mp' : Value} (h : VB w b 4 n s sl mp) (h' : VB w b' 4 n' s' sl' mp') :
  Calls Tryz.prog 82 #[.pointer (some ⟨b, 0, none⟩), .pointer (some ⟨b', 0, none⟩)] w fun e w' => e = .returned (.bool (s == s')) ∧ Below w.heap.size w w' := by
 have c0 := h.c0
 have d0 := h'.c0
 have c4 := h.c4
 have d4 := h'.c4
 clear h h'
 go_enter Tryz.func82, Tryz.ntmps82
 go_wp2_with (fail)
 go_quiet (fail)
 go_wp2_with (fail)
 go_quiet (fail)
 go_wp2_with (fail)
 go_ret
 exact ⟨by first | rfl | simp, ⟨rfl, rfl, rfl, Nat.le_refl _, fun _ _ => rfl⟩⟩
set_option maxHeartbeats 4000000 in
theorem same_num {n n' : Sp.Nm} {s s' : Sp.By} {sl sl' mp mp' : Value} (h : VB w b 3 n s sl mp) (h' : VB w b' 3 n' s' sl' mp') :
  Calls Tryz.prog 82 #[.pointer (some ⟨b, 0, none⟩), .pointer (some ⟨b', 0, none⟩)] w fun e w' => e = .returned (.bool (decide (n = n'))) ∧ Below w.heap.size w w' := by
 have c0 := h.c0
 have d0 := h'.c0
 have c1 := h.c1
 have d1 := h'.c1
 have c2 := h.c2
 have d2 := h'.c2
 have c3 := h.c3
 have d3 := h'.c3
 clear h h'
 obtain ⟨na, nb, nc⟩ := n
 obtain ⟨na', nb', nc'⟩ := n'
 simp only at c1 c2 c3 d1 d2 d3
 by_cases h2 : nb = nb'
 ·have f2 : (nb == nb') = true := beq_iff_eq.2 h2
  by_cases h3 : nc = nc'
  ·have f3 : (nc == nc') = true := beq_iff_eq.2 h3
   subst h2
   subst h3
   cases na <;> cases na'
   all_goals (
    go_enter Tryz.func82, Tryz.ntmps82
    go_wp2_with (fail)
    go_quiet (fail)
    go_wp2_with (fail)
    go_quiet (fail)
    go_wp2_with (fail)
    go_ret
    exact ⟨by simp, ⟨rfl, rfl, rfl, Nat.le_refl _, fun _ _ => rfl⟩⟩)
  ·have f3 : (nc == nc') = false := beq_eq_false_iff_ne.2 h3
   subst h2
   have H3 := hide h3
   clear h3
   cases na <;> cases na'
   all_goals (
    go_enter Tryz.func82, Tryz.ntmps82
    go_wp2_with (fail)
    go_quiet (fail)
    go_wp2_with (fail)
    go_quiet (fail)
    go_wp2_with (fail)
    go_ret
    exact ⟨by have := unhide H3; simp [this], ⟨rfl, rfl, rfl, Nat.le_refl _, fun _ _ => rfl⟩⟩)
 ·have f2 : (nb == nb') = false := beq_eq_false_iff_ne.2 h2
  have H2 := hide h2
  clear h2
  cases na <;> cases na'
  all_goals (
   go_enter Tryz.func82, Tryz.ntmps82
   go_wp2_with (fail)
   go_quiet (fail)
   go_wp2_with (fail)
   go_quiet (fail)
   go_wp2_with (fail)
   go_ret
   exact ⟨by have := unhide H2; simp [this], ⟨rfl, rfl, rfl, Nat.le_refl _, fun _ _ => rfl⟩⟩)
end
end Go.Proofs.YtdpomdelmdofmaaGreatDoor

namespace Go.Proofs.YtdpomdelmdofmaaGreatDoor
open Go.RowKit
def SB (w : World) (S : Nat) (d e n : Int) (p : Value) : Prop := w.heap[S]? = some (.cells #[.int .i64 d, .int .i64 e, .int .i64 n, p] 62 (0, 0))
section
variable {w : World} {S : Nat} {d e n : Int} {p : Value}
theorem SB.lt (h : SB w S d e n p) : S < w.heap.size := (Array.getElem?_eq_some_iff.1 h).1
theorem SB.c0 (h : SB w S d e n p) : w.cell? ⟨S, 0, none⟩ = some (.int .i64 d) := by simp [World.cell?, show w.heap[S]? = _ from h]
theorem SB.c1 (h : SB w S d e n p) : w.cell? ⟨S, 1, none⟩ = some (.int .i64 e) := by simp [World.cell?, show w.heap[S]? = _ from h]
theorem SB.c2 (h : SB w S d e n p) : w.cell? ⟨S, 2, none⟩ = some (.int .i64 n) := by simp [World.cell?, show w.heap[S]? = _ from h]
theorem SB.c3 (h : SB w S d e n p) : w.cell? ⟨S, 3, none⟩ = some p := by simp [World.cell?, show w.heap[S]? = _ from h]
theorem SB.fz (h : SB w S d e n p) (o : Nat) : w.frozen? ⟨S, o, none⟩ = false := by simp [World.frozen?, show w.heap[S]? = _ from h]
theorem SB.low {w' : World} (h : SB w S d e n p) (hb : Below w.heap.size w w') : SB w' S d e n p := (hb.block S h.lt).trans h
theorem SB.set3 (h : SB w S d e n p) (q : Value) : SB (w.setCell ⟨S, 3, none⟩ q) S d e n q := by
 simp only [SB, World.setCell, Array.getElem?_modify]
 rw [if_pos trivial, show w.heap[S]? = _ from h]; rfl
end
def DB (w : World) (D : Nat) (rp jn : Value) (ch : Bool) (iv : Value) : Prop := w.heap[D]? = some (.cells #[rp, jn, .bool ch, iv] 115 (0, 0))
section
variable {w : World} {D : Nat} {rp jn iv : Value} {ch : Bool}
theorem DB.lt (h : DB w D rp jn ch iv) : D < w.heap.size := (Array.getElem?_eq_some_iff.1 h).1
theorem DB.c0 (h : DB w D rp jn ch iv) : w.cell? ⟨D, 0, none⟩ = some rp := by simp [World.cell?, show w.heap[D]? = _ from h]
theorem DB.c1 (h : DB w D rp jn ch iv) : w.cell? ⟨D, 1, none⟩ = some jn := by simp [World.cell?, show w.heap[D]? = _ from h]
theorem DB.c2 (h : DB w D rp jn ch iv) : w.cell? ⟨D, 2, none⟩ = some (.bool ch) := by simp [World.cell?, show w.heap[D]? = _ from h]
theorem DB.c3 (h : DB w D rp jn ch iv) : w.cell? ⟨D, 3, none⟩ = some iv := by simp [World.cell?, show w.heap[D]? = _ from h]
theorem DB.kept (h : DB w D rp jn ch iv) {w' : World} (hk : w'.heap[D]? = w.heap[D]?) : DB w' D rp jn ch iv := hk.trans h
end
def OneP (w : World) (g : Nat) (wp : Value) : Prop := w.heap[g]? = some (.cells #[wp] 80 (0, 0))
theorem OneP.lt {w : World} {g : Nat} {wp : Value} (h : OneP w g wp) : g < w.heap.size := (Array.getElem?_eq_some_iff.1 h).1
theorem OneP.c0 {w : World} {g : Nat} {wp : Value} (h : OneP w g wp) : w.cell? ⟨g, 0, none⟩ = some wp := by simp [World.cell?, show w.heap[g]? = _ from h]
theorem ownsN_kept {w w' : World} {B e n q : Nat} {v : Value} {xs : List Value} (h : w.ownsRow B e q v n xs) (hk : ∀ g, v.ownBlock = some g → w'.heap[g]? = w.heap[g]?) : w'.ownsRow B e q v n xs := by
 refine ⟨h.1, h.2.imp id ?_⟩
 rintro ⟨g, cap, cur, h1, h2, h3, h4⟩
 exact ⟨g, cap, cur, h1, h2, (hk g (by rw [h1]; rfl)).trans h3, h4⟩
theorem ownsN_lt {w : World} {B e n q : Nat} {v : Value} {xs : List Value} (h : w.ownsRow B e q v n xs) (g : Nat) (hg : v.ownBlock = some g) : g < w.heap.size ∧ B ≤ g := by
 rcases h.2 with ⟨h1, _⟩ | ⟨g', cap, cur, h1, h2, h3, _⟩
 ·rw [h1] at hg; cases hg
 ·rw [h1] at hg; injection hg with hg; subst hg; exact ⟨(Array.getElem?_eq_some_iff.1 h3).1, h2⟩
def TokG (w : World) (G : Nat → Prop) (v : Value) (l : List Sp.By) : Prop :=
 (l = [] ∧ ∃ a c, v = .slice a 0 c ∧ c ≤ maxLen) ∨ ∃ g o cap, v = .slice (some ⟨g, o, none⟩) l.length cap ∧ l.length ≤ cap ∧ cap ≤ maxLen ∧ G g ∧ TokAt w g o l
theorem TokG.toks {w : World} {G : Nat → Prop} {v : Value} {l : List Sp.By} (h : TokG w G v l) : Toks w v l := by
 rcases h with h | ⟨g, o, cap, h1, h2, h3, _, h4⟩
 ·exact Or.inl h
 ·exact Or.inr ⟨g, o, cap, h1, h2, h3, h4⟩
theorem TokAt.move {w w' : World} {g o : Nat} {l : List Sp.By} (h : TokAt w g o l) (hk : w'.heap[g]? = w.heap[g]?) : TokAt w' g o l := by
 refine ⟨?_, fun k hkl => (World.cell?_of_block (a := ⟨g, o + k, none⟩) hk).trans (h.2 k hkl)⟩
 have h1 : w.heap[g]? = some (w.heap[g]'h.1) := Array.getElem?_eq_getElem h.1
 rw [h1] at hk
 exact (Array.getElem?_eq_some_iff.1 hk).1
theorem TokG.move {w w' : World} {G G' : Nat → Prop} {v : Value} {l : List Sp.By} (h : TokG w G v l) (hk : ∀ k, G k → k < w.heap.size → w'.heap[k]? = w.heap[k]? ∧ G' k) : TokG w' G' v l := by
 rcases h with h | ⟨g, o, cap, h1, h2, h3, hg, h4⟩
 ·exact Or.inl h
 ·have := hk g hg h4.1
  exact Or.inr ⟨g, o, cap, h1, h2, h3, this.2, h4.move this.1⟩
theorem Toks.tokG {w : World} {v : Value} {l : List Sp.By} (h : Toks w v l) {G : Nat → Prop} (hG : ∀ g o cap n, v = .slice (some ⟨g, o, none⟩) n cap → G g) : TokG w G v l := by
 rcases h with h | ⟨g, o, cap, h1, h2, h3, h4⟩
 ·exact Or.inl h
 ·exact Or.inr ⟨g, o, cap, h1, h2, h3, hG _ _ _ _ h1, h4⟩
def OpnR (w : World) (G : Nat → Prop) (kv pv fv vv : Value) (o : Sp.Opn) : Prop :=
 kv = .int .i64 o.1 ∧ o.1 < 3 ∧ TokG w G pv o.2.1 ∧ fv = .slice none 0 0 ∧ ((o.1 = 1 ∧ vv = .pointer none) ∨ (o.1 ≠ 1 ∧ Rep top G w vv o.2.2))
theorem OpnR.move {w w' : World} {G G' : Nat → Prop} {kv pv fv vv : Value} {o : Sp.Opn} (h : OpnR w G kv pv fv vv o) (hk : ∀ k, G k → k < w.heap.size → w'.heap[k]? = w.heap[k]? ∧ G' k) : OpnR w' G' kv pv fv vv o :=
 ⟨h.1, h.2.1, h.2.2.1.move hk, h.2.2.2.1, h.2.2.2.2.imp id fun ⟨a, b⟩ => ⟨a, b.move hk⟩⟩
def Opns (w : World) (G : Nat → Prop) : List Value → List Sp.Opn → Prop
 | [], [] => True
 | kv :: pv :: fv :: vv :: r, o :: s => OpnR w G kv pv fv vv o ∧ Opns w G r s
 | _, _ => False
theorem Opns.move {w w' : World} {G G' : Nat → Prop} (hk : ∀ k, G k → k < w.heap.size → w'.heap[k]? = w.heap[k]? ∧ G' k) : ∀ {xs : List Value} {j : List Sp.Opn}, Opns w G xs j → Opns w' G' xs j
 | [], [], _ => trivial
 | _ :: _ :: _ :: _ :: _, _ :: _, ⟨a, b⟩ => ⟨a.move hk, Opns.move hk b⟩
def OpsR (w : World) (G : Nat → Prop) (iv : Value) (j : List Sp.Opn) : Prop := ∃ xs, w.ownsRow 0 178 4 iv j.length xs ∧ (∀ g, iv.ownBlock = some g → G g) ∧ Opns w G xs j
theorem OpsR.move {w w' : World} {G G' : Nat → Prop} {iv : Value} {j : List Sp.Opn} (h : OpsR w G iv j) (hk : ∀ k, G k → k < w.heap.size → w'.heap[k]? = w.heap[k]? ∧ G' k) : OpsR w' G' iv j := by
 obtain ⟨xs, h1, h2, h3⟩ := h
 exact ⟨xs, ownsN_kept h1 fun g hg => (hk g (h2 g hg) (ownsN_lt h1 g hg).1).1, fun g hg => (hk g (h2 g hg) (ownsN_lt h1 g hg).1).2, h3.move hk⟩
def InvR (w : World) (G : Nat → Prop) (iv : Value) : Sp.Inv → Prop
 | none => iv = .slice none 0 0
 | some j => OpsR w G iv j ∧ (Sp.ptext j).length ≤ 8796093022208
theorem InvR.move {w w' : World} {G G' : Nat → Prop} {iv : Value} {j : Sp.Inv} (h : InvR w G iv j) (hk : ∀ k, G k → k < w.heap.size → w'.heap[k]? = w.heap[k]? ∧ G' k) : InvR w' G' iv j := by
 cases j with
 | none => exact h
 | some j => exact ⟨h.1.move hk, h.2⟩
structure DocT (w : World) (D R : Nat) (wp jn iv : Value) (ch : Bool) (T a : Sp.A) (x : Sp.V) : Prop where
 db : DB w D (.pointer (some ⟨R, 0, none⟩)) jn ch iv
 tr : TRep (top + 1) w (.pointer (some ⟨R, 0, none⟩)) T
 one : ∃ g, T = Sp.nd R g (.slice [a] [])
 sub : TRep top w wp a
 str : Sp.str top a = x
 nd : (Sp.fp (top + 1) T).Nodup
 nD : D ∉ Sp.fp (top + 1) T
theorem DocT.move {w w' : World} {D R : Nat} {wp jn iv : Value} {ch : Bool} {T a : Sp.A} {x : Sp.V} (h : DocT w D R wp jn iv ch T a x) (hD : w'.heap[D]? = w.heap[D]?) (hk : ∀ k ∈ Sp.fp (top + 1) T, w'.heap[k]? = w.heap[k]?) : DocT w' D R wp jn iv ch T a x := by
 obtain ⟨g, e⟩ := h.one
 refine ⟨h.db.kept hD, h.tr.move hk, h.one, h.sub.move fun k hka => hk k ?_, h.str, h.nd, h.nD⟩
 rw [e, Sp.fp_arr]
 exact List.mem_cons_of_mem _ (List.mem_append_right _ (by simpa using hka))
theorem DocT.row {w : World} {D R : Nat} {wp jn iv : Value} {ch : Bool} {T a : Sp.A} {x : Sp.V} (h : DocT w D R wp jn iv ch T a x) : ∃ sl, VB w R 5 n0 [] sl (.map none) ∧ w.ownsRow 0 80 1 sl 1 [wp] := by
 obtain ⟨g, e⟩ := h.one
 have ht := h.tr
 rw [e] at ht
 obtain ⟨b2, g2, x2, e2, hv, ht⟩ := ht
 unfold Sp.nd at e2; injection e2 with e2; injection e2 with e3 e2; injection e2 with e4 e2; injection e2 with e5 _
 injection e3 with e3; injection e3 with _ e3
 rcases ht with ⟨j, _, _, rfl, _⟩ | ⟨n, _, rfl, _⟩ | ⟨s, _, rfl, _⟩ | ⟨al, sl, ps, rfl, hvb, ho, hs, ha⟩ | ⟨es, n, D, rfl, _⟩
 ·cases e5
 ·cases e5
 ·cases e5
 ·injection e5 with e5 _
  subst e5
  obtain rfl : R = b2 := by omega
  cases ps with
  | nil => exact ha.elim
  | cons u r =>
   obtain ⟨hu, ha⟩ := ha
   cases r with
   | nil =>
    obtain rfl := hu.uniq h.sub
    exact ⟨sl, hvb, ho⟩
   | cons _ _ => exact ha.elim
 ·cases e5
structure DocW (w : World) (F : Nat → Prop) (D R : Nat) (wp : Value) (d e : Int) (v : Sp.V × Sp.Inv) : Prop where
 ex : ∃ T a iv, DocT w D R wp (.slice none 0 0) iv v.2.isSome T a v.1 ∧ (∀ k ∈ Sp.fp (top + 1) T, F k) ∧ InvR w (fun k => F k ∧ k ≠ D ∧ k ∉ Sp.fp (top + 1) T) iv v.2
 fD : F D
 len : (Sp.can top v.1).length ≤ 80000
 gd : Sp.gd d e top 1 v.1
theorem DocW.move {w w' : World} {F F' : Nat → Prop} {D R : Nat} {wp : Value} {d e : Int} {v : Sp.V × Sp.Inv} (h : DocW w F D R wp d e v) (hF : ∀ k, F k → k < w.heap.size → w'.heap[k]? = w.heap[k]? ∧ F' k) : DocW w' F' D R wp d e v := by
 obtain ⟨T, a, iv, h1, h2, h3⟩ := h.ex
 have hlt := h1.tr.lt
 refine ⟨⟨T, a, iv, h1.move (hF D h.fD h1.db.lt).1 fun k hk => (hF k (h2 k hk) (hlt k hk)).1, fun k hk => (hF k (h2 k hk) (hlt k hk)).2, h3.move fun k hk hkl => ?_⟩, (hF D h.fD h1.db.lt).2, h.len, h.gd⟩
 obtain ⟨g1, g2, g3⟩ := hk
 exact ⟨(hF k g1 hkl).1, (hF k g1 hkl).2, g2, g3⟩
theorem DocW.rep {w : World} {F : Nat → Prop} {D R : Nat} {wp : Value} {d e : Int} {v : Sp.V × Sp.Inv} (h : DocW w F D R wp d e v) : Rep top F w wp v.1 := by
 obtain ⟨T, a, iv, h1, h2, h3⟩ := h.ex
 obtain ⟨g, eT⟩ := h1.one
 rw [← h1.str]
 refine h1.sub.rep fun k hk => h2 k ?_
 rw [eT, Sp.fp_arr]
 exact List.mem_cons_of_mem _ (List.mem_append_right _ (by simpa using hk))
def DocF (w : World) (F : Nat → Prop) (p : Value) (d e : Int) : Sp.Doc → Prop
 | none => p = .pointer none
 | some v => ∃ D R wp, p = .pointer (some ⟨D, 0, none⟩) ∧ DocW w F D R wp d e v
theorem DocF.move {w w' : World} {F F' : Nat → Prop} {p : Value} {d e : Int} {doc : Sp.Doc} (h : DocF w F p d e doc) (hF : ∀ k, F k → k < w.heap.size → w'.heap[k]? = w.heap[k]? ∧ F' k) : DocF w' F' p d e doc := by
 cases doc with
 | none => exact h
 | some v =>
  obtain ⟨D, R, wp, hp, h⟩ := h
  exact ⟨D, R, wp, hp, h.move hF⟩
theorem Laid.drew {w : World} (h : Laid w) : Laid w.drew := ⟨h.ng, h.esc, h.words, h.utf8, h.pow, h.pesc, h.rng, h.mx⟩
def NewEnd (wp : Value) (w : World) (x : Ending) (w' : World) : Prop := ∃ D R g, x = .returned (.pointer (some ⟨D, 0, none⟩)) ∧ Below w.heap.size w w' ∧ w.heap.size ≤ D ∧ w.heap.size ≤ R ∧ w.heap.size ≤ g ∧ D ≠ R ∧ D ≠ g ∧ R ≠ g ∧
 DB w' D (.pointer (some ⟨R, 0, none⟩)) (.slice none 0 0) false (.slice none 0 0) ∧ VB w' R 5 n0 [] (.slice (some ⟨g, 0, none⟩) 1 1) (.map none) ∧ OneP w' g wp
set_option maxHeartbeats 2000000 in
theorem New_any (p : Option Addr) (w : World) : Calls Tryz.prog 54 #[.pointer p] w fun x w' => NewEnd (.pointer p) w x w' := by
 go_enter Tryz.func54, Tryz.ntmps54
 go_wp2_with (fail)
 go_ret
 refine ⟨w.heap.size + 1 + 1, w.heap.size + 1, w.heap.size, rfl, ?_, by omega, by omega, by omega, by omega, by omega, by omega, ?_, ?_, ?_⟩
 ·exact (((Below.refl _ w).alloc (Nat.le_refl _) _).alloc (by simp) _).alloc (by simp; omega) _
 ·show (((w.heap.push _).push _).push _)[w.heap.size + 1 + 1]? = _
  simp only [Array.getElem?_push, Array.size_push]
  rw [if_pos trivial]
 ·show (((w.heap.push _).push _).push _)[w.heap.size + 1]? = _
  simp only [Array.getElem?_push, Array.size_push]
  rw [if_neg (by omega), if_pos trivial]
 ·show (((w.heap.push _).push _).push _)[w.heap.size]? = _
  simp only [Array.getElem?_push, Array.size_push]
  rw [if_neg (by omega), if_neg (by omega), if_pos trivial]
set_option maxHeartbeats 2000000 in
theorem WholeT {w : World} {D R : Nat} {wp jn iv : Value} {ch : Bool} {T a : Sp.A} {x : Sp.V} (h : DocT w D R wp jn iv ch T a x) : Calls Tryz.prog 56 #[.pointer (some ⟨D, 0, none⟩)] w fun x w' => x = .returned wp ∧ Below w.heap.size w w' := by
 obtain ⟨sl, hvb, ho⟩ := h.row
 have c0 := h.db.c0
 have c5 := hvb.c5
 obtain ⟨g, cap, rfl, a1, a2, a3, hc⟩ := owns_cell1 ho (Nat.zero_lt_one)
 have cg : w.cell? ⟨g, 0, none⟩ = some wp := hc 0 Nat.zero_lt_one
 clear h ho hc
 go_enter Tryz.func56, Tryz.ntmps56
 go_wp2_with (fail)
 go_ret
 exact ⟨rfl, Below.refl _ _⟩
theorem Whole_any {w : World} {F : Nat → Prop} {D R : Nat} {wp : Value} {d e : Int} {v : Sp.V × Sp.Inv} (h : DocW w F D R wp d e v) : Calls Tryz.prog 56 #[.pointer (some ⟨D, 0, none⟩)] w fun x w' => x = .returned wp ∧ Below w.heap.size w w' := by
 obtain ⟨T, a, iv, h1, _⟩ := h.ex
 exact WholeT h1
theorem Read_tr (s : Sp.By) (d e : Int) (w : World) (hT : Laid w) :
  Calls Tryz.prog 77 #[.string ⟨s.toArray⟩, .int .i64 d, .int .i64 e] w fun x w' => ∃ (p : Option Addr) (c : Nat), x = .returned (.tuple #[.pointer p, .int .i64 c]) ∧ Below w.heap.size w w' ∧
   ((0 < c ∧ Sp.readTo s d e = (c, none)) ∨ (c = 0 ∧ ∃ v, Sp.readTo s d e = (0, some v) ∧ Tr top w.heap.size w' (.pointer p) v)) := by
 refine (Read_any ⟨s.toArray⟩ d e w hT).mono ?_
 rintro x w' ⟨hb, hc⟩
 rcases hc with ⟨c, h1, h2, rfl⟩ | ⟨v, p, h1, rfl, h2⟩
 ·exact ⟨none, c, rfl, hb, Or.inl ⟨h2, h1⟩⟩
 ·exact ⟨some p, 0, rfl, hb, Or.inr ⟨rfl, v, h1, h2⟩⟩
set_option maxHeartbeats 2000000 in
theorem sread_tr {S : Nat} {d e n : Int} {p : Value} {w : World} (s : Sp.By) (h : SB w S d e n p) (hT : Laid w) :
  Calls Tryz.prog 53 #[.pointer (some ⟨S, 0, none⟩), .string ⟨s.toArray⟩] w fun x w' => ∃ (p : Option Addr) (c : Nat), x = .returned (.tuple #[.pointer p, .int .i64 c]) ∧ Below w.heap.size w w' ∧
   ((0 < c ∧ Sp.readTo s d e = (c, none)) ∨ (c = 0 ∧ ∃ v, Sp.readTo s d e = (0, some v) ∧ Tr top w.heap.size w' (.pointer p) v)) := by
 have c0 := h.c0
 have c1 := h.c1
 have HR := hide (fun (w0 : World) (hT : Laid w0) => Read_tr s d e w0 hT)
 have HT := hide hT
 clear hT h
 go_enter Tryz.func53, Tryz.ntmps53
 go_wp2_with (fail)
 go_region_with (go_at_call 77; refine (unhide HR _ ?_).mono ?_; exact (unhide HT).drew; rintro x w2 ⟨p2, c, rfl, hb2, hc⟩)
 all_goals (
  replace hb2 : Below w.heap.size w w2 := ⟨hb2.os, hb2.tape, hb2.output, hb2.size, hb2.block⟩
  replace hc : (0 < c ∧ Sp.readTo s d e = (c, none)) ∨ (c = 0 ∧ ∃ v, Sp.readTo s d e = (0, some v) ∧ Tr top w.heap.size w2 (.pointer p2) v) := hc
  have HB := hide hb2
  have HC := hide hc
  clear hb2 hc
  go_wp2_with (fail)
  go_ret2
  exact ⟨p2, c, rfl, unhide HB, unhide HC⟩)
theorem sread_any {S : Nat} {d e n : Int} {p : Value} {w : World} (s : Sp.By) (h : SB w S d e n p) (hT : Laid w) :
  Calls Tryz.prog 53 #[.pointer (some ⟨S, 0, none⟩), .string ⟨s.toArray⟩] w fun x w' => ∃ (p : Option Addr) (c : Nat), x = .returned (.tuple #[.pointer p, .int .i64 c]) ∧ Below w.heap.size w w' ∧
   ((0 < c ∧ Sp.readTo s d e = (c, none)) ∨ (c = 0 ∧ ∃ v, Sp.readTo s d e = (0, some v) ∧ Rep top (fun k => w.heap.size ≤ k) w' (.pointer p) v)) := by
 refine (sread_tr s h hT).mono ?_
 rintro x w' ⟨p, c, h1, h2, h3⟩
 exact ⟨p, c, h1, h2, h3.imp id fun ⟨a, v, b, c⟩ => ⟨a, v, b, c.rep⟩⟩
def AB (w : World) (g : Nat) : Prop := w.heap[g]? = some (.cells #[.int .i64 0, .int .i64 0, .string ⟨#[]⟩] 46 (0, 0))
section
variable {w : World} {g : Nat}
theorem AB.lt (h : AB w g) : g < w.heap.size := (Array.getElem?_eq_some_iff.1 h).1
theorem AB.c0 (h : AB w g) : w.cell? ⟨g, 0, none⟩ = some (.int .i64 0) := by simp [World.cell?, show w.heap[g]? = _ from h]
theorem AB.c1 (h : AB w g) : w.cell? ⟨g, 1, none⟩ = some (.int .i64 0) := by simp [World.cell?, show w.heap[g]? = _ from h]
theorem AB.c2 (h : AB w g) : w.cell? ⟨g, 2, none⟩ = some (.string ⟨#[]⟩) := by simp [World.cell?, show w.heap[g]? = _ from h]
theorem AB.fz (h : AB w g) (o : Nat) : w.frozen? ⟨g, o, none⟩ = false := by simp [World.frozen?, show w.heap[g]? = _ from h]
theorem AB.low {w' : World} (h : AB w g) (hb : Below w.heap.size w w') : AB w' g := (hb.block g h.lt).trans h
theorem AB.new (w : World) : AB (w.alloc (.cells #[.int .i64 0, .int .i64 0, .string ⟨#[]⟩] 46)) w.heap.size := by
 show (w.heap.push _)[w.heap.size]? = _
 simp
end
theorem below_set {B : Nat} {w w' : World} (h : Below B w w') (b o : Nat) (hb : B ≤ b) (u : Value) : Below B w (w'.setCell ⟨b, o, none⟩ u) := h.setCell (by exact hb) u
theorem doc_new {w0 w3 : World} {lo D R g : Nat} {p2 : Option Addr} {v : Sp.V} {d e : Int} {s : Sp.By} {F : Nat → Prop} (hng : 0 < lo) (hlo : lo ≤ w0.heap.size) (hrep : Tr top lo w0 (.pointer p2) v) (hb : Below w0.heap.size w0 w3) (hD : w0.heap.size ≤ D) (hR : w0.heap.size ≤ R) (hg : w0.heap.size ≤ g) (hDR : D ≠ R) (hDg : D ≠ g) (hRg : R ≠ g)
  (hF : ∀ k, lo ≤ k → k < w0.heap.size → F k) (fD : F D) (fR : F R) (fg : F g)
  (hdb : DB w3 D (.pointer (some ⟨R, 0, none⟩)) (.slice none 0 0) false (.slice none 0 0)) (hrb : VB w3 R 5 n0 [] (.slice (some ⟨g, 0, none⟩) 1 1) (.map none)) (hgb : OneP w3 g (.pointer p2)) (hrd : Sp.readTo s d e = (0, some v)) :
  DocW w3 F D R (.pointer p2) d e (v, none) := by
 obtain ⟨a, h1, h2, h3, h4⟩ := hrep
 have h5 := h1.lt
 have h6 : TRep top w3 (.pointer p2) a := h1.move fun k hk => hb.block k (h5 k hk)
 have ef : Sp.fp (top + 1) (Sp.nd R g (.slice [a] [])) = R :: ([g] ++ Sp.fp top a) := by
  rw [Sp.fp_arr, if_neg (by omega)]; simp
 refine ⟨⟨Sp.nd R g (.slice [a] []), a, .slice none 0 0, ⟨hdb, ?_, ⟨g, rfl⟩, h6, h2, ?_, ?_⟩, ?_, rfl⟩, fD, read_bd hrd top, read_gd hrd⟩
 ·refine ⟨R, g, _, rfl, rfl, Or.inr (Or.inr (Or.inr (Or.inl ⟨[a], _, [.pointer p2], rfl, hrb, ⟨rfl, Or.inr ⟨g, 1, #[.pointer p2], rfl, Nat.zero_le _, hgb, Nat.le_refl _, by unfold maxLen; omega, rfl, rfl⟩⟩, ?_, ⟨h6, trivial⟩⟩)))⟩
  rw [if_neg (by omega)]; rfl
 ·rw [ef]
  refine List.nodup_cons.2 ⟨fun hm => ?_, List.nodup_cons.2 ⟨fun hm => ?_, h3⟩⟩
  ·rcases List.mem_cons.1 hm with e | hm
   ·exact hRg e
   ·have := h5 R hm; omega
  ·have := h5 g hm; omega
 ·rw [ef]
  intro hm
  rcases List.mem_cons.1 hm with e | hm
  ·exact hDR e
  ·rcases List.mem_cons.1 hm with e | hm
   ·exact hDg e
   ·have := h5 D hm; omega
 ·rw [ef]
  intro k hm
  rcases List.mem_cons.1 hm with rfl | hm
  ·exact fR
  ·rcases List.mem_cons.1 hm with rfl | hm
   ·exact fg
   ·exact hF k (h4 k hm) (h5 k hm)
structure KeptF (F : Nat → Prop) (w w' : World) : Prop where
 os : w'.os = w.os
 tape : w'.tape = w.tape
 output : w'.output = w.output
 size : w.heap.size ≤ w'.heap.size
 block : ∀ k, k < w.heap.size → ¬ F k → w'.heap[k]? = w.heap[k]?
theorem KeptF.of_below {F : Nat → Prop} {w w' : World} (h : Below w.heap.size w w') : KeptF F w w' := ⟨h.os, h.tape, h.output, h.size, fun k hk _ => h.block k hk⟩
theorem KeptF.trans {F F' : Nat → Prop} {a b c : World} (h : KeptF F a b) (k : KeptF F' b c) (hF : ∀ k, k < a.heap.size → F' k → F k) : KeptF F a c :=
 ⟨k.os.trans h.os, k.tape.trans h.tape, k.output.trans h.output, Nat.le_trans h.size k.size, fun i hi hx => (k.block i (Nat.lt_of_lt_of_le hi h.size) fun h' => hx (hF i hi h')).trans (h.block i hi hx)⟩
theorem KeptF.setCell {F : Nat → Prop} {a w : World} (h : KeptF F a w) {p : Addr} (hp : F p.block ∨ a.heap.size ≤ p.block) (u : Value) : KeptF F a (w.setCell p u) :=
 ⟨h.os, h.tape, h.output, by simpa [World.setCell] using h.size, fun k hk hx => by
  have hne : k ≠ p.block := by
   rcases hp with hp | hp
   ·rintro rfl; exact hx hp
   ·omega
  exact (Below.heap_setCell _ _ _ _ hne).trans (h.block k hk hx)⟩
theorem KeptF.below {F : Nat → Prop} {B : Nat} {w w' : World} (h : KeptF F w w') (hF : ∀ k, k < B → ¬ F k) (hs : B ≤ w.heap.size) : Below B w w' :=
 ⟨h.os, h.tape, h.output, h.size, fun k hk => h.block k (by omega) (hF k hk)⟩
theorem KeptF.mono {F F' : Nat → Prop} {w w' : World} (h : KeptF F w w') (hF : ∀ k, F k → F' k) : KeptF F' w w' := ⟨h.os, h.tape, h.output, h.size, fun k hk hx => h.block k hk fun h' => hx (hF k h')⟩
set_option maxHeartbeats 2000000 in
theorem load_any {S lo : Nat} {d e n : Int} {p : Value} {w : World} {v : Sp.V} {p2 : Option Addr} {s : Sp.By} (h : SB w S d e n p) (hS : S < lo) (hlo : lo ≤ w.heap.size) (hrep : Tr top lo w (.pointer p2) v) (hrd : Sp.readTo s d e = (0, some v)) :
  Calls Tryz.prog 43 #[.pointer (some ⟨S, 0, none⟩), .pointer p2] w fun x w' => x = .returned (ansA (0, 0, [])) ∧ KeptF (fun k => k = S) w w' ∧ ∃ p', SB w' S d e n p' ∧ DocF w' (fun k => lo ≤ k) p' d e (some (v, none)) := by
 have hlt := h.lt
 have hba : Below w.heap.size w (w.alloc (.cells #[.int .i64 0, .int .i64 0, .string ⟨#[]⟩] 46)) := (Below.refl _ _).alloc (Nat.le_refl _) _
 have h0 := h.low hba
 have HS := hide h0
 have HREP := hide hrep
 have HAB := hide (AB.new w)
 have HBA := hide hba
 have hsz : (w.alloc (.cells #[.int .i64 0, .int .i64 0, .string ⟨#[]⟩] 46)).heap.size = w.heap.size + 1 := by simp
 have HRD := hide hrd
 clear h h0 hrep hba hrd
 go_enter Tryz.func43, Tryz.ntmps43
 go_wp2_with (fail)
 generalize w.alloc (.cells #[.int .i64 0, .int .i64 0, .string ⟨#[]⟩] 46) = wa at *
 refine (New_any p2 _).mono ?_
 rintro x w3 ⟨D, R, g, rfl, hb3, hD, hR, hg, hDR, hDg, hRg, hdb, hrb, hgb⟩
 have s3 := (unhide HS).low hb3
 have a3 := (unhide HAB).low hb3
 have g0 := a3.c0
 have g1 := a3.c1
 have g2 := a3.c2
 have z := a3.fz
 have hSg : S ≠ w.heap.size := by omega
 have S3 := hide s3
 have HB3 := hide ((unhide HBA).trans (hb3.mono (by omega)))
 have HDB := hide hdb
 have HRB := hide hrb
 have HGB := hide hgb
 have hs3 := hb3.size
 have zs := s3.fz
 have q3 := s3.c3
 clear a3 s3 hb3 hdb hrb hgb
 have HDOC := hide (show DocW w3 (fun k => lo ≤ k ∧ k ≠ w.heap.size) D R (.pointer p2) d e (v, none) from doc_new (by omega) hlo (unhide HREP) (unhide HB3) (by omega) (by omega) (by omega) hDR hDg hRg (fun k h1 h2 => ⟨h1, by omega⟩) ⟨by omega, by omega⟩ ⟨by omega, by omega⟩ ⟨by omega, by omega⟩ (unhide HDB) (unhide HRB) (unhide HGB) (unhide HRD))
 clear HREP HDB HRB HGB HRD hsz
 go_wp2_with (fail)
 refine bodyPost_ret (v := ansA (0, 0, [])) (by simp [results, Tryz.results43, go_sem, ansA, g0, g1, g2]) rfl ?_
 have ho : ∀ k, k ≠ w.heap.size → ((((w3.setCell ⟨S, 3, none⟩ (.pointer (some ⟨D, 0, none⟩))).setCell ⟨w.heap.size, 0, none⟩ (.int .i64 0)).setCell ⟨w.heap.size, 1, none⟩ (.int .i64 0)).setCell ⟨w.heap.size, 2, none⟩ (.string ⟨#[]⟩)).heap[k]? = (w3.setCell ⟨S, 3, none⟩ (.pointer (some ⟨D, 0, none⟩))).heap[k]? := fun k hk =>
  (Below.heap_setCell _ _ _ _ hk).trans ((Below.heap_setCell _ _ _ _ hk).trans (Below.heap_setCell _ _ _ _ hk))
 refine ⟨rfl, ((((KeptF.of_below (F := fun k => k = S) (unhide HB3)).setCell (p := ⟨S, 3, none⟩) (Or.inl rfl) _).setCell (p := ⟨w.heap.size, 0, none⟩) (Or.inr (Nat.le_refl _)) _).setCell (p := ⟨w.heap.size, 1, none⟩) (Or.inr (Nat.le_refl _)) _).setCell (p := ⟨w.heap.size, 2, none⟩) (Or.inr (Nat.le_refl _)) _, _, (ho S hSg).trans ((unhide S3).set3 _), D, R, .pointer p2, rfl, (unhide HDOC).move fun k h1 h2 => ⟨(ho k h1.2).trans (Below.heap_setCell _ _ _ _ (by show k ≠ S; omega)), h1.1⟩⟩
end Go.Proofs.YtdpomdelmdofmaaGreatDoor

namespace Go.Proofs.YtdpomdelmdofmaaGreatDoor
open Go.RowKit
structure SameBut (r : Nat) (w w' : World) : Prop where
 os : w'.os = w.os
 tape : w'.tape = w.tape
 output : w'.output = w.output
 size : w'.heap.size = w.heap.size
 block : ∀ k, k ≠ r → w'.heap[k]? = w.heap[k]?
theorem SameBut.of3 (r : Nat) (w : World) (a b c : Value) : SameBut r w (((w.setCell ⟨r, 0, none⟩ a).setCell ⟨r, 1, none⟩ b).setCell ⟨r, 2, none⟩ c) :=
 ⟨rfl, rfl, rfl, by simp [World.setCell], fun k hk => (Below.heap_setCell _ _ _ _ hk).trans ((Below.heap_setCell _ _ _ _ hk).trans (Below.heap_setCell _ _ _ _ hk))⟩
theorem SameBut.below {r B : Nat} {a w w' : World} (h : SameBut r w w') (hb : Below B a w) (hr : B ≤ r) : Below B a w' :=
 ⟨h.os.trans hb.os, h.tape.trans hb.tape, h.output.trans hb.output, by rw [h.size]; exact hb.size, fun k hk => (h.block k (by omega)).trans (hb.block k hk)⟩
theorem SameBut.kept {r : Nat} {F : Nat → Prop} {a w w' : World} (h : SameBut r w w') (hb : KeptF F a w) (hr : a.heap.size ≤ r) : KeptF F a w' :=
 ⟨h.os.trans hb.os, h.tape.trans hb.tape, h.output.trans hb.output, by rw [h.size]; exact hb.size, fun k hk hx => (h.block k (by omega)).trans (hb.block k hk hx)⟩
theorem run_enter {f : FuncId} {fn : Func} {c : Code} (hf : Tryz.prog.funcs[f]? = some fn) (hname : (fn.name == "runtime.NumGoroutine") = false) (hb : fn.body = some c) (args : Array Value) (w : World) :
  (callFunc f args).run Tryz.prog w = .ok (.enter f args) w := by
 have h1 : ¬ fn.name = "runtime.NumGoroutine" := by simpa using hname
 simp [callFunc, hf, h1, hb]
set_option maxRecDepth 100000 in
set_option maxHeartbeats 2000000 in
theorem reading_any {S f : Nat} {d e n : Int} {p : Value} {w : World} {s : Sp.By} {Q : Sp.V → Option Addr → World → Sp.Ans → World → Prop} (hin : ∀ args w, (callFunc f args).run Tryz.prog w = .ok (.enter f args) w) (h : SB w S d e n p) (hT : Laid w)
  (hcall : ∀ v p2 w1, Below w.heap.size w w1 → AB w1 w.heap.size → Sp.readTo s d e = (0, some v) → Tr top (w.heap.size + 1) w1 (.pointer p2) v →
   Calls Tryz.prog f #[.pointer (some ⟨S, 0, none⟩), .pointer p2] w1 fun x w2 => ∃ A : Sp.Ans, x = .returned (ansA A) ∧ AB w2 w.heap.size ∧ Q v p2 w1 A w2) :
  Calls Tryz.prog 42 #[.pointer (some ⟨S, 0, none⟩), .string ⟨s.toArray⟩, .func (.func f) #[.pointer (some ⟨S, 0, none⟩)] #[]] w fun x w' =>
   (∃ c, 0 < c ∧ Sp.readTo s d e = (c, none) ∧ x = .returned (ansA (c, 0, [])) ∧ Below w.heap.size w w') ∨
   (∃ v p2 w1 A w2, Sp.readTo s d e = (0, some v) ∧ Below w.heap.size w w1 ∧ w.heap.size < w1.heap.size ∧ Q v p2 w1 A w2 ∧ x = .returned (ansA A) ∧ SameBut w.heap.size w2 w') := by
 have hba : Below w.heap.size w (w.alloc (.cells #[.int .i64 0, .int .i64 0, .string ⟨#[]⟩] 46)) := (Below.refl _ _).alloc (Nat.le_refl _) _
 have hTa := hT.below (hba.mono hT.ng)
 have HS := hide (h.low hba)
 have HT := hide hTa
 have HAB := hide (AB.new w)
 have HBA := hide hba
 have hsz : (w.alloc (.cells #[.int .i64 0, .int .i64 0, .string ⟨#[]⟩] 46)).heap.size = w.heap.size + 1 := by simp
 have HC := hide hcall
 have HIN := hide hin
 clear hT h hTa hba hcall hin
 go_enter Tryz.func42, Tryz.ntmps42
 go_wp2_with (fail)
 generalize w.alloc (.cells #[.int .i64 0, .int .i64 0, .string ⟨#[]⟩] 46) = wa at *
 refine (sread_tr s (unhide HS) (unhide HT)).mono ?_
 rintro x w1 ⟨p2, c, rfl, hb1, hc⟩
 have a1 := (unhide HAB).low hb1
 have HB1 := hide ((unhide HBA).trans (hb1.mono (by omega)))
 have hs1 := hb1.size
 rcases hc with ⟨hpos, hrd⟩ | ⟨rfl, v, hrd, hrep⟩
 ·have HRD := hide hrd
  have e0 : ((c : Int) != 0) = true := by simp; omega
  have A1 := hide a1
  clear hrd a1 hb1
  go_wp2_with (fail)
  refine (failed_any c w1).mono ?_
  rintro x w3 ⟨rfl, hb3⟩
  have a3 := (unhide A1).low hb3
  have g0 := a3.c0
  have g1 := a3.c1
  have g2 := a3.c2
  have z := a3.fz
  have HB3 := hide ((unhide HB1).trans (hb3.mono (by omega)))
  clear a3 hb3
  unfold ansV
  go_wp2_with (fail)
  refine bodyPost_ret (v := ansA (c, 0, [])) (by simp [results, Tryz.results42, go_sem, ansA, g0, g1, g2]) rfl ?_
  exact Or.inl ⟨c, hpos, unhide HRD, rfl, (SameBut.of3 w.heap.size w3 _ _ _).below (unhide HB3) (Nat.le_refl _)⟩
 ·have HCC := hide (unhide HC v p2 w1 (unhide HB1) a1 hrd (by rw [← hsz]; exact hrep))
  have HRD := hide hrd
  clear hrd a1 hb1 hrep HC
  go_wp2_with (fail)
  rw [unhide HIN, Oper.upon_enter]
  refine (unhide HCC).mono ?_
  rintro x w2 ⟨A, rfl, a2, hq⟩
  have g0 := a2.c0
  have g1 := a2.c1
  have g2 := a2.c2
  have z := a2.fz
  have HQ := hide hq
  clear a2 hq HCC
  unfold ansA
  go_wp2_with (fail)
  refine bodyPost_ret (v := ansA A) (by simp [results, Tryz.results42, go_sem, ansA, g0, g1, g2]) rfl ?_
  exact Or.inr ⟨v, p2, w1, A, w2, unhide HRD, unhide HB1, by omega, unhide HQ, rfl, SameBut.of3 _ _ _ _ _⟩
def GetOk : Prop := ∀ (S : Nat) (d e n : Int) (p : Value) (v : Sp.V × Sp.Inv) (F : Nat → Prop) (s : Sp.By) (w : World), s.length ≤ 1048576 → SB w S d e n p → DocF w F p d e (some v) → Laid w →
 Calls Tryz.prog 57 #[.pointer (some ⟨S, 0, none⟩), .string ⟨s.toArray⟩] w fun x w' => x = .returned (ansA (Sp.gotA v.1 s)) ∧ Below w.heap.size w w'
def TestOk : Prop := ∀ (S : Nat) (d e n : Int) (p : Value) (v : Sp.V × Sp.Inv) (F : Nat → Prop) (s t : Sp.By) (w : World), s.length ≤ 1048576 → SB w S d e n p → DocF w F p d e (some v) → Laid w →
 Calls Tryz.prog 58 #[.pointer (some ⟨S, 0, none⟩), .string ⟨s.toArray⟩, .string ⟨t.toArray⟩] w fun x w' => x = .returned (ansA (Sp.tst d e v.1 s t, 0, [])) ∧ Below w.heap.size w w'
def AmEnd (F : Nat → Prop) (p : Value) (d e : Int) (r : Sp.Ans × (Sp.V × Sp.Inv)) (w : World) (x : Ending) (w' : World) : Prop :=
 x = .returned (ansA r.1) ∧ KeptF F w w' ∧ DocF w' (fun k => (F k ∧ k < w.heap.size) ∨ w.heap.size ≤ k) p d e (some r.2)
theorem AmEnd.low {F : Nat → Prop} {p : Value} {d e : Int} {A : Sp.Ans} {v : Sp.V × Sp.Inv} {w w' : World} (hd : DocF w F p d e (some v)) (hb : Below w.heap.size w w') : AmEnd F p d e (A, v) w (.returned (ansA A)) w' :=
 ⟨rfl, KeptF.of_below hb, hd.move fun k h1 h2 => ⟨hb.block k h2, Or.inl ⟨h1, h2⟩⟩⟩
def PatchOk : Prop := ∀ (S : Nat) (d e n : Int) (p : Value) (v : Sp.V × Sp.Inv) (F : Nat → Prop) (s : Sp.By) (w : World), Sp.cfg d e n = true → (∀ k, F k → NG ≤ k ∧ k ≠ S) → SB w S d e n p → DocF w F p d e (some v) → Laid w →
 Calls Tryz.prog 59 #[.pointer (some ⟨S, 0, none⟩), .string ⟨s.toArray⟩] w (AmEnd F p d e (Sp.stPatch d e v s) w)
def InvertOk : Prop := ∀ (S : Nat) (d e n : Int) (p : Value) (v : Sp.V × Sp.Inv) (F : Nat → Prop) (w : World), SB w S d e n p → DocF w F p d e (some v) → Laid w →
 Calls Tryz.prog 61 #[.pointer (some ⟨S, 0, none⟩)] w fun x w' => x = .returned (ansA (Sp.stInvert v)) ∧ Below w.heap.size w w'
def MergeOk : Prop := ∀ (S lo : Nat) (d e n : Int) (p : Value) (v : Sp.V × Sp.Inv) (F : Nat → Prop) (s : Sp.By) (q : Sp.V) (p2 : Option Addr) (w : World), Sp.cfg d e n = true → (∀ k, F k → NG ≤ k ∧ k ≠ S ∧ k < lo) → SB w S d e n p → DocF w F p d e (some v) → Laid w →
 Sp.readTo s d e = (0, some q) → Tr top lo w (.pointer p2) q → Calls Tryz.prog 60 #[.pointer (some ⟨S, 0, none⟩), .pointer p2] w (AmEnd F p d e (Sp.mergeA v q) w)
def DiffOk : Prop := ∀ (S lo : Nat) (d e n : Int) (p : Value) (v : Sp.V × Sp.Inv) (F : Nat → Prop) (s : Sp.By) (q : Sp.V) (p2 : Option Addr) (w : World), Sp.cfg d e n = true → SB w S d e n p → DocF w F p d e (some v) → Laid w →
 Sp.readTo s d e = (0, some q) → Tr top lo w (.pointer p2) q → Calls Tryz.prog 62 #[.pointer (some ⟨S, 0, none⟩), .pointer p2] w fun x w' => x = .returned (ansA (Sp.diffAns n v.1 q)) ∧ Below w.heap.size w w'
def MergeDiffOk : Prop := ∀ (S lo : Nat) (d e n : Int) (p : Value) (v : Sp.V × Sp.Inv) (F : Nat → Prop) (s : Sp.By) (q : Sp.V) (p2 : Option Addr) (w : World), Sp.cfg d e n = true → SB w S d e n p → DocF w F p d e (some v) → Laid w →
 Sp.readTo s d e = (0, some q) → Tr top lo w (.pointer p2) q → Calls Tryz.prog 63 #[.pointer (some ⟨S, 0, none⟩), .pointer p2] w fun x w' => x = .returned (ansA (Sp.mdiffAns v.1 q)) ∧ Below w.heap.size w w'
def Fine (o : Sp.St) : Prop := (o.1 < 3 ∨ 9 < o.1) ∨ ((o.1 = 3 ∨ o.1 = 4) ∧ GetOk ∧ TestOk ∧ o.2.1.length ≤ 1048576) ∨ (o.1 = 5 ∧ PatchOk) ∨ (o.1 = 6 ∧ MergeOk) ∨ (o.1 = 7 ∧ InvertOk) ∨ (o.1 = 8 ∧ DiffOk) ∨ (o.1 = 9 ∧ MergeDiffOk)
noncomputable def Sp.askR (d e n : Int) (v : Sp.V × Sp.Inv) (o : Sp.St) : Sp.Ans × (Sp.V × Sp.Inv) := if o.1 < 5 then (Sp.ask d e v.1 o, v) else Sp.amend d e n v o
theorem DocF.bel {w w' : World} {F : Nat → Prop} {p : Value} {d e : Int} {doc : Sp.Doc} (h : DocF w F p d e doc) (hb : Below w.heap.size w w') : DocF w' F p d e doc := h.move fun k h1 h2 => ⟨hb.block k h2, h1⟩
theorem DocW.bel {w w' : World} {F : Nat → Prop} {D R : Nat} {wp : Value} {d e : Int} {v : Sp.V × Sp.Inv} (h : DocW w F D R wp d e v) (hb : Below w.heap.size w w') : DocW w' F D R wp d e v := h.move fun k h1 h2 => ⟨hb.block k h2, h1⟩
def askW (w : World) (k : Int) (s t : Sp.By) : World := (w.alloc (.cells #[.int .i64 k, .string ⟨s.toArray⟩, .string ⟨t.toArray⟩] 49)).alloc (.cells #[.int .i64 0, .int .i64 0, .string ⟨#[]⟩] 46)
theorem askW_below (w : World) (k : Int) (s t : Sp.By) : Below w.heap.size w (askW w k s t) := ((Below.refl _ _).alloc (Nat.le_refl _) _).alloc (by simp) _
theorem askW_size (w : World) (k : Int) (s t : Sp.By) : (askW w k s t).heap.size = w.heap.size + 2 := by simp [askW]
theorem askW_ab (w : World) (k : Int) (s t : Sp.By) : AB (askW w k s t) (w.heap.size + 1) := by
 have := AB.new (w.alloc (.cells #[.int .i64 k, .string ⟨s.toArray⟩, .string ⟨t.toArray⟩] 49))
 rw [show (w.alloc (.cells #[.int .i64 k, .string ⟨s.toArray⟩, .string ⟨t.toArray⟩] 49)).heap.size = w.heap.size + 1 by simp] at this
 exact this
theorem askW_op (w : World) (k : Int) (s t : Sp.By) : (askW w k s t).heap[w.heap.size]? = some (.cells #[.int .i64 k, .string ⟨s.toArray⟩, .string ⟨t.toArray⟩] 49 (0, 0)) := by
 show ((w.heap.push _).push _)[w.heap.size]? = _
 simp [Array.getElem?_push]
structure SameIn (a b : Nat) (w w' : World) : Prop where
 os : w'.os = w.os
 tape : w'.tape = w.tape
 output : w'.output = w.output
 size : w'.heap.size = w.heap.size
 block : ∀ k, (k < a ∨ b ≤ k) → w'.heap[k]? = w.heap[k]?
theorem SameBut.isIn {r a b : Nat} {w w' : World} (h : SameBut r w w') (h1 : a ≤ r) (h2 : r < b) : SameIn a b w w' := ⟨h.os, h.tape, h.output, h.size, fun k hk => h.block k (by omega)⟩
theorem SameIn.trans {a b : Nat} {w w' w'' : World} (h : SameIn a b w w') (h' : SameIn a b w' w'') : SameIn a b w w'' :=
 ⟨h'.os.trans h.os, h'.tape.trans h.tape, h'.output.trans h.output, h'.size.trans h.size, fun k hk => (h'.block k hk).trans (h.block k hk)⟩
theorem SameIn.kept {a b : Nat} {F : Nat → Prop} {w0 w w' : World} (h : SameIn a b w w') (hb : KeptF F w0 w) (hr : w0.heap.size ≤ a) : KeptF F w0 w' :=
 ⟨h.os.trans hb.os, h.tape.trans hb.tape, h.output.trans hb.output, by rw [h.size]; exact hb.size, fun k hk hx => (h.block k (by omega)).trans (hb.block k hk hx)⟩
theorem am_lift {F : Nat → Prop} {p : Value} {d e : Int} {r : Sp.Ans × (Sp.V × Sp.Inv)} {w w1 w2 w3 : World} (hb : Below w.heap.size w w1) (h : AmEnd (fun k => F k ∧ k < w.heap.size) p d e r w1 (.returned (ansA r.1)) w2) (hs : SameIn w.heap.size w1.heap.size w2 w3) : AmEnd F p d e r w (.returned (ansA r.1)) w3 := by
 obtain ⟨_, h1, h2⟩ := h
 refine ⟨rfl, ?_, h2.move fun k hk _ => ⟨hs.block k ?_, ?_⟩⟩
 ·exact hs.kept ((KeptF.of_below (F := F) hb).trans h1 fun k _ h => h.1) (Nat.le_refl _)
 ·rcases hk with ⟨hk, _⟩ | hk
  ·omega
  ·omega
 ·rcases hk with ⟨hk, _⟩ | hk
  ·exact Or.inl hk
  ·exact Or.inr (by have := hb.size; omega)
set_option maxRecDepth 100000 in
set_option maxHeartbeats 8000000 in
theorem ask_any {S : Nat} {d e n k : Int} {p : Value} {v : Sp.V × Sp.Inv} {w : World} {F : Nat → Prop} (s t : Sp.By) (hcfg : Sp.cfg d e n = true) (hk0 : ¬ k < 1) (hk9 : ¬ 9 < k) (hk1 : k ≠ 1) (hF : ∀ k, F k → NG ≤ k ∧ k ≠ S) (hf : Fine (k, s, t)) (h : SB w S d e n p) (hd : DocF w F p d e (some v)) (hT : Laid w) :
  Calls Tryz.prog 44 #[.pointer (some ⟨S, 0, none⟩), .agg #[.int .i64 k, .string ⟨s.toArray⟩, .string ⟨t.toArray⟩]] w (AmEnd F p d e (Sp.askR d e n v (k, s, t)) w) := by
 have hlt := h.lt
 have hba := askW_below w k s t
 have hTa := hT.below (hba.mono hT.ng)
 have h0 := h.low hba
 have hd0 : DocF (askW w k s t) (fun k => F k ∧ k < w.heap.size) p d e (some v) := hd.move fun k h1 h2 => ⟨hba.block k h2, h1, h2⟩
 have a0 := askW_ab w k s t
 have o0 := askW_op w k s t
 have hsz := askW_size w k s t
 have hF0 : ∀ j, (F j ∧ j < w.heap.size) → NG ≤ j ∧ j ≠ S := fun j hj => hF j hj.1
 have c3 := h0.c3
 have q0 : (askW w k s t).cell? ⟨w.heap.size, 0, none⟩ = some (.int .i64 k) := by simp [World.cell?, o0]
 have q1 : (askW w k s t).cell? ⟨w.heap.size, 1, none⟩ = some (.string ⟨s.toArray⟩) := by simp [World.cell?, o0]
 have q2 : (askW w k s t).cell? ⟨w.heap.size, 2, none⟩ = some (.string ⟨t.toArray⟩) := by simp [World.cell?, o0]
 have eW : (w.alloc (.cells #[.int .i64 k, .string ⟨s.toArray⟩, .string ⟨t.toArray⟩] 49)).alloc (.cells #[.int .i64 0, .int .i64 0, .string ⟨#[]⟩] 46) = askW w k s t := rfl
 have HA := hide a0
 have HT := hide hTa
 have H0 := hide h0
 have HD := hide hd0
 have HDD := hide hd
 have HF := hide hf
 have HF0 := hide hF0
 have HBA := hide hba
 have HCF := hide hcfg
 clear h hd hT h0 hTa a0 hf o0 hF hF0 hba hcfg
 by_cases hk : k = 2
 ·have HE := hide (show Sp.askR d e n v (k, s, t) = ((0, 0, Sp.can top v.1), v) by unfold Sp.askR; rw [if_pos (show k < 5 by omega)]; unfold Sp.ask; rw [if_pos hk])
  have HDW := HD
  obtain ⟨D, R, wp, rfl, hdw⟩ := unhide HD
  have HDW := hide hdw
  obtain ⟨A, hA⟩ : ∃ A : Sp.Ans, A = (0, 0, Sp.can top v.1) := ⟨_, rfl⟩
  clear hdw
  subst hk
  go_enter Tryz.func44, Tryz.ntmps44
  go_wp2_with (fail)
  refine (Whole_any (unhide HDW)).mono ?_
  rintro x w0 ⟨rfl, hb0⟩
  have hr1 := ((unhide HDW).bel hb0).rep
  have HCAN := hide (Canonical_any hr1 ((unhide HT).below (hb0.mono (unhide HT).ng)) (Nat.le_trans (unhide HDW).len (by omega)))
  have HB0 := hide hb0
  clear hb0 hr1
  go_wp2_with (fail)
  refine (unhide HCAN).mono ?_
  rintro x w1 ⟨rfl, hb1⟩
  replace hb1 := (unhide HB0).trans (hb1.mono (unhide HB0).size)
  have a1 := (unhide HA).low hb1
  have g0 := a1.c0
  have g1 := a1.c1
  have g2 := a1.c2
  have z := a1.fz
  have HB := hide (show Below w.heap.size w w1 from (unhide HBA).trans (hb1.mono (by omega)))
  clear a1 hb1
  go_wp2_with (fail)
  refine bodyPost_ret (v := ansA (0, 0, Sp.can top v.1)) (by simp [results, Tryz.results44, go_sem, ansA, g0, g1, g2]) rfl ?_
  rw [unhide HE]
  exact AmEnd.low (unhide HDD) ((SameBut.of3 (w.heap.size + 1) w1 _ _ _).below (unhide HB) (by omega))
 by_cases hk : k = 3
 ·have HE := hide (show Sp.askR d e n v (k, s, t) = (Sp.gotA v.1 s, v) by unfold Sp.askR; rw [if_pos (show k < 5 by omega)]; unfold Sp.ask; rw [if_neg (show ¬ k = 2 by omega), if_pos hk])
  have hfine : GetOk ∧ TestOk ∧ s.length ≤ 1048576 := (by
   rcases unhide HF with h | ⟨h, hh⟩ | ⟨h, hh⟩ | ⟨h, hh⟩ | ⟨h, hh⟩ | ⟨h, hh⟩ | ⟨h, hh⟩
   all_goals (simp only at h; first | exact hh | omega))
  have HCALL := hide (hfine.1 S d e n _ v _ s _ hfine.2.2 (unhide H0) (unhide HD) (unhide HT))
  obtain ⟨A, hA⟩ : ∃ A, A = Sp.gotA v.1 s := ⟨_, rfl⟩
  rw [← hA] at HE HCALL
  clear hA hfine
  subst hk
  go_enter Tryz.func44, Tryz.ntmps44
  go_wp2_with (fail)
  refine (unhide HCALL).mono ?_
  rintro x w1 ⟨rfl, hb1⟩
  have a1 := (unhide HA).low hb1
  have g0 := a1.c0
  have g1 := a1.c1
  have g2 := a1.c2
  have z := a1.fz
  have HB := hide (show Below w.heap.size w w1 from (unhide HBA).trans (hb1.mono (by omega)))
  clear a1 hb1
  unfold ansA
  go_wp2_with (fail)
  refine bodyPost_ret (v := ansA A) (by simp [results, Tryz.results44, go_sem, ansA, g0, g1, g2]) rfl ?_
  rw [unhide HE]
  exact AmEnd.low (unhide HDD) ((SameBut.of3 (w.heap.size + 1) w1 _ _ _).below (unhide HB) (by omega))
 by_cases hk : k = 4
 ·have HE := hide (show Sp.askR d e n v (k, s, t) = ((Sp.tst d e v.1 s t, 0, []), v) by unfold Sp.askR; rw [if_pos (show k < 5 by omega)]; unfold Sp.ask; rw [if_neg (show ¬ k = 2 by omega), if_neg (show ¬ k = 3 by omega), if_pos hk])
  have hfine : GetOk ∧ TestOk ∧ s.length ≤ 1048576 := (by
   rcases unhide HF with h | ⟨h, hh⟩ | ⟨h, hh⟩ | ⟨h, hh⟩ | ⟨h, hh⟩ | ⟨h, hh⟩ | ⟨h, hh⟩
   all_goals (simp only at h; first | exact hh | omega))
  have HCALL := hide (hfine.2.1 S d e n _ v _ s t _ hfine.2.2 (unhide H0) (unhide HD) (unhide HT))
  obtain ⟨A, hA⟩ : ∃ A : Sp.Ans, A = (Sp.tst d e v.1 s t, 0, []) := ⟨_, rfl⟩
  rw [← hA] at HE HCALL
  clear hA hfine
  subst hk
  go_enter Tryz.func44, Tryz.ntmps44
  go_wp2_with (fail)
  refine (unhide HCALL).mono ?_
  rintro x w1 ⟨rfl, hb1⟩
  have a1 := (unhide HA).low hb1
  have g0 := a1.c0
  have g1 := a1.c1
  have g2 := a1.c2
  have z := a1.fz
  have HB := hide (show Below w.heap.size w w1 from (unhide HBA).trans (hb1.mono (by omega)))
  clear a1 hb1
  unfold ansA
  go_wp2_with (fail)
  refine bodyPost_ret (v := ansA A) (by simp [results, Tryz.results44, go_sem, ansA, g0, g1, g2]) rfl ?_
  rw [unhide HE]
  exact AmEnd.low (unhide HDD) ((SameBut.of3 (w.heap.size + 1) w1 _ _ _).below (unhide HB) (by omega))
 by_cases hk : k = 5
 ·have HE := hide (show Sp.askR d e n v (k, s, t) = Sp.stPatch d e v s by unfold Sp.askR; rw [if_neg (show ¬ k < 5 by omega)]; unfold Sp.amend; rw [if_pos hk])
  have hfine : PatchOk := (by
   rcases unhide HF with h | ⟨h, hh⟩ | ⟨h, hh⟩ | ⟨h, hh⟩ | ⟨h, hh⟩ | ⟨h, hh⟩ | ⟨h, hh⟩
   all_goals (simp only at h; first | exact hh | omega))
  have HCALL := hide (hfine S d e n _ v _ s _ (unhide HCF) (unhide HF0) (unhide H0) (unhide HD) (unhide HT))
  obtain ⟨A, hA⟩ : ∃ A, A = Sp.stPatch d e v s := ⟨_, rfl⟩
  rw [← hA] at HE HCALL
  clear hA hfine
  subst hk
  go_enter Tryz.func44, Tryz.ntmps44
  go_wp2_with (fail)
  refine (unhide HCALL).mono ?_
  rintro x w1 hx
  have hx1 := hx.1
  subst hx1
  have a1 : AB w1 (w.heap.size + 1) := (hx.2.1.block _ (by omega) (fun h => by omega)).trans (unhide HA)
  have g0 := a1.c0
  have g1 := a1.c1
  have g2 := a1.c2
  have z := a1.fz
  have HX := hide hx
  clear a1 hx
  unfold ansA
  go_wp2_with (fail)
  refine bodyPost_ret (v := ansA A.1) (by simp [results, Tryz.results44, go_sem, ansA, g0, g1, g2]) rfl ?_
  rw [unhide HE]
  exact am_lift (unhide HBA) (unhide HX) ((SameBut.of3 (w.heap.size + 1) w1 _ _ _).isIn (by omega) (by omega))
 by_cases hk : k = 7
 ·have HE := hide (show Sp.askR d e n v (k, s, t) = (Sp.stInvert v, v) by unfold Sp.askR; rw [if_neg (show ¬ k < 5 by omega)]; unfold Sp.amend; rw [if_neg (show ¬ k = 5 by omega), if_neg (show ¬ k = 6 by omega), if_pos hk])
  have hfine : InvertOk := (by
   rcases unhide HF with h | ⟨h, hh⟩ | ⟨h, hh⟩ | ⟨h, hh⟩ | ⟨h, hh⟩ | ⟨h, hh⟩ | ⟨h, hh⟩
   all_goals (simp only at h; first | exact hh | omega))
  have HCALL := hide (hfine S d e n _ v _ _ (unhide H0) (unhide HD) (unhide HT))
  obtain ⟨A, hA⟩ : ∃ A, A = Sp.stInvert v := ⟨_, rfl⟩
  rw [← hA] at HE HCALL
  clear hA hfine
  subst hk
  go_enter Tryz.func44, Tryz.ntmps44
  go_wp2_with (fail)
  refine (unhide HCALL).mono ?_
  rintro x w1 ⟨rfl, hb1⟩
  have a1 := (unhide HA).low hb1
  have g0 := a1.c0
  have g1 := a1.c1
  have g2 := a1.c2
  have z := a1.fz
  have HB := hide (show Below w.heap.size w w1 from (unhide HBA).trans (hb1.mono (by omega)))
  clear a1 hb1
  unfold ansA
  go_wp2_with (fail)
  refine bodyPost_ret (v := ansA A) (by simp [results, Tryz.results44, go_sem, ansA, g0, g1, g2]) rfl ?_
  rw [unhide HE]
  exact AmEnd.low (unhide HDD) ((SameBut.of3 (w.heap.size + 1) w1 _ _ _).below (unhide HB) (by omega))
 by_cases hk : k = 6
 ·have HE := hide (show Sp.askR d e n v (k, s, t) = Sp.stMerge d e v s by unfold Sp.askR; rw [if_neg (show ¬ k < 5 by omega)]; unfold Sp.amend; rw [if_neg (show ¬ k = 5 by omega), if_pos hk])
  have hfine : MergeOk := (by
   rcases unhide HF with h | ⟨h, hh⟩ | ⟨h, hh⟩ | ⟨h, hh⟩ | ⟨h, hh⟩ | ⟨h, hh⟩ | ⟨h, hh⟩
   all_goals (simp only at h; first | exact hh | omega))
  have HCALL := hide (reading_any (f := 60) (s := s) (hin := run_enter Tryz.func60 (by kernel_rfl) rfl) (Q := fun q p2 w1 A w2 => A = (Sp.mergeA v q).1 ∧ AmEnd (fun k => F k ∧ k < w.heap.size) p d e (Sp.mergeA v q) w1 (.returned (ansA A)) w2) (unhide H0) (unhide HT) (fun q p2 w1 hb1 hab hrd htr => by
   refine (hfine S (w.heap.size + 3) d e n p v _ s q p2 w1 (unhide HCF) (fun j hj => ⟨(unhide HF0 j hj).1, (unhide HF0 j hj).2, by omega⟩) ((unhide H0).low hb1) ((unhide HD).bel hb1) ((unhide HT).below (hb1.mono (unhide HT).ng)) hrd (by rw [hsz] at htr; exact htr)).mono ?_
   rintro x w2 hx
   have hx1 := hx.1
   subst hx1
   exact ⟨_, rfl, (hx.2.1.block _ hab.lt (fun h => by rw [hsz] at h; omega)).trans hab, rfl, hx⟩))
  clear hfine
  subst hk
  go_enter Tryz.func44, Tryz.ntmps44
  go_wp2_with (fail)
  refine (unhide HCALL).mono ?_
  rintro x w1 (⟨c, hpos, hrd, rfl, hb1⟩ | ⟨q, p2, w2, A, w3, hrd, hb2, hs2, ⟨rfl, hx⟩, rfl, hsb⟩)
  ·obtain ⟨A, hA⟩ : ∃ A : Sp.Ans, A = (c, 0, []) := ⟨_, rfl⟩
   have HE2 := hide (show Sp.stMerge d e v s = (A, v) by unfold Sp.stMerge; rw [hrd, hA])
   rw [← hA]
   clear hrd hA
   have a1 := (unhide HA).low hb1
   have g0 := a1.c0
   have g1 := a1.c1
   have g2 := a1.c2
   have z := a1.fz
   have HB := hide (show Below w.heap.size w w1 from (unhide HBA).trans (hb1.mono (by omega)))
   clear a1 hb1 HCALL
   unfold ansA
   go_wp2_with (fail)
   refine bodyPost_ret (v := ansA A) (by simp [results, Tryz.results44, go_sem, ansA, g0, g1, g2]) rfl ?_
   rw [unhide HE, unhide HE2]
   exact AmEnd.low (unhide HDD) ((SameBut.of3 (w.heap.size + 1) w1 _ _ _).below (unhide HB) (by omega))
  ·have HE2 := hide (show Sp.stMerge d e v s = Sp.mergeA v q by unfold Sp.stMerge; rw [hrd])
   obtain ⟨M, hM⟩ : ∃ M, M = Sp.mergeA v q := ⟨_, rfl⟩
   rw [← hM] at hx HE2 ⊢
   have a1 : AB w1 (w.heap.size + 1) := (hsb.block _ (by omega)).trans ((hx.2.1.block _ (by omega) (fun h => by omega)).trans ((hb2.block _ (by omega)).trans (unhide HA)))
   have g0 := a1.c0
   have g1 := a1.c1
   have g2 := a1.c2
   have z := a1.fz
   have HX := hide hx
   have HS := hide (hsb.isIn (a := w.heap.size) (b := w2.heap.size) (by omega) (by omega))
   have HB2 := hide ((unhide HBA).trans (hb2.mono (by omega)))
   clear a1 hx hrd hM hsb hb2 HCALL
   unfold ansA
   go_wp2_with (fail)
   refine bodyPost_ret (v := ansA M.1) (by simp [results, Tryz.results44, go_sem, ansA, g0, g1, g2]) rfl ?_
   rw [unhide HE, unhide HE2]
   exact am_lift (unhide HB2) (unhide HX) ((unhide HS).trans ((SameBut.of3 (w.heap.size + 1) w1 _ _ _).isIn (by omega) (by omega)))
 by_cases hk : k = 8
 ·have HE := hide (show Sp.askR d e n v (k, s, t) = (Sp.stDiff d e n v s, v) by unfold Sp.askR; rw [if_neg (show ¬ k < 5 by omega)]; unfold Sp.amend; rw [if_neg (show ¬ k = 5 by omega), if_neg (show ¬ k = 6 by omega), if_neg (show ¬ k = 7 by omega), if_pos hk])
  have hfine : DiffOk := (by
   rcases unhide HF with h | ⟨h, hh⟩ | ⟨h, hh⟩ | ⟨h, hh⟩ | ⟨h, hh⟩ | ⟨h, hh⟩ | ⟨h, hh⟩
   all_goals (simp only at h; first | exact hh | omega))
  have HCALL := hide (reading_any (f := 62) (s := s) (hin := run_enter Tryz.func62 (by kernel_rfl) rfl) (Q := fun q p2 w1 A w2 => A = Sp.diffAns n v.1 q ∧ Below w1.heap.size w1 w2) (unhide H0) (unhide HT) (fun q p2 w1 hb1 hab hrd htr => by
   refine (hfine S _ d e n p v _ s q p2 w1 (unhide HCF) ((unhide H0).low hb1) ((unhide HD).bel hb1) ((unhide HT).below (hb1.mono (unhide HT).ng)) hrd htr).mono ?_
   rintro x w2 ⟨rfl, hb2⟩
   exact ⟨_, rfl, hab.low hb2, rfl, hb2⟩))
  clear hfine
  subst hk
  go_enter Tryz.func44, Tryz.ntmps44
  go_wp2_with (fail)
  refine (unhide HCALL).mono ?_
  rintro x w1 hx
  obtain ⟨A, rfl, hA, hb1, a1⟩ : ∃ A : Sp.Ans, x = .returned (ansA A) ∧ A = Sp.stDiff d e n v s ∧ Below w.heap.size w w1 ∧ AB w1 (w.heap.size + 1) := by
   rcases hx with ⟨c, hpos, hrd, rfl, hb1⟩ | ⟨q, p2, w2, A, w3, hrd, hb2, hs2, ⟨rfl, hx⟩, rfl, hsb⟩
   ·exact ⟨_, rfl, by unfold Sp.stDiff; rw [hrd], (unhide HBA).trans (hb1.mono (by omega)), (unhide HA).low hb1⟩
   ·exact ⟨_, rfl, by unfold Sp.stDiff; rw [hrd], ((unhide HBA).trans (hb2.mono (by omega))).trans (hsb.below (hx.mono (by omega)) (by omega)), (hsb.block _ (by omega)).trans ((hx.block _ (by omega)).trans ((hb2.block _ (by omega)).trans (unhide HA)))⟩
  have g0 := a1.c0
  have g1 := a1.c1
  have g2 := a1.c2
  have z := a1.fz
  have HB := hide hb1
  rw [← hA] at HE
  clear a1 hb1 HCALL hx hA
  unfold ansA
  go_wp2_with (fail)
  refine bodyPost_ret (v := ansA A) (by simp [results, Tryz.results44, go_sem, ansA, g0, g1, g2]) rfl ?_
  rw [unhide HE]
  exact AmEnd.low (unhide HDD) ((SameBut.of3 (w.heap.size + 1) w1 _ _ _).below (unhide HB) (by omega))
 obtain rfl : k = 9 := by omega
 ·have hk : (9 : Int) = 9 := rfl
  have HE := hide (show Sp.askR d e n v (9, s, t) = (Sp.stMergeDiff d e v s, v) by unfold Sp.askR; rw [if_neg (show ¬ (9 : Int) < 5 by omega)]; unfold Sp.amend; rw [if_neg (show ¬ (9 : Int) = 5 by omega), if_neg (show ¬ (9 : Int) = 6 by omega), if_neg (show ¬ (9 : Int) = 7 by omega), if_neg (show ¬ (9 : Int) = 8 by omega)])
  have hfine : MergeDiffOk := (by
   rcases unhide HF with h | ⟨h, hh⟩ | ⟨h, hh⟩ | ⟨h, hh⟩ | ⟨h, hh⟩ | ⟨h, hh⟩ | ⟨h, hh⟩
   all_goals (simp only at h; first | exact hh | omega))
  have HCALL := hide (reading_any (f := 63) (s := s) (hin := run_enter Tryz.func63 (by kernel_rfl) rfl) (Q := fun q p2 w1 A w2 => A = Sp.mdiffAns v.1 q ∧ Below w1.heap.size w1 w2) (unhide H0) (unhide HT) (fun q p2 w1 hb1 hab hrd htr => by
   refine (hfine S _ d e n p v _ s q p2 w1 (unhide HCF) ((unhide H0).low hb1) ((unhide HD).bel hb1) ((unhide HT).below (hb1.mono (unhide HT).ng)) hrd htr).mono ?_
   rintro x w2 ⟨rfl, hb2⟩
   exact ⟨_, rfl, hab.low hb2, rfl, hb2⟩))
  clear hfine
  go_enter Tryz.func44, Tryz.ntmps44
  go_wp2_with (fail)
  refine (unhide HCALL).mono ?_
  rintro x w1 hx
  obtain ⟨A, rfl, hA, hb1, a1⟩ : ∃ A : Sp.Ans, x = .returned (ansA A) ∧ A = Sp.stMergeDiff d e v s ∧ Below w.heap.size w w1 ∧ AB w1 (w.heap.size + 1) := by
   rcases hx with ⟨c, hpos, hrd, rfl, hb1⟩ | ⟨q, p2, w2, A, w3, hrd, hb2, hs2, ⟨rfl, hx⟩, rfl, hsb⟩
   ·exact ⟨_, rfl, by unfold Sp.stMergeDiff; rw [hrd], (unhide HBA).trans (hb1.mono (by omega)), (unhide HA).low hb1⟩
   ·exact ⟨_, rfl, by unfold Sp.stMergeDiff; rw [hrd], ((unhide HBA).trans (hb2.mono (by omega))).trans (hsb.below (hx.mono (by omega)) (by omega)), (hsb.block _ (by omega)).trans ((hx.block _ (by omega)).trans ((hb2.block _ (by omega)).trans (unhide HA)))⟩
  have g0 := a1.c0
  have g1 := a1.c1
  have g2 := a1.c2
  have z := a1.fz
  have HB := hide hb1
  rw [← hA] at HE
  clear a1 hb1 HCALL hx hA
  unfold ansA
  go_wp2_with (fail)
  refine bodyPost_ret (v := ansA A) (by simp [results, Tryz.results44, go_sem, ansA, g0, g1, g2]) rfl ?_
  rw [unhide HE]
  exact AmEnd.low (unhide HDD) ((SameBut.of3 (w.heap.size + 1) w1 _ _ _).below (unhide HB) (by omega))
def stV (o : Sp.St) : Value := .agg #[.int .i64 o.1, .string ⟨o.2.1.toArray⟩, .string ⟨o.2.2.toArray⟩]
def StepEnd (S : Nat) (d e n : Int) (doc : Sp.Doc) (o : Sp.St) (F : Nat → Prop) (w : World) (x : Ending) (w' : World) : Prop :=
 x = .returned (ansA (Sp.step d e n doc o).1) ∧ KeptF (fun k => F k ∨ k = S) w w' ∧ ∃ p', SB w' S d e n p' ∧ DocF w' (fun k => (F k ∧ k < w.heap.size) ∨ w.heap.size ≤ k) p' d e (Sp.step d e n doc o).2
theorem StepEnd.low {S : Nat} {d e n : Int} {doc : Sp.Doc} {o : Sp.St} {F : Nat → Prop} {w w' : World} {a : Sp.Ans} {p : Value} (he : Sp.step d e n doc o = (a, doc)) (h : SB w S d e n p) (hd : DocF w F p d e doc) (hb : Below w.heap.size w w') :
  StepEnd S d e n doc o F w (.returned (ansA a)) w' := by
 unfold StepEnd
 rw [he]
 exact ⟨rfl, KeptF.of_below hb, p, h.low hb, hd.move fun k h1 h2 => ⟨hb.block k h2, Or.inl ⟨h1, h2⟩⟩⟩
set_option maxRecDepth 100000 in
set_option maxHeartbeats 8000000 in
theorem step_any {S : Nat} {d e n : Int} {p : Value} {doc : Sp.Doc} {w : World} {F : Nat → Prop} (k : Int) (s t : Sp.By) (hF : ∀ k, F k → NG ≤ k ∧ k ≠ S) (hf : Fine (k, s, t)) (h : SB w S d e n p) (hd : DocF w F p d e doc) (hT : Laid w) :
  Calls Tryz.prog 36 #[.pointer (some ⟨S, 0, none⟩), .agg #[.int .i64 k, .string ⟨s.toArray⟩, .string ⟨t.toArray⟩]] w fun x w' => StepEnd S d e n doc (k, s, t) F w x w' := by
 have HFN := hide hf
 have HFF := hide hF
 have hlt := h.lt
 have hba := askW_below w k s t
 have hTa := hT.below (hba.mono hT.ng)
 have h0 := h.low hba
 have hd0 : DocF (askW w k s t) (fun k => F k ∧ k < w.heap.size) p d e doc := hd.move fun k h1 h2 => ⟨hba.block k h2, h1, h2⟩
 have a0 := askW_ab w k s t
 have o0 := askW_op w k s t
 have hsz := askW_size w k s t
 have eW : (w.alloc (.cells #[.int .i64 k, .string ⟨s.toArray⟩, .string ⟨t.toArray⟩] 49)).alloc (.cells #[.int .i64 0, .int .i64 0, .string ⟨#[]⟩] 46) = askW w k s t := rfl
 have c0 := h0.c0
 have c1 := h0.c1
 have c2 := h0.c2
 have HA := hide a0
 have H0 := hide h0
 have HD := hide hd0
 have HT := hide hTa
 have HH := hide h
 have HDD := hide hd
 have HO := hide o0
 have HBA := hide hba
 clear h hd hT h0 hd0 hTa a0 o0 hf hF hba
 go_enter Tryz.func36, Tryz.ntmps36
 go_wp2_with (fail)
 refine (isConfig_any d e n _).mono ?_
 rintro x w1 ⟨rfl, hb1⟩
 replace hb1 : Below (askW w k s t).heap.size (askW w k s t) w1 := hb1
 have h1 := (unhide H0).low hb1
 have d1 : DocF w1 (fun k => F k ∧ k < w.heap.size) p d e doc := (unhide HD).bel hb1
 have a1 := (unhide HA).low hb1
 have T1 := (unhide HT).below (hb1.mono (unhide HT).ng)
 have o1 : w1.heap[w.heap.size]? = _ := (hb1.block w.heap.size (by omega)).trans (unhide HO)
 have hb01 : Below w.heap.size w w1 := (unhide HBA).trans (hb1.mono (by omega))
 have hs1 : w.heap.size + 2 ≤ w1.heap.size := by have := hb1.size; omega
 have q0 : w1.cell? ⟨w.heap.size, 0, none⟩ = some (.int .i64 k) := by simp [World.cell?, o1]
 have q1 : w1.cell? ⟨w.heap.size, 1, none⟩ = some (.string ⟨s.toArray⟩) := by simp [World.cell?, o1]
 have q2 : w1.cell? ⟨w.heap.size, 2, none⟩ = some (.string ⟨t.toArray⟩) := by simp [World.cell?, o1]
 have g0 := a1.c0
 have g1 := a1.c1
 have g2 := a1.c2
 have z := a1.fz
 have c3 := h1.c3
 have H1 := hide h1
 have D1 := hide d1
 have A1 := hide a1
 have TT1 := hide T1
 have HB1 := hide hb01
 clear h1 d1 a1 T1 o1 hb1 hb01 H0 HD HA HT HO c0 c1 c2 hsz eW HBA
 cases hcfg : Sp.cfg d e n with
 | false =>
  have HE := hide (show Sp.step d e n doc (k, s, t) = ((2, 0, []), doc) by unfold Sp.step; rw [hcfg]; rfl)
  clear hcfg
  simp only
  go_wp2_with (fail)
  refine (failed_any 2 _).mono ?_
  rintro x w2 ⟨rfl, hb2⟩
  have a2 := (unhide A1).low hb2
  clear g0 g1 g2 z q0 q1 q2
  have g0 := a2.c0
  have g1 := a2.c1
  have g2 := a2.c2
  have z := a2.fz
  have HB2 := hide (show Below w.heap.size w w2 from (unhide HB1).trans (hb2.mono (by omega)))
  clear a2 hb2
  unfold ansV
  go_wp2_with (fail)
  refine bodyPost_ret (v := ansV 2 []) (by simp [results, Tryz.results36, go_sem, ansV, g0, g1, g2]) rfl ?_
  exact StepEnd.low (unhide HE) (unhide HH) (unhide HDD) ((SameBut.of3 (w.heap.size + 1) w2 _ _ _).below (unhide HB2) (by omega))
 | true =>
  by_cases k1 : k < 1
  ·have HE := hide (show Sp.step d e n doc (k, s, t) = ((1, 0, []), doc) by unfold Sp.step; rw [hcfg, if_pos rfl, if_pos (Or.inl k1)])
   have e1 : decide (k < 1) = true := by simpa using k1
   clear hcfg k1 c3
   simp only
   go_wp2_with (fail)
   refine (failed_any 1 _).mono ?_
   rintro x w2 ⟨rfl, hb2⟩
   have a2 := (unhide A1).low hb2
   clear g0 g1 g2 z q0 q1 q2
   have g0 := a2.c0
   have g1 := a2.c1
   have g2 := a2.c2
   have z := a2.fz
   have HB2 := hide (show Below w.heap.size w w2 from (unhide HB1).trans (hb2.mono (by omega)))
   clear a2 hb2
   unfold ansV
   go_wp2_with (fail)
   refine bodyPost_ret (v := ansV 1 []) (by simp [results, Tryz.results36, go_sem, ansV, g0, g1, g2]) rfl ?_
   exact StepEnd.low (unhide HE) (unhide HH) (unhide HDD) ((SameBut.of3 (w.heap.size + 1) w2 _ _ _).below (unhide HB2) (by omega))
  by_cases k9 : 9 < k
  ·have HE := hide (show Sp.step d e n doc (k, s, t) = ((1, 0, []), doc) by unfold Sp.step; rw [hcfg, if_pos rfl, if_pos (Or.inr k9)])
   have e1 : decide (k < 1) = false := by simpa using k1
   have e9 : decide (9 < k) = true := by simpa using k9
   clear hcfg k1 k9 c3
   simp only
   go_wp2_with (fail)
   refine (failed_any 1 _).mono ?_
   rintro x w2 ⟨rfl, hb2⟩
   have a2 := (unhide A1).low hb2
   clear g0 g1 g2 z q0 q1 q2
   have g0 := a2.c0
   have g1 := a2.c1
   have g2 := a2.c2
   have z := a2.fz
   have HB2 := hide (show Below w.heap.size w w2 from (unhide HB1).trans (hb2.mono (by omega)))
   clear a2 hb2
   unfold ansV
   go_wp2_with (fail)
   refine bodyPost_ret (v := ansV 1 []) (by simp [results, Tryz.results36, go_sem, ansV, g0, g1, g2]) rfl ?_
   exact StepEnd.low (unhide HE) (unhide HH) (unhide HDD) ((SameBut.of3 (w.heap.size + 1) w2 _ _ _).below (unhide HB2) (by omega))
  by_cases kl : k = 1
  ·subst kl
   have HE := hide (show Sp.step d e n doc (1, s, t) = Sp.ldd (Sp.readTo s d e) doc by unfold Sp.step; rw [hcfg, if_pos rfl, if_neg (by simp), if_pos rfl])
   clear hcfg k1 k9 c3
   simp only
   have HCALL := hide (reading_any (f := 43) (s := s) (hin := run_enter Tryz.func43 (by kernel_rfl) rfl) (Q := fun q p2 w1' A w2 => A = (0, 0, []) ∧ KeptF (fun k => k = S) w1' w2 ∧ ∃ p', SB w2 S d e n p' ∧ DocF w2 (fun k => w1.heap.size + 1 ≤ k) p' d e (some (q, none))) (unhide H1) (unhide TT1) (fun q p2 w1' hb1 hab hrd htr => by
    refine (load_any ((unhide H1).low hb1) (show S < w1.heap.size + 1 by omega) hab.lt htr hrd).mono ?_
    rintro x w2 ⟨rfl, hk, p', hsb, hdf⟩
    exact ⟨_, rfl, (hk.block _ hab.lt (by omega)).trans hab, rfl, hk, p', hsb, hdf⟩))
   go_wp2_with (fail)
   refine (unhide HCALL).mono ?_
   rintro x w2 (⟨c, hpos, hrd, rfl, hb2⟩ | ⟨q, p2, w3, A, w4, hrd, hb2, hs2, ⟨rfl, hk, p', hsb4, hdf⟩, rfl, hsb⟩)
   ·obtain ⟨A, hA⟩ : ∃ A : Sp.Ans, A = (c, 0, []) := ⟨_, rfl⟩
    have HE2 := hide (show Sp.ldd (Sp.readTo s d e) doc = (A, doc) by rw [hrd, hA]; rfl)
    rw [← hA]
    have a2 := (unhide A1).low hb2
    clear g0 g1 g2 z q0 q1 q2 hA hrd
    have g0 := a2.c0
    have g1 := a2.c1
    have g2 := a2.c2
    have z := a2.fz
    have HB2 := hide (show Below w.heap.size w w2 from (unhide HB1).trans (hb2.mono (by omega)))
    clear a2 hb2 HCALL
    unfold ansA
    go_wp2_with (fail)
    refine bodyPost_ret (v := ansA A) (by simp [results, Tryz.results36, go_sem, ansA, g0, g1, g2]) rfl ?_
    exact StepEnd.low ((unhide HE).trans (unhide HE2)) (unhide HH) (unhide HDD) ((SameBut.of3 (w.heap.size + 1) w2 _ _ _).below (unhide HB2) (by omega))
   ·have HE2 := hide (show Sp.ldd (Sp.readTo s d e) doc = ((0, 0, []), some (q, none)) by rw [hrd]; rfl)
    have a2 : AB w2 (w.heap.size + 1) := (hsb.block _ (by omega)).trans ((hk.block _ (by omega) (by omega)).trans ((hb2.block _ (by omega)).trans (unhide A1)))
    clear g0 g1 g2 z q0 q1 q2 hrd
    have g0 := a2.c0
    have g1 := a2.c1
    have g2 := a2.c2
    have z := a2.fz
    have HK := hide ((KeptF.of_below (F := fun k => F k ∨ k = S) ((unhide HB1).trans (hb2.mono (by omega)))).trans hk fun j _ hj => Or.inr hj)
    have HI := hide (hsb.isIn (a := w.heap.size) (b := w1.heap.size + 1) (by omega) (by omega))
    have HS4 := hide hsb4
    have HDF := hide hdf
    clear a2 hb2 hk hsb hsb4 hdf HCALL
    unfold ansA
    go_wp2_with (fail)
    refine bodyPost_ret (v := ansA (0, 0, [])) (by simp [results, Tryz.results36, go_sem, ansA, g0, g1, g2]) rfl ?_
    have hi := (unhide HI).trans ((SameBut.of3 (w.heap.size + 1) w2 (.int .i64 ((0, 0, []) : Sp.Ans).1) (.int .i64 ((0, 0, []) : Sp.Ans).2.1) (.string ⟨((0, 0, []) : Sp.Ans).2.2.toArray⟩)).isIn (a := w.heap.size) (b := w1.heap.size + 1) (by omega) (by omega))
    unfold StepEnd
    rw [(unhide HE).trans (unhide HE2)]
    exact ⟨rfl, hi.kept (unhide HK) (Nat.le_refl _), p', (hi.block S (by omega)).trans (unhide HS4), (unhide HDF).move fun j hj _ => ⟨hi.block j (Or.inr hj), Or.inr (by omega)⟩⟩
  have e1 : decide (k < 1) = false := by simpa using k1
  have e9 : decide (9 < k) = false := by simpa using k9
  have el : (k == 1) = false := by simpa using kl
  cases hdoc : doc with
  | none =>
   subst hdoc
   have HE := hide (show Sp.step d e n none (k, s, t) = ((3, 0, []), none) by unfold Sp.step; rw [hcfg, if_pos rfl, if_neg (by simp; omega), if_neg kl])
   obtain rfl : p = .pointer none := unhide HDD
   clear hcfg k1 k9 kl
   simp only
   go_wp2_with (fail)
   refine (failed_any 3 _).mono ?_
   rintro x w2 ⟨rfl, hb2⟩
   have a2 := (unhide A1).low hb2
   clear g0 g1 g2 z q0 q1 q2
   have g0 := a2.c0
   have g1 := a2.c1
   have g2 := a2.c2
   have z := a2.fz
   have HB2 := hide (show Below w.heap.size w w2 from (unhide HB1).trans (hb2.mono (by omega)))
   clear a2 hb2
   unfold ansV
   go_wp2_with (fail)
   refine bodyPost_ret (v := ansV 3 []) (by simp [results, Tryz.results36, go_sem, ansV, g0, g1, g2]) rfl ?_
   exact StepEnd.low (unhide HE) (unhide HH) (unhide HDD) ((SameBut.of3 (w.heap.size + 1) w2 _ _ _).below (unhide HB2) (by omega))
  | some v =>
   subst hdoc
   have HE := hide (show Sp.step d e n (some v) (k, s, t) = ((Sp.askR d e n v (k, s, t)).1, some (Sp.askR d e n v (k, s, t)).2) by
    unfold Sp.step; rw [hcfg, if_pos rfl, if_neg (by simp; omega), if_neg kl]
    unfold Sp.askR
    by_cases h5 : k < 5
    ·simp only; rw [if_pos h5, if_pos h5]
    ·simp only; rw [if_neg h5, if_neg h5])
   have HCALL := hide (ask_any s t hcfg k1 k9 kl (fun j hj => unhide HFF j hj.1) (unhide HFN) (unhide H1) (unhide D1) (unhide TT1))
   have hD := unhide HDD
   obtain ⟨D, R, wp, rfl, _⟩ := hD
   obtain ⟨A, hA⟩ : ∃ A, A = Sp.askR d e n v (k, s, t) := ⟨_, rfl⟩
   rw [← hA] at HE HCALL
   clear hcfg k1 k9 kl
   simp only
   go_wp2_with (fail)
   refine (unhide HCALL).mono ?_
   rintro x w2 hx
   have hx1 := hx.1
   subst hx1
   have a2 : AB w2 (w.heap.size + 1) := (hx.2.1.block _ (by omega) (fun h => by omega)).trans (unhide A1)
   have s2 : SB w2 S d e n (.pointer (some ⟨D, 0, none⟩)) := (hx.2.1.block S (by omega) (fun h => (unhide HFF S h.1).2 rfl)).trans (unhide H1)
   clear g0 g1 g2 z q0 q1 q2 hA
   have g0 := a2.c0
   have g1 := a2.c1
   have g2 := a2.c2
   have z := a2.fz
   have HX := hide hx
   have HS2 := hide s2
   clear a2 hx s2 HCALL
   unfold ansA
   go_wp2_with (fail)
   refine bodyPost_ret (v := ansA A.1) (by simp [results, Tryz.results36, go_sem, ansA, g0, g1, g2]) rfl ?_
   have hi := (SameBut.of3 (w.heap.size + 1) w2 (.int .i64 A.1.1) (.int .i64 A.1.2.1) (.string ⟨A.1.2.2.toArray⟩)).isIn (a := w.heap.size) (b := w1.heap.size) (by omega) (by omega)
   obtain ⟨_, r1, r2⟩ := am_lift (F := F) (unhide HB1) (unhide HX) hi
   unfold StepEnd
   rw [unhide HE]
   exact ⟨rfl, r1.mono fun j hj => Or.inl hj, _, (hi.block S (by omega)).trans (unhide HS2), r2⟩
end Go.Proofs.YtdpomdelmdofmaaGreatDoor
