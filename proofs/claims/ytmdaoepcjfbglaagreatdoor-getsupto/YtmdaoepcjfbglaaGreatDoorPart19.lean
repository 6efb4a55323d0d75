/-
  What a script's answers are, as plain functions; walks of within, isConfig, failed.
  Walks of load, ask, step.
  Walk of step.
-/
import Derived.Test.YtmdaoepcjfbglaaGreatDoorPart18
namespace Go.Proofs.YtmdaoepcjfbglaaGreatDoor
open Go.RowKit

def Sp.inB (n a b : Int) : Bool := decide (a ≤ n) && decide (n ≤ b)
def Sp.cfg (d e n : Int) : Bool := Sp.inB d 1 20 && (Sp.inB e 0 400 && Sp.inB n 0 2000)
/-- an operation that tells how to take a change back: its kind, its path, its value -/
abbrev Sp.Opn := Nat × List Sp.By × Sp.V
/-- what is to be taken back, if there was an amendment -/
abbrev Sp.Inv := Option (List Sp.Opn)
/-- the document, and what is to be taken back -/
abbrev Sp.Doc := Option (Sp.V × Sp.Inv)
/-- a step's kind and its two texts -/
abbrev Sp.St := Int × Sp.By × Sp.By
/-- an answer: its code, its place, its text -/
abbrev Sp.Ans := Nat × Nat × Sp.By
/-- what loading tells of what was read -/
def Sp.ldd (r : Nat × Option Sp.V) (doc : Sp.Doc) : Sp.Ans × Sp.Doc :=
  match r.2 with
  | some v => ((r.1, 0, []), some (v, none))
  | none => ((r.1, 0, []), doc)
/-- what GET tells of a document -/
def Sp.gotA (v : Sp.V) (s : Sp.By) : Sp.Ans := match Sp.toks s with
  | none => (9, 0, [])
  | some l => match Sp.find v l with
    | .ok e => (0, 0, Sp.can top e)
    | .error c => (c, 0, [])
/-- what TEST tells of a document: the code -/
noncomputable def Sp.tst (d e : Int) (v : Sp.V) (s t : Sp.By) : Nat := match Sp.toks s with
  | none => 9
  | some l => match Sp.readTo t d e with
    | (c, none) => c
    | (_, some x) => match Sp.find v l with
      | .error c => c
      | .ok y => if veq y x = true then 0 else 14
/-- what a step that leaves the document tells -/
noncomputable def Sp.ask (d e : Int) (v : Sp.V) (o : Sp.St) : Sp.Ans :=
  if o.1 = 2 then (0, 0, Sp.can top v) else if o.1 = 3 then Sp.gotA v o.2.1 else if o.1 = 4 then (Sp.tst d e v o.2.1 o.2.2, 0, []) else (1, 0, [])
/-- one step: the code, the text; the document behind it -/
noncomputable def Sp.step (d e n : Int) (doc : Sp.Doc) (o : Sp.St) : Sp.Ans × Sp.Doc :=
  if Sp.cfg d e n then
    (if o.1 < 1 ∨ 9 < o.1 then ((1, 0, []), doc)
     else if o.1 = 1 then Sp.ldd (Sp.readTo o.2.1 d e) doc
     else match doc with
       | none => ((3, 0, []), doc)
       | some v => (Sp.ask d e v.1 o, doc))
  else ((2, 0, []), doc)
noncomputable def Sp.run (d e n : Int) : Sp.Doc → List Sp.St → List Sp.Ans
  | _, [] => []
  | doc, o :: r => (Sp.step d e n doc o).1 :: Sp.run d e n (Sp.step d e n doc o).2 r
/-- the document behind some steps -/
noncomputable def Sp.docAfter (d e n : Int) : Sp.Doc → List Sp.St → Sp.Doc
  | doc, [] => doc
  | doc, o :: r => Sp.docAfter d e n (Sp.step d e n doc o).2 r

theorem Sp.run_len (d e n : Int) : ∀ (l : List Sp.St) (doc : Sp.Doc), (Sp.run d e n doc l).length = l.length := by
  intro l
  induction l with
  | nil => intro doc; rfl
  | cons o r ih => intro doc; simp [Sp.run, ih]
theorem Sp.run_take (d e n : Int) : ∀ (l : List Sp.St) (doc : Sp.Doc) (k : Nat), Sp.run d e n doc (l.take k) = (Sp.run d e n doc l).take k := by
  intro l
  induction l with
  | nil => intro doc k; simp [Sp.run]
  | cons o r ih =>
    intro doc k
    cases k with
    | zero => rfl
    | succ k => simp [Sp.run, ih]
theorem Sp.run_snoc (d e n : Int) : ∀ (l : List Sp.St) (doc : Sp.Doc) (o : Sp.St), Sp.run d e n doc (l ++ [o]) = Sp.run d e n doc l ++ [(Sp.step d e n (Sp.docAfter d e n doc l) o).1] := by
  intro l
  induction l with
  | nil => intro doc o; rfl
  | cons x r ih => intro doc o; simp [Sp.run, Sp.docAfter, ih]
theorem Sp.after_snoc (d e n : Int) : ∀ (l : List Sp.St) (doc : Sp.Doc) (o : Sp.St), Sp.docAfter d e n doc (l ++ [o]) = (Sp.step d e n (Sp.docAfter d e n doc l) o).2 := by
  intro l
  induction l with
  | nil => intro doc o; rfl
  | cons x r ih => intro doc o; simp [Sp.docAfter, ih]

/-- an answer -/
def ansA (a : Sp.Ans) : Value := .agg #[.int .i64 a.1, .int .i64 a.2.1, .string ⟨a.2.2.toArray⟩]
def ansV (c : Nat) (t : Sp.By) : Value := .agg #[.int .i64 c, .int .i64 0, .string ⟨t.toArray⟩]

set_option maxHeartbeats 1000000 in
theorem within_any (n a b : Int) (w : World) : Calls Tryz.prog 46 #[.int .i64 n, .int .i64 a, .int .i64 b] w fun e w' => e = .returned (.bool (Sp.inB n a b)) ∧ w' = w := by
  by_cases h1 : a ≤ n
  · by_cases h2 : n ≤ b
    · have e1 : decide (a ≤ n) = true := by simpa using h1
      have e2 : decide (n ≤ b) = true := by simpa using h2
      have HE := hide (show Sp.inB n a b = true by unfold Sp.inB; rw [e1, e2]; rfl)
      clear h1 h2
      go_enter Tryz.func46, Tryz.ntmps46
      go_wp2_with (fail)
      go_ret
      exact ⟨by rw [unhide HE]; rfl, rfl⟩
    · have e1 : decide (a ≤ n) = true := by simpa using h1
      have e2 : decide (n ≤ b) = false := by simpa using h2
      have HE := hide (show Sp.inB n a b = false by unfold Sp.inB; rw [e1, e2]; rfl)
      clear h1 h2
      go_enter Tryz.func46, Tryz.ntmps46
      go_wp2_with (fail)
      go_ret
      exact ⟨by rw [unhide HE]; rfl, rfl⟩
  · have e1 : decide (a ≤ n) = false := by simpa using h1
    have HE := hide (show Sp.inB n a b = false by unfold Sp.inB; rw [e1]; rfl)
    clear h1
    go_enter Tryz.func46, Tryz.ntmps46
    go_wp2_with (fail)
    go_ret
    exact ⟨by rw [unhide HE]; rfl, rfl⟩

set_option maxHeartbeats 1000000 in
theorem isConfig_any (d e n : Int) (w : World) : Calls Tryz.prog 35 #[.agg #[.int .i64 d, .int .i64 e, .int .i64 n]] w fun x w' => x = .returned (.bool (Sp.cfg d e n)) ∧ Below w.heap.size w w' := by
  have hb : Below w.heap.size w (w.alloc (.cells #[.int .i64 d, .int .i64 e, .int .i64 n] 23)) := (Below.refl _ _).alloc (Nat.le_refl _) _
  go_enter Tryz.func35, Tryz.ntmps35
  go_wp2_with (fail)
  refine (within_any d 1 20 _).mono ?_
  rintro x w1 ⟨rfl, rfl⟩
  cases h1 : Sp.inB d 1 20 with
  | false =>
    have H1 := hide h1
    clear h1
    simp only
    go_wp2_with (fail)
    go_ret
    exact ⟨by unfold Sp.cfg; rw [unhide H1]; rfl, hb⟩
  | true =>
    have H1 := hide h1
    clear h1
    simp only
    go_wp2_with (fail)
    refine (within_any e 0 400 _).mono ?_
    rintro x w1 ⟨rfl, rfl⟩
    cases h2 : Sp.inB e 0 400 with
    | false =>
      have H2 := hide h2
      clear h2
      simp only
      go_wp2_with (fail)
      go_ret
      exact ⟨by unfold Sp.cfg; rw [unhide H1, unhide H2]; rfl, hb⟩
    | true =>
      have H2 := hide h2
      clear h2
      simp only
      go_wp2_with (fail)
      refine (within_any n 0 2000 _).mono ?_
      rintro x w1 ⟨rfl, rfl⟩
      go_wp2_with (fail)
      go_ret
      exact ⟨by unfold Sp.cfg; rw [unhide H1, unhide H2]; simp, hb⟩

set_option maxHeartbeats 1000000 in
theorem failed_any (c : Nat) (w : World) : Calls Tryz.prog 36 #[.int .i64 c] w fun x w' => x = .returned (ansV c []) ∧ Below w.heap.size w w' := by
  unfold ansV
  go_enter Tryz.func36, Tryz.ntmps36
  go_wp2_with (fail)
  refine bodyPost_ret (v := .agg #[.int .i64 c, .int .i64 0, .string ⟨([] : Sp.By).toArray⟩]) (by simp [results, Tryz.results36, go_sem]) rfl ⟨rfl, ?_⟩
  exact (Below.refl _ w).alloc (Nat.le_refl _) _

end Go.Proofs.YtmdaoepcjfbglaaGreatDoor

namespace Go.Proofs.YtmdaoepcjfbglaaGreatDoor
open Go.RowKit

/-- the session's block -/
def SB (w : World) (S : Nat) (d e n : Int) (p : Value) : Prop := w.heap[S]? = some (.cells #[.int .i64 d, .int .i64 e, .int .i64 n, p] 60 (0, 0))
section
variable {w : World} {S : Nat} {d e n : Int} {p : Value}
theorem SB.lt (h : SB w S d e n p) : S < w.heap.size := (Array.getElem?_eq_some_iff.1 h).1
theorem SB.c0 (h : SB w S d e n p) : w.cell? ⟨S, 0, none⟩ = some (.int .i64 d) := by simp [World.cell?, show w.heap[S]? = _ from h]
theorem SB.c1 (h : SB w S d e n p) : w.cell? ⟨S, 1, none⟩ = some (.int .i64 e) := by simp [World.cell?, show w.heap[S]? = _ from h]
theorem SB.c2 (h : SB w S d e n p) : w.cell? ⟨S, 2, none⟩ = some (.int .i64 n) := by simp [World.cell?, show w.heap[S]? = _ from h]
theorem SB.c3 (h : SB w S d e n p) : w.cell? ⟨S, 3, none⟩ = some p := by simp [World.cell?, show w.heap[S]? = _ from h]
theorem SB.fz (h : SB w S d e n p) (o : Nat) : w.frozen? ⟨S, o, none⟩ = false := by simp [World.frozen?, show w.heap[S]? = _ from h]
theorem SB.low {w' : World} (h : SB w S d e n p) (hb : Below w.heap.size w w') : SB w' S d e n p := (hb.block S h.lt).trans h
theorem SB.set3 (h : SB w S d e n p) (q : Value) : SB (w.setCell ⟨S, 3, none⟩ q) S d e n q := by
  simp only [SB, World.setCell, Array.getElem?_modify]
  rw [if_pos trivial, show w.heap[S]? = _ from h]; rfl
end

/-- the document's block -/
def DB (w : World) (D : Nat) (rp jn : Value) (ch : Bool) (iv : Value) : Prop := w.heap[D]? = some (.cells #[rp, jn, .bool ch, iv] 111 (0, 0))
section
variable {w : World} {D : Nat} {rp jn iv : Value} {ch : Bool}
theorem DB.lt (h : DB w D rp jn ch iv) : D < w.heap.size := (Array.getElem?_eq_some_iff.1 h).1
theorem DB.c0 (h : DB w D rp jn ch iv) : w.cell? ⟨D, 0, none⟩ = some rp := by simp [World.cell?, show w.heap[D]? = _ from h]
theorem DB.c1 (h : DB w D rp jn ch iv) : w.cell? ⟨D, 1, none⟩ = some jn := by simp [World.cell?, show w.heap[D]? = _ from h]
theorem DB.c2 (h : DB w D rp jn ch iv) : w.cell? ⟨D, 2, none⟩ = some (.bool ch) := by simp [World.cell?, show w.heap[D]? = _ from h]
theorem DB.c3 (h : DB w D rp jn ch iv) : w.cell? ⟨D, 3, none⟩ = some iv := by simp [World.cell?, show w.heap[D]? = _ from h]
theorem DB.kept (h : DB w D rp jn ch iv) {w' : World} (hk : w'.heap[D]? = w.heap[D]?) : DB w' D rp jn ch iv := hk.trans h
end
/-- a row of one pointer -/
def OneP (w : World) (g : Nat) (wp : Value) : Prop := w.heap[g]? = some (.cells #[wp] 76 (0, 0))
theorem OneP.lt {w : World} {g : Nat} {wp : Value} (h : OneP w g wp) : g < w.heap.size := (Array.getElem?_eq_some_iff.1 h).1
theorem OneP.c0 {w : World} {g : Nat} {wp : Value} (h : OneP w g wp) : w.cell? ⟨g, 0, none⟩ = some wp := by simp [World.cell?, show w.heap[g]? = _ from h]

/-- Block D is a document: the value that wp points to, and what is to be taken back. -/
structure DocW (w : World) (F : Nat → Prop) (D R g : Nat) (wp : Value) (v : Sp.V × Sp.Inv) : Prop where
  fD : F D
  fR : F R
  fg : F g
  db : DB w D (.pointer (some ⟨R, 0, none⟩)) (.slice none 0 0) v.2.isSome (.slice none 0 0)
  rb : VB w R 5 n0 [] (.slice (some ⟨g, 0, none⟩) 1 1) (.map none)
  gb : OneP w g wp
  rep : Rep top F w wp v.1
  len : (Sp.can top v.1).length ≤ 80000
  gd : ∃ d x lv, Sp.gd d x top lv v.1
  inv : v.2 = none
theorem DocW.move {w w' : World} {F F' : Nat → Prop} {D R g : Nat} {wp : Value} {v : Sp.V × Sp.Inv} (h : DocW w F D R g wp v) (hF : ∀ k, F k → k < w.heap.size → w'.heap[k]? = w.heap[k]? ∧ F' k) : DocW w' F' D R g wp v :=
  ⟨(hF D h.fD h.db.lt).2, (hF R h.fR h.rb.lt).2, (hF g h.fg h.gb.lt).2, h.db.kept (hF D h.fD h.db.lt).1, h.rb.kept (hF R h.fR h.rb.lt).1, (hF g h.fg h.gb.lt).1.trans h.gb, h.rep.move hF, h.len, h.gd, h.inv⟩

/-- The pointer p leads to the document, through blocks of which F holds. -/
def DocF (w : World) (F : Nat → Prop) (p : Value) : Sp.Doc → Prop
  | none => p = .pointer none
  | some v => ∃ D R g wp, p = .pointer (some ⟨D, 0, none⟩) ∧ DocW w F D R g wp v
theorem DocF.move {w w' : World} {F F' : Nat → Prop} {p : Value} {doc : Sp.Doc} (h : DocF w F p doc) (hF : ∀ k, F k → k < w.heap.size → w'.heap[k]? = w.heap[k]? ∧ F' k) : DocF w' F' p doc := by
  cases doc with
  | none => exact h
  | some v =>
    obtain ⟨D, R, g, wp, hp, h⟩ := h
    exact ⟨D, R, g, wp, hp, h.move hF⟩

theorem Laid.drew {w : World} (h : Laid w) : Laid w.drew := ⟨h.ng, h.esc, h.words, h.utf8, h.pow, h.pesc, h.rng, h.mx⟩

/-- What New leaves. -/
def NewEnd (wp : Value) (w : World) (x : Ending) (w' : World) : Prop := ∃ D R g, x = .returned (.pointer (some ⟨D, 0, none⟩)) ∧ Below w.heap.size w w' ∧ w.heap.size ≤ D ∧ w.heap.size ≤ R ∧ w.heap.size ≤ g ∧
  DB w' D (.pointer (some ⟨R, 0, none⟩)) (.slice none 0 0) false (.slice none 0 0) ∧ VB w' R 5 n0 [] (.slice (some ⟨g, 0, none⟩) 1 1) (.map none) ∧ OneP w' g wp

set_option maxHeartbeats 2000000 in
theorem New_any (p : Option Addr) (w : World) : Calls Tryz.prog 48 #[.pointer p] w fun x w' => NewEnd (.pointer p) w x w' := by
  go_enter Tryz.func48, Tryz.ntmps48
  go_wp2_with (fail)
  go_ret
  refine ⟨w.heap.size + 1 + 1, w.heap.size + 1, w.heap.size, rfl, ?_, by omega, by omega, by omega, ?_, ?_, ?_⟩
  · exact (((Below.refl _ w).alloc (Nat.le_refl _) _).alloc (by simp) _).alloc (by simp; omega) _
  · show (((w.heap.push _).push _).push _)[w.heap.size + 1 + 1]? = _
    simp only [Array.getElem?_push, Array.size_push]
    rw [if_pos trivial]
  · show (((w.heap.push _).push _).push _)[w.heap.size + 1]? = _
    simp only [Array.getElem?_push, Array.size_push]
    rw [if_neg (by omega), if_pos trivial]
  · show (((w.heap.push _).push _).push _)[w.heap.size]? = _
    simp only [Array.getElem?_push, Array.size_push]
    rw [if_neg (by omega), if_neg (by omega), if_pos trivial]

set_option maxHeartbeats 2000000 in
theorem Whole_any {w : World} {F : Nat → Prop} {D R g : Nat} {wp : Value} {v : Sp.V × Sp.Inv} (h : DocW w F D R g wp v) : Calls Tryz.prog 50 #[.pointer (some ⟨D, 0, none⟩)] w fun x w' => x = .returned wp ∧ Below w.heap.size w w' := by
  have c0 := h.db.c0
  have c5 := h.rb.c5
  have cg := h.gb.c0
  clear h
  go_enter Tryz.func50, Tryz.ntmps50
  go_wp2_with (fail)
  go_ret
  exact ⟨rfl, Below.refl _ _⟩

/-- Read, its ends in one form. -/
theorem Read_one (s : Sp.By) (d e : Int) (w : World) (hT : Laid w) :
    Calls Tryz.prog 68 #[.string ⟨s.toArray⟩, .int .i64 d, .int .i64 e] w fun x w' => ∃ (p : Option Addr) (c : Nat), x = .returned (.tuple #[.pointer p, .int .i64 c]) ∧ Below w.heap.size w w' ∧
      ((0 < c ∧ Sp.readTo s d e = (c, none)) ∨ (c = 0 ∧ ∃ v, Sp.readTo s d e = (0, some v) ∧ Rep top (fun k => w.heap.size ≤ k) w' (.pointer p) v)) := by
  refine (Read_any ⟨s.toArray⟩ d e w hT).mono ?_
  rintro x w' ⟨hb, hc⟩
  rcases hc with ⟨c, h1, h2, rfl⟩ | ⟨v, p, h1, rfl, h2⟩
  · exact ⟨none, c, rfl, hb, Or.inl ⟨h2, h1⟩⟩
  · exact ⟨some p, 0, rfl, hb, Or.inr ⟨rfl, v, h1, h2⟩⟩

set_option maxHeartbeats 2000000 in
theorem sread_any {S : Nat} {d e n : Int} {p : Value} {w : World} (s : Sp.By) (h : SB w S d e n p) (hT : Laid w) :
    Calls Tryz.prog 47 #[.pointer (some ⟨S, 0, none⟩), .string ⟨s.toArray⟩] w fun x w' => ∃ (p : Option Addr) (c : Nat), x = .returned (.tuple #[.pointer p, .int .i64 c]) ∧ Below w.heap.size w w' ∧
      ((0 < c ∧ Sp.readTo s d e = (c, none)) ∨ (c = 0 ∧ ∃ v, Sp.readTo s d e = (0, some v) ∧ Rep top (fun k => w.heap.size ≤ k) w' (.pointer p) v)) := by
  have c0 := h.c0
  have c1 := h.c1
  have HR := hide (fun (w0 : World) (hT : Laid w0) => Read_one s d e w0 hT)
  have HT := hide hT
  clear hT h
  go_enter Tryz.func47, Tryz.ntmps47
  go_wp2_with (fail)
  go_region_with (go_at_call 68; refine (unhide HR _ ?_).mono ?_; exact (unhide HT).drew; rintro x w2 ⟨p2, c, rfl, hb2, hc⟩)
  all_goals (
    replace hb2 : Below w.heap.size w w2 := ⟨hb2.os, hb2.tape, hb2.output, hb2.size, hb2.block⟩
    replace hc : (0 < c ∧ Sp.readTo s d e = (c, none)) ∨ (c = 0 ∧ ∃ v, Sp.readTo s d e = (0, some v) ∧ Rep top (fun k => w.heap.size ≤ k) w2 (.pointer p2) v) := hc
    have HB := hide hb2
    have HC := hide hc
    clear hb2 hc
    go_wp2_with (fail)
    go_ret2
    exact ⟨p2, c, rfl, unhide HB, unhide HC⟩)

/-- a result's block -/
def AB (w : World) (g : Nat) : Prop := w.heap[g]? = some (.cells #[.int .i64 0, .int .i64 0, .string ⟨#[]⟩] 46 (0, 0))
section
variable {w : World} {g : Nat}
theorem AB.lt (h : AB w g) : g < w.heap.size := (Array.getElem?_eq_some_iff.1 h).1
theorem AB.c0 (h : AB w g) : w.cell? ⟨g, 0, none⟩ = some (.int .i64 0) := by simp [World.cell?, show w.heap[g]? = _ from h]
theorem AB.c1 (h : AB w g) : w.cell? ⟨g, 1, none⟩ = some (.int .i64 0) := by simp [World.cell?, show w.heap[g]? = _ from h]
theorem AB.c2 (h : AB w g) : w.cell? ⟨g, 2, none⟩ = some (.string ⟨#[]⟩) := by simp [World.cell?, show w.heap[g]? = _ from h]
theorem AB.fz (h : AB w g) (o : Nat) : w.frozen? ⟨g, o, none⟩ = false := by simp [World.frozen?, show w.heap[g]? = _ from h]
theorem AB.low {w' : World} (h : AB w g) (hb : Below w.heap.size w w') : AB w' g := (hb.block g h.lt).trans h
theorem AB.new (w : World) : AB (w.alloc (.cells #[.int .i64 0, .int .i64 0, .string ⟨#[]⟩] 46)) w.heap.size := by
  show (w.heap.push _)[w.heap.size]? = _
  simp
end
theorem below_set {B : Nat} {w w' : World} (h : Below B w w') (b o : Nat) (hb : B ≤ b) (u : Value) : Below B w (w'.setCell ⟨b, o, none⟩ u) := h.setCell (by exact hb) u

set_option maxHeartbeats 2000000 in
theorem load_any {S : Nat} {d e n : Int} {p : Value} {doc : Sp.Doc} {w : World} {F : Nat → Prop} (s : Sp.By) (h : SB w S d e n p) (hd : DocF w F p doc) (hT : Laid w) :
    Calls Tryz.prog 37 #[.pointer (some ⟨S, 0, none⟩), .string ⟨s.toArray⟩] w fun x w' => KeptX S w w' ∧ ∃ c doc' p', ((∃ v, Sp.readTo s d e = (0, some v) ∧ c = 0 ∧ doc' = some (v, none)) ∨ (0 < c ∧ Sp.readTo s d e = (c, none) ∧ doc' = doc)) ∧
      x = .returned (ansV c []) ∧ SB w' S d e n p' ∧ DocF w' (fun k => (F k ∧ k < w.heap.size) ∨ w.heap.size ≤ k) p' doc' := by
  have c0 := h.c0
  have c1 := h.c1
  have hlt := h.lt
  have hba : Below w.heap.size w (w.alloc (.cells #[.int .i64 0, .int .i64 0, .string ⟨#[]⟩] 46)) := (Below.refl _ _).alloc (Nat.le_refl _) _
  have hTa := hT.below (hba.mono hT.ng)
  have h0 := h.low hba
  have HR := hide hTa
  have HS := hide h0
  have HD := hide hd
  have HAB := hide (AB.new w)
  clear hT h hd h0
  go_enter Tryz.func37, Tryz.ntmps37
  go_wp2_with (fail)
  refine (sread_any s (unhide HS) (unhide HR)).mono ?_
  rintro x w2 ⟨p2, c, rfl, hb2, hc⟩
  · replace hb2 : Below (w.alloc (.cells #[.int .i64 0, .int .i64 0, .string ⟨#[]⟩] 46)).heap.size (w.alloc (.cells #[.int .i64 0, .int .i64 0, .string ⟨#[]⟩] 46)) w2 := ⟨hb2.os, hb2.tape, hb2.output, hb2.size, hb2.block⟩
    replace hc : (0 < c ∧ Sp.readTo s d e = (c, none)) ∨ (c = 0 ∧ ∃ v, Sp.readTo s d e = (0, some v) ∧ Rep top (fun k => w.heap.size + 1 ≤ k) w2 (.pointer p2) v) := hc.imp id fun ⟨a, v, b, c⟩ => ⟨a, v, b, c.move fun k h1 h2 => ⟨rfl, by simpa using h1⟩⟩
    have s2 := (unhide HS).low hb2
    have a2 := (unhide HAB).low hb2
    have hb02 : Below w.heap.size w w2 := hba.trans (hb2.mono (by simp))
    have hsz : w.heap.size + 1 ≤ w2.heap.size := by have := hb2.size; simpa using this
    rcases hc with ⟨hpos, hrd⟩ | ⟨rfl, v, hrd, hrep⟩
    · have HRD := hide hrd
      have e0 : ((c : Int) != 0) = true := by simp; omega
      have A2 := hide a2
      have S2 := hide s2
      have HB := hide hb02
      clear hrd a2 s2 hb2 hb02
      go_wp2_with (fail)
      refine (failed_any c w2).mono ?_
      rintro x w3 ⟨rfl, hb3⟩
      have a3 := (unhide A2).low hb3
      have g0 := a3.c0
      have g1 := a3.c1
      have g2 := a3.c2
      have z := a3.fz
      have hb03 : Below w.heap.size w w3 := (unhide HB).trans (hb3.mono (by omega))
      have HB3 := hide hb03
      have S3 := hide ((unhide S2).low hb3)
      clear a3 hb3 hb03
      unfold ansV
      go_wp2_with (fail)
      refine bodyPost_ret (v := ansV c []) (by simp [results, Tryz.results37, go_sem, ansV, g0, g1, g2]) rfl ?_
      have hbl := below_set (below_set (below_set (unhide HB3) w.heap.size 0 (Nat.le_refl _) (.int .i64 c)) w.heap.size 1 (Nat.le_refl _) (.int .i64 0)) w.heap.size 2 (Nat.le_refl _) (.string ⟨([] : Sp.By).toArray⟩)
      refine ⟨KeptX.of_below hbl, c, doc, p, Or.inr ⟨hpos, unhide HRD, rfl⟩, rfl, ?_, (unhide HD).move fun k h1 h2 => ⟨hbl.block k h2, Or.inl ⟨h1, h2⟩⟩⟩
      exact (hbl.block S hlt).trans ((Below.heap_alloc _ _ _ hlt).symm.trans (unhide HS))
    · have HRD := hide hrd
      have A2 := hide a2
      have S2 := hide s2
      have HB := hide hb02
      have HREP := hide hrep
      have hSg : S ≠ w.heap.size := by omega
      clear hrd a2 s2 hb2 hb02 hrep
      go_wp2_with (fail)
      refine (New_any p2 w2).mono ?_
      rintro x w3 ⟨D, R, g, rfl, hb3, hD, hR, hg, hdb, hrb, hgb⟩
      have a3 := (unhide A2).low hb3
      have s3 := (unhide S2).low hb3
      have hs3 := hb3.size
      have hr3 : Rep top (fun k => w.heap.size + 1 ≤ k) w3 (.pointer p2) v := (unhide HREP).move fun k h1 h2 => ⟨hb3.block k h2, h1⟩
      have zs := s3.fz
      have q3 := s3.c3
      have g0 := a3.c0
      have g1 := a3.c1
      have g2 := a3.c2
      have z := a3.fz
      have S3 := hide s3
      have HB3 := hide ((unhide HB).trans (hb3.mono (unhide HB).size))
      have HR3 := hide hr3
      have HDB := hide hdb
      have HRB := hide hrb
      have HGB := hide hgb
      clear a3 s3 hb3 hr3 hdb hrb hgb HREP A2 S2
      go_wp2_with (fail)
      refine bodyPost_ret (v := ansV 0 []) (by simp [results, Tryz.results37, go_sem, ansV, g0, g1, g2]) rfl ?_
      have hk : KeptX S w ((((w3.setCell ⟨S, 3, none⟩ (.pointer (some ⟨D, 0, none⟩))).setCell ⟨w.heap.size, 0, none⟩ (.int .i64 0)).setCell ⟨w.heap.size, 1, none⟩ (.int .i64 0)).setCell ⟨w.heap.size, 2, none⟩ (.string ⟨#[]⟩)) :=
        ((((KeptX.of_below (unhide HB3)).setCell (p := ⟨S, 3, none⟩) rfl _).setCell_new (p := ⟨w.heap.size, 0, none⟩) (Nat.le_refl _) _).setCell_new (p := ⟨w.heap.size, 1, none⟩) (Nat.le_refl _) _).setCell_new (p := ⟨w.heap.size, 2, none⟩) (Nat.le_refl _) _
      have ho : ∀ k, k ≠ w.heap.size → ((((w3.setCell ⟨S, 3, none⟩ (.pointer (some ⟨D, 0, none⟩))).setCell ⟨w.heap.size, 0, none⟩ (.int .i64 0)).setCell ⟨w.heap.size, 1, none⟩ (.int .i64 0)).setCell ⟨w.heap.size, 2, none⟩ (.string ⟨#[]⟩)).heap[k]? = (w3.setCell ⟨S, 3, none⟩ (.pointer (some ⟨D, 0, none⟩))).heap[k]? := fun k hk =>
        (Below.heap_setCell _ _ _ _ hk).trans ((Below.heap_setCell _ _ _ _ hk).trans (Below.heap_setCell _ _ _ _ hk))
      have ho2 : ∀ k, w.heap.size + 1 ≤ k → ((((w3.setCell ⟨S, 3, none⟩ (.pointer (some ⟨D, 0, none⟩))).setCell ⟨w.heap.size, 0, none⟩ (.int .i64 0)).setCell ⟨w.heap.size, 1, none⟩ (.int .i64 0)).setCell ⟨w.heap.size, 2, none⟩ (.string ⟨#[]⟩)).heap[k]? = w3.heap[k]? := fun k hk =>
        (ho k (by omega)).trans (Below.heap_setCell _ _ _ _ (by show k ≠ S; omega))
      refine ⟨hk, 0, some (v, none), .pointer (some ⟨D, 0, none⟩), Or.inl ⟨v, unhide HRD, rfl, rfl⟩, rfl, (ho S hSg).trans ((unhide S3).set3 _), D, R, g, .pointer p2, rfl, ?_⟩
      exact ⟨Or.inr (by omega), Or.inr (by omega), Or.inr (by omega), (unhide HDB).kept (ho2 D (by omega)), (unhide HRB).kept (ho2 R (by omega)), (ho2 g (by omega)).trans (unhide HGB), (unhide HR3).move fun k h1 h2 => ⟨ho2 k h1, Or.inr (by omega)⟩, read_bd (unhide HRD) top, ⟨d, e, 1, read_gd (unhide HRD)⟩, rfl⟩

/-- what get does -/
def GetOk : Prop := ∀ (S : Nat) (d e n : Int) (p : Value) (v : Sp.V × Sp.Inv) (F : Nat → Prop) (s : Sp.By) (w : World), s.length ≤ 1048576 → SB w S d e n p → DocF w F p (some v) → Laid w →
  Calls Tryz.prog 51 #[.pointer (some ⟨S, 0, none⟩), .string ⟨s.toArray⟩] w fun x w' => x = .returned (ansA (Sp.gotA v.1 s)) ∧ Below w.heap.size w w'
/-- what test does -/
def TestOk : Prop := ∀ (S : Nat) (d e n : Int) (p : Value) (v : Sp.V × Sp.Inv) (F : Nat → Prop) (s t : Sp.By) (w : World), s.length ≤ 1048576 → SB w S d e n p → DocF w F p (some v) → Laid w →
  Calls Tryz.prog 52 #[.pointer (some ⟨S, 0, none⟩), .string ⟨s.toArray⟩, .string ⟨t.toArray⟩] w fun x w' => x = .returned (ansA (Sp.tst d e v.1 s t, 0, [])) ∧ Below w.heap.size w w'
/-- a step that is walked -/
def Fine (o : Sp.St) : Prop := (o.1 < 3 ∨ 9 < o.1) ∨ ((o.1 = 3 ∨ o.1 = 4) ∧ GetOk ∧ TestOk ∧ o.2.1.length ≤ 1048576)

set_option maxHeartbeats 2000000 in
theorem ask_any {S : Nat} {d e n k : Int} {p : Value} {v : Sp.V × Sp.Inv} {w : World} {F : Nat → Prop} (s t : Sp.By) (hf : Fine (k, s, t)) (h : SB w S d e n p) (hd : DocF w F p (some v)) (hT : Laid w) :
    Calls Tryz.prog 38 #[.pointer (some ⟨S, 0, none⟩), .agg #[.int .i64 k, .string ⟨s.toArray⟩, .string ⟨t.toArray⟩]] w fun x w' => x = .returned (ansA (Sp.ask d e v.1 (k, s, t))) ∧ Below w.heap.size w w' := by
  have hlt := h.lt
  have hba : Below w.heap.size w ((w.alloc (.cells #[.int .i64 k, .string ⟨s.toArray⟩, .string ⟨t.toArray⟩] 49)).alloc (.cells #[.int .i64 0, .int .i64 0, .string ⟨#[]⟩] 46)) := ((Below.refl _ _).alloc (Nat.le_refl _) _).alloc (by simp) _
  have hTa := hT.below (hba.mono hT.ng)
  have h0 := h.low hba
  have hd0 : DocF _ F p (some v) := hd.move fun k h1 h2 => ⟨hba.block k h2, h1⟩
  have a0 := AB.new (w.alloc (.cells #[.int .i64 k, .string ⟨s.toArray⟩, .string ⟨t.toArray⟩] 49))
  have c3 := h0.c3
  have hz : (w.alloc (.cells #[.int .i64 k, .string ⟨s.toArray⟩, .string ⟨t.toArray⟩] 49)).heap.size = w.heap.size + 1 := by simp
  have o0 : ((w.alloc (.cells #[.int .i64 k, .string ⟨s.toArray⟩, .string ⟨t.toArray⟩] 49)).alloc (.cells #[.int .i64 0, .int .i64 0, .string ⟨#[]⟩] 46)).heap[w.heap.size]? = some (.cells #[.int .i64 k, .string ⟨s.toArray⟩, .string ⟨t.toArray⟩] 49 (0, 0)) := by
    show ((w.heap.push _).push _)[w.heap.size]? = _
    simp [Array.getElem?_push]
  rw [hz] at a0
  obtain ⟨D, R, g, wp, rfl, hdw⟩ := hd0
  have HA := hide a0
  have HDW := hide hdw
  have HT := hide hTa
  have H0 := hide h0
  have HF := hide hf
  clear h hd hT h0 hdw hTa a0 hf o0
  by_cases h2 : k = 2
  · have HE := hide (show Sp.ask d e v.1 (k, s, t) = (0, 0, Sp.can top v.1) by unfold Sp.ask; rw [if_pos h2])
    subst h2
    go_enter Tryz.func38, Tryz.ntmps38
    go_wp2_with (fail)
    refine (Whole_any (unhide HDW)).mono ?_
    rintro x w1 ⟨rfl, hb1⟩
    have hr1 : Rep top F w1 wp v.1 := (unhide HDW).rep.move fun k h1 h2 => ⟨hb1.block k h2, h1⟩
    have HT1 := hide ((unhide HT).below (hb1.mono (unhide HT).ng))
    have A1 := hide ((unhide HA).low hb1)
    have HB1 := hide (show Below w.heap.size w w1 from hba.trans (hb1.mono (by simp; omega)))
    have HR1 := hide hr1
    have hs1 := hb1.size
    clear hb1 hr1
    go_wp2_with (fail)
    refine (Canonical_any (unhide HR1) (unhide HT1) (Nat.le_trans (unhide HDW).len (by omega))).mono ?_
    rintro x w2 ⟨rfl, hb2⟩
    have a1 := (unhide A1).low hb2
    have g0 := a1.c0
    have g1 := a1.c1
    have g2 := a1.c2
    have z := a1.fz
    have HB := hide ((unhide HB1).trans (hb2.mono (unhide HB1).size))
    clear a1 hb2
    go_wp2_with (fail)
    refine bodyPost_ret (v := ansV 0 (Sp.can top v.1)) (by simp [results, Tryz.results38, go_sem, ansV, g0, g1, g2]) rfl ⟨?_, ?_⟩
    · rw [unhide HE]; rfl
    · exact below_set (below_set (below_set (unhide HB) _ 0 (by omega) _) _ 1 (by omega) _) _ 2 (by omega) _
  by_cases h3 : k = 3
  · have HE := hide (show Sp.ask d e v.1 (k, s, t) = Sp.gotA v.1 s by unfold Sp.ask; rw [if_neg h2, if_pos h3])
    have hfine : GetOk ∧ s.length ≤ 1048576 := by
      rcases unhide HF with h | ⟨_, h, _, h'⟩
      · simp only at h; omega
      · exact ⟨h, h'⟩
    have HCALL := hide (hfine.1 S d e n _ v F s _ hfine.2 (unhide H0) ⟨D, R, g, wp, rfl, unhide HDW⟩ (unhide HT))
    obtain ⟨A, hA⟩ : ∃ A, A = Sp.gotA v.1 s := ⟨_, rfl⟩
    rw [← hA] at HE HCALL
    subst h3
    clear hA hfine h2
    go_enter Tryz.func38, Tryz.ntmps38
    go_wp2_with (fail)
    refine (unhide HCALL).mono ?_
    rintro x w1 ⟨rfl, hb1⟩
    have a1 := (unhide HA).low hb1
    have g0 := a1.c0
    have g1 := a1.c1
    have g2 := a1.c2
    have z := a1.fz
    have HB := hide (show Below w.heap.size w w1 from hba.trans (hb1.mono (by simp; omega)))
    clear a1 hb1
    unfold ansA
    go_wp2_with (fail)
    refine bodyPost_ret (v := ansA A) (by simp [results, Tryz.results38, go_sem, ansA, g0, g1, g2]) rfl ⟨?_, ?_⟩
    · rw [unhide HE]
    · exact below_set (below_set (below_set (unhide HB) _ 0 (by omega) _) _ 1 (by omega) _) _ 2 (by omega) _
  by_cases h4 : k = 4
  · have HE := hide (show Sp.ask d e v.1 (k, s, t) = (Sp.tst d e v.1 s t, 0, []) by unfold Sp.ask; rw [if_neg h2, if_neg h3, if_pos h4])
    have hfine : TestOk ∧ s.length ≤ 1048576 := by
      rcases unhide HF with h | ⟨_, _, h, h'⟩
      · simp only at h; omega
      · exact ⟨h, h'⟩
    have HCALL := hide (hfine.1 S d e n _ v F s t _ hfine.2 (unhide H0) ⟨D, R, g, wp, rfl, unhide HDW⟩ (unhide HT))
    obtain ⟨A, hA⟩ : ∃ A : Sp.Ans, A = (Sp.tst d e v.1 s t, 0, []) := ⟨_, rfl⟩
    rw [← hA] at HE HCALL
    subst h4
    clear hA hfine h2 h3
    go_enter Tryz.func38, Tryz.ntmps38
    go_wp2_with (fail)
    refine (unhide HCALL).mono ?_
    rintro x w1 ⟨rfl, hb1⟩
    have a1 := (unhide HA).low hb1
    have g0 := a1.c0
    have g1 := a1.c1
    have g2 := a1.c2
    have z := a1.fz
    have HB := hide (show Below w.heap.size w w1 from hba.trans (hb1.mono (by simp; omega)))
    clear a1 hb1
    unfold ansA
    go_wp2_with (fail)
    refine bodyPost_ret (v := ansA A) (by simp [results, Tryz.results38, go_sem, ansA, g0, g1, g2]) rfl ⟨?_, ?_⟩
    · rw [unhide HE]
    · exact below_set (below_set (below_set (unhide HB) _ 0 (by omega) _) _ 1 (by omega) _) _ 2 (by omega) _
  have HE := hide (show Sp.ask d e v.1 (k, s, t) = (1, 0, []) by unfold Sp.ask; rw [if_neg h2, if_neg h3, if_neg h4])
  have hk : k < 3 ∨ 9 < k := by
    rcases unhide HF with h | ⟨h, _⟩
    · exact h
    · simp only at h; omega
  have e2 : (k == 2) = false := by simpa using h2
  have e3 : (k == 3) = false := by simpa using h3
  have e4 : (k == 4) = false := by simpa using h4
  have e5 : (k == 5) = false := by rw [beq_eq_false_iff_ne]; omega
  have e7 : (k == 7) = false := by rw [beq_eq_false_iff_ne]; omega
  clear h2 h3 h4 hk
  go_enter Tryz.func38, Tryz.ntmps38
  go_wp2_with (fail)
  refine (failed_any 1 _).mono ?_
  rintro x w1 ⟨rfl, hb1⟩
  have a1 := (unhide HA).low hb1
  have g0 := a1.c0
  have g1 := a1.c1
  have g2 := a1.c2
  have z := a1.fz
  have hb01 : Below w.heap.size w w1 := hba.trans (hb1.mono (by simp; omega))
  have HB := hide hb01
  clear a1 hb1 hb01
  unfold ansV
  go_wp2_with (fail)
  refine bodyPost_ret (v := ansV 1 []) (by simp [results, Tryz.results38, go_sem, ansV, g0, g1, g2]) rfl ⟨?_, ?_⟩
  · rw [unhide HE]; rfl
  · exact below_set (below_set (below_set (unhide HB) _ 0 (by omega) _) _ 1 (by omega) _) _ 2 (by omega) _

end Go.Proofs.YtmdaoepcjfbglaaGreatDoor

namespace Go.Proofs.YtmdaoepcjfbglaaGreatDoor
open Go.RowKit

/-- a script's steps as plain data -/
def stV (o : Sp.St) : Value := .agg #[.int .i64 o.1, .string ⟨o.2.1.toArray⟩, .string ⟨o.2.2.toArray⟩]

/-- What step leaves. -/
def StepEnd (S : Nat) (d e n : Int) (doc : Sp.Doc) (o : Sp.St) (F : Nat → Prop) (w : World) (x : Ending) (w' : World) : Prop :=
  KeptX S w w' ∧ x = .returned (ansA (Sp.step d e n doc o).1) ∧ ∃ p', SB w' S d e n p' ∧ DocF w' (fun k => (F k ∧ k < w.heap.size) ∨ w.heap.size ≤ k) p' (Sp.step d e n doc o).2

theorem StepEnd.low {S : Nat} {d e n : Int} {doc : Sp.Doc} {o : Sp.St} {F : Nat → Prop} {w w' : World} {a : Sp.Ans} {p : Value} (he : Sp.step d e n doc o = (a, doc)) (h : SB w S d e n p) (hd : DocF w F p doc) (hb : Below w.heap.size w w') :
    StepEnd S d e n doc o F w (.returned (ansA a)) w' := by
  unfold StepEnd
  rw [he]
  exact ⟨KeptX.of_below hb, rfl, p, h.low hb, hd.move fun k h1 h2 => ⟨hb.block k h2, Or.inl ⟨h1, h2⟩⟩⟩

set_option maxHeartbeats 4000000 in
theorem step_any {S : Nat} {d e n : Int} {p : Value} {doc : Sp.Doc} {w : World} {F : Nat → Prop} (k : Int) (s t : Sp.By) (hf : Fine (k, s, t)) (h : SB w S d e n p) (hd : DocF w F p doc) (hT : Laid w) :
    Calls Tryz.prog 31 #[.pointer (some ⟨S, 0, none⟩), .agg #[.int .i64 k, .string ⟨s.toArray⟩, .string ⟨t.toArray⟩]] w fun x w' => StepEnd S d e n doc (k, s, t) F w x w' := by
  have HFN := hide hf
  clear hf
  have hlt := h.lt
  have hba : Below w.heap.size w ((w.alloc (.cells #[.int .i64 k, .string ⟨s.toArray⟩, .string ⟨t.toArray⟩] 49)).alloc (.cells #[.int .i64 0, .int .i64 0, .string ⟨#[]⟩] 46)) := ((Below.refl _ _).alloc (Nat.le_refl _) _).alloc (by simp) _
  have hTa := hT.below (hba.mono hT.ng)
  have h0 := h.low hba
  have hd0 : DocF _ F p doc := hd.move fun k h1 h2 => ⟨hba.block k h2, h1⟩
  have a0 := AB.new (w.alloc (.cells #[.int .i64 k, .string ⟨s.toArray⟩, .string ⟨t.toArray⟩] 49))
  have hz : (w.alloc (.cells #[.int .i64 k, .string ⟨s.toArray⟩, .string ⟨t.toArray⟩] 49)).heap.size = w.heap.size + 1 := by simp
  have o0 : ((w.alloc (.cells #[.int .i64 k, .string ⟨s.toArray⟩, .string ⟨t.toArray⟩] 49)).alloc (.cells #[.int .i64 0, .int .i64 0, .string ⟨#[]⟩] 46)).heap[w.heap.size]? = some (.cells #[.int .i64 k, .string ⟨s.toArray⟩, .string ⟨t.toArray⟩] 49 (0, 0)) := by
    show ((w.heap.push _).push _)[w.heap.size]? = _
    simp [Array.getElem?_push]
  rw [hz] at a0
  have c0 := h0.c0
  have c1 := h0.c1
  have c2 := h0.c2
  have HA := hide a0
  have H0 := hide h0
  have HD := hide hd0
  have HT := hide hTa
  have HH := hide h
  have HDD := hide hd
  have HO := hide o0
  clear h hd hT h0 hd0 hTa a0 o0
  go_enter Tryz.func31, Tryz.ntmps31
  go_wp2_with (fail)
  refine (isConfig_any d e n _).mono ?_
  rintro x w1 ⟨rfl, hb1⟩
  have h1 := (unhide H0).low hb1
  have d1 : DocF w1 F p doc := (unhide HD).move fun k h1 h2 => ⟨hb1.block k h2, h1⟩
  have a1 := (unhide HA).low hb1
  have T1 := (unhide HT).below (hb1.mono (unhide HT).ng)
  have o1 : w1.heap[w.heap.size]? = _ := (hb1.block w.heap.size (by simp; omega)).trans (unhide HO)
  have hb01 : Below w.heap.size w w1 := hba.trans (hb1.mono (by simp; omega))
  have hs1 : w.heap.size + 2 ≤ w1.heap.size := by have := hb1.size; simp at this; omega
  have q0 : w1.cell? ⟨w.heap.size, 0, none⟩ = some (.int .i64 k) := by simp [World.cell?, o1]
  have q1 : w1.cell? ⟨w.heap.size, 1, none⟩ = some (.string ⟨s.toArray⟩) := by simp [World.cell?, o1]
  have q2 : w1.cell? ⟨w.heap.size, 2, none⟩ = some (.string ⟨t.toArray⟩) := by simp [World.cell?, o1]
  have g0 := a1.c0
  have g1 := a1.c1
  have g2 := a1.c2
  have z := a1.fz
  have c3 := h1.c3
  have H1 := hide h1
  have D1 := hide d1
  have A1 := hide a1
  have TT1 := hide T1
  have HB1 := hide hb01
  clear h1 d1 a1 T1 o1 hb1 hb01 H0 HD HA HT HO c0 c1 c2 hba
  cases hcfg : Sp.cfg d e n with
  | false =>
    have HE := hide (show Sp.step d e n doc (k, s, t) = ((2, 0, []), doc) by unfold Sp.step; rw [hcfg]; rfl)
    clear hcfg
    simp only
    go_wp2_with (fail)
    refine (failed_any 2 _).mono ?_
    rintro x w2 ⟨rfl, hb2⟩
    have a2 := (unhide A1).low hb2
    clear g0 g1 g2 z q0 q1 q2 c3
    have g0 := a2.c0
    have g1 := a2.c1
    have g2 := a2.c2
    have z := a2.fz
    have HB2 := hide (show Below w.heap.size w w2 from (unhide HB1).trans (hb2.mono (by omega)))
    clear a2 hb2
    unfold ansV
    go_wp2_with (fail)
    refine bodyPost_ret (v := ansV 2 []) (by simp [results, Tryz.results31, go_sem, ansV, g0, g1, g2]) rfl ?_
    exact StepEnd.low (unhide HE) (unhide HH) (unhide HDD) (below_set (below_set (below_set (unhide HB2) _ 0 (by omega) _) _ 1 (by omega) _) _ 2 (by omega) _)
  | true =>
    by_cases k1 : k < 1
    · have HE := hide (show Sp.step d e n doc (k, s, t) = ((1, 0, []), doc) by unfold Sp.step; rw [hcfg, if_pos rfl, if_pos (Or.inl k1)])
      have e1 : decide (k < 1) = true := by simpa using k1
      clear hcfg k1 c3
      simp only
      go_wp2_with (fail)
      refine (failed_any 1 _).mono ?_
      rintro x w2 ⟨rfl, hb2⟩
      have a2 := (unhide A1).low hb2
      clear g0 g1 g2 z q0 q1 q2
      have g0 := a2.c0
      have g1 := a2.c1
      have g2 := a2.c2
      have z := a2.fz
      have HB2 := hide (show Below w.heap.size w w2 from (unhide HB1).trans (hb2.mono (by omega)))
      clear a2 hb2
      unfold ansV
      go_wp2_with (fail)
      refine bodyPost_ret (v := ansV 1 []) (by simp [results, Tryz.results31, go_sem, ansV, g0, g1, g2]) rfl ?_
      exact StepEnd.low (unhide HE) (unhide HH) (unhide HDD) (below_set (below_set (below_set (unhide HB2) _ 0 (by omega) _) _ 1 (by omega) _) _ 2 (by omega) _)
    by_cases k9 : 9 < k
    · have HE := hide (show Sp.step d e n doc (k, s, t) = ((1, 0, []), doc) by unfold Sp.step; rw [hcfg, if_pos rfl, if_pos (Or.inr k9)])
      have e1 : decide (k < 1) = false := by simpa using k1
      have e9 : decide (9 < k) = true := by simpa using k9
      clear hcfg k1 k9 c3
      simp only
      go_wp2_with (fail)
      refine (failed_any 1 _).mono ?_
      rintro x w2 ⟨rfl, hb2⟩
      have a2 := (unhide A1).low hb2
      clear g0 g1 g2 z q0 q1 q2
      have g0 := a2.c0
      have g1 := a2.c1
      have g2 := a2.c2
      have z := a2.fz
      have HB2 := hide (show Below w.heap.size w w2 from (unhide HB1).trans (hb2.mono (by omega)))
      clear a2 hb2
      unfold ansV
      go_wp2_with (fail)
      refine bodyPost_ret (v := ansV 1 []) (by simp [results, Tryz.results31, go_sem, ansV, g0, g1, g2]) rfl ?_
      exact StepEnd.low (unhide HE) (unhide HH) (unhide HDD) (below_set (below_set (below_set (unhide HB2) _ 0 (by omega) _) _ 1 (by omega) _) _ 2 (by omega) _)
    by_cases kl : k = 1
    · subst kl
      have HE := hide (show Sp.step d e n doc (1, s, t) = Sp.ldd (Sp.readTo s d e) doc by unfold Sp.step; rw [hcfg, if_pos rfl, if_neg (by simp), if_pos rfl])
      clear hcfg k1 k9 c3
      simp only
      go_wp2_with (fail)
      have dF : DocF w1 (fun k => F k ∧ k < w.heap.size) p doc := (unhide HDD).move fun k h1 h2 => ⟨(unhide HB1).block k h2, h1, h2⟩
      have DF := hide dF
      clear dF
      refine (load_any s (unhide H1) (unhide DF) (unhide TT1)).mono ?_
      rintro x w2 ⟨hk2, c, doc', p', hcase, rfl, s2, d2⟩
      have hne : w.heap.size + 1 ≠ S := by omega
      have a2 : AB w2 (w.heap.size + 1) := (hk2.block _ (by omega) hne).trans (unhide A1)
      clear g0 g1 g2 z q0 q1 q2
      have g0 := a2.c0
      have g1 := a2.c1
      have g2 := a2.c2
      have z := a2.fz
      have HB2 := hide (show KeptX S w w2 from (KeptX.of_below (unhide HB1)).trans hk2)
      have HS2 := hide s2
      have HD2 := hide d2
      have HC := hide hcase
      clear a2 hk2 s2 d2 hcase
      unfold ansV
      go_wp2_with (fail)
      refine bodyPost_ret (v := ansV c []) (by simp [results, Tryz.results31, go_sem, ansV, g0, g1, g2]) rfl ?_
      have hst : Sp.step d e n doc (1, s, t) = ((c, 0, []), doc') := by
        rw [unhide HE]
        rcases unhide HC with ⟨v, h1, rfl, rfl⟩ | ⟨hpos, h1, rfl⟩
        · rw [h1]; rfl
        · rw [h1]; rfl
      unfold StepEnd
      rw [hst]
      have ho : ∀ k, k ≠ w.heap.size + 1 → (((w2.setCell ⟨w.heap.size + 1, 0, none⟩ (.int .i64 c)).setCell ⟨w.heap.size + 1, 1, none⟩ (.int .i64 0)).setCell ⟨w.heap.size + 1, 2, none⟩ (.string ⟨([] : Sp.By).toArray⟩)).heap[k]? = w2.heap[k]? := fun k hk =>
        (Below.heap_setCell _ _ _ _ hk).trans ((Below.heap_setCell _ _ _ _ hk).trans (Below.heap_setCell _ _ _ _ hk))
      exact ⟨(((unhide HB2).setCell_new (p := ⟨w.heap.size + 1, 0, none⟩) (by simp) _).setCell_new (p := ⟨w.heap.size + 1, 1, none⟩) (by simp) _).setCell_new (p := ⟨w.heap.size + 1, 2, none⟩) (by simp) _, rfl, p', (ho S (Ne.symm hne)).trans (unhide HS2),
        (unhide HD2).move fun k h1 h2 => ⟨ho k (by omega), h1.elim (fun h => Or.inl h.1) (fun h => Or.inr (by omega))⟩⟩
    have e1 : decide (k < 1) = false := by simpa using k1
    have e9 : decide (9 < k) = false := by simpa using k9
    have el : (k == 1) = false := by simpa using kl
    cases hdoc : doc with
    | none =>
      subst hdoc
      have HE := hide (show Sp.step d e n none (k, s, t) = ((3, 0, []), none) by unfold Sp.step; rw [hcfg, if_pos rfl, if_neg (by simp; omega), if_neg kl])
      obtain rfl : p = .pointer none := unhide HDD
      clear hcfg k1 k9 kl
      simp only
      go_wp2_with (fail)
      refine (failed_any 3 _).mono ?_
      rintro x w2 ⟨rfl, hb2⟩
      have a2 := (unhide A1).low hb2
      clear g0 g1 g2 z q0 q1 q2
      have g0 := a2.c0
      have g1 := a2.c1
      have g2 := a2.c2
      have z := a2.fz
      have HB2 := hide (show Below w.heap.size w w2 from (unhide HB1).trans (hb2.mono (by omega)))
      clear a2 hb2
      unfold ansV
      go_wp2_with (fail)
      refine bodyPost_ret (v := ansV 3 []) (by simp [results, Tryz.results31, go_sem, ansV, g0, g1, g2]) rfl ?_
      exact StepEnd.low (unhide HE) (unhide HH) (unhide HDD) (below_set (below_set (below_set (unhide HB2) _ 0 (by omega) _) _ 1 (by omega) _) _ 2 (by omega) _)
    | some v =>
      subst hdoc
      have HE := hide (show Sp.step d e n (some v) (k, s, t) = (Sp.ask d e v.1 (k, s, t), some v) by unfold Sp.step; rw [hcfg, if_pos rfl, if_neg (by simp; omega), if_neg kl])
      have hD := unhide HDD
      obtain ⟨D, R, g, wp, rfl, _⟩ := hD
      clear hcfg k1 k9 kl
      simp only
      go_wp2_with (fail)
      refine (ask_any s t (unhide HFN) (unhide H1) (unhide D1) (unhide TT1)).mono ?_
      rintro x w2 ⟨rfl, hb2⟩
      obtain ⟨A, hA⟩ : ∃ A, A = Sp.ask d e v.1 (k, s, t) := ⟨_, rfl⟩
      rw [← hA] at HE ⊢
      have a2 := (unhide A1).low hb2
      clear g0 g1 g2 z q0 q1 q2 hA
      have g0 := a2.c0
      have g1 := a2.c1
      have g2 := a2.c2
      have z := a2.fz
      have HB2 := hide (show Below w.heap.size w w2 from (unhide HB1).trans (hb2.mono (by omega)))
      clear a2 hb2
      unfold ansA
      go_wp2_with (fail)
      refine bodyPost_ret (v := ansA A) (by simp [results, Tryz.results31, go_sem, ansA, g0, g1, g2]) rfl ?_
      exact StepEnd.low (unhide HE) (unhide HH) (unhide HDD) (below_set (below_set (below_set (unhide HB2) _ 0 (by omega) _) _ 1 (by omega) _) _ 2 (by omega) _)

end Go.Proofs.YtmdaoepcjfbglaaGreatDoor
