/-
  What a script's answers are, as plain functions; walks of within, isConfig, failed.
  Walks of load, ask, step.
  Walk of step.
-/
import Derived.Test.YtmegcejgjdkpfaaGreatDoorPart16
namespace Go.Proofs.YtmegcejgjdkpfaaGreatDoor
open Go.RowKit

def Sp.inB (n a b : Int) : Bool := decide (a ≤ n) && decide (n ≤ b)
def Sp.cfg (d e n : Int) : Bool := Sp.inB d 1 20 && (Sp.inB e 0 400 && Sp.inB n 0 2000)
/-- the document -/
abbrev Sp.Doc := Option Sp.V
/-- a step's kind and its text -/
abbrev Sp.St := Int × Sp.By
/-- what loading tells of what was read -/
def Sp.ldd (r : Nat × Option Sp.V) (doc : Sp.Doc) : (Nat × Sp.By) × Sp.Doc :=
  match r.2 with
  | some v => ((r.1, []), some v)
  | none => ((r.1, []), doc)
/-- one step: the code, the text; the document behind it -/
def Sp.step (d e n : Int) (doc : Sp.Doc) (o : Sp.St) : (Nat × Sp.By) × Sp.Doc :=
  if Sp.cfg d e n then
    (if o.1 < 1 ∨ 9 < o.1 then ((1, []), doc)
     else if o.1 = 1 then Sp.ldd (Sp.readTo o.2 d e) doc
     else match doc with
       | none => ((3, []), doc)
       | some v => if o.1 = 2 then ((0, Sp.can top v), doc) else ((1, []), doc))
  else ((2, []), doc)
def Sp.run (d e n : Int) : Sp.Doc → List Sp.St → List (Nat × Sp.By)
  | _, [] => []
  | doc, o :: r => (Sp.step d e n doc o).1 :: Sp.run d e n (Sp.step d e n doc o).2 r
/-- the document behind some steps -/
def Sp.docAfter (d e n : Int) : Sp.Doc → List Sp.St → Sp.Doc
  | doc, [] => doc
  | doc, o :: r => Sp.docAfter d e n (Sp.step d e n doc o).2 r

theorem Sp.run_len (d e n : Int) : ∀ (l : List Sp.St) (doc : Sp.Doc), (Sp.run d e n doc l).length = l.length := by
  intro l
  induction l with
  | nil => intro doc; rfl
  | cons o r ih => intro doc; simp [Sp.run, ih]
theorem Sp.run_take (d e n : Int) : ∀ (l : List Sp.St) (doc : Sp.Doc) (k : Nat), Sp.run d e n doc (l.take k) = (Sp.run d e n doc l).take k := by
  intro l
  induction l with
  | nil => intro doc k; simp [Sp.run]
  | cons o r ih =>
    intro doc k
    cases k with
    | zero => rfl
    | succ k => simp [Sp.run, ih]
theorem Sp.run_snoc (d e n : Int) : ∀ (l : List Sp.St) (doc : Sp.Doc) (o : Sp.St), Sp.run d e n doc (l ++ [o]) = Sp.run d e n doc l ++ [(Sp.step d e n (Sp.docAfter d e n doc l) o).1] := by
  intro l
  induction l with
  | nil => intro doc o; rfl
  | cons x r ih => intro doc o; simp [Sp.run, Sp.docAfter, ih]
theorem Sp.after_snoc (d e n : Int) : ∀ (l : List Sp.St) (doc : Sp.Doc) (o : Sp.St), Sp.docAfter d e n doc (l ++ [o]) = (Sp.step d e n (Sp.docAfter d e n doc l) o).2 := by
  intro l
  induction l with
  | nil => intro doc o; rfl
  | cons x r ih => intro doc o; simp [Sp.docAfter, ih]

/-- an answer -/
def ansV (c : Nat) (t : Sp.By) : Value := .agg #[.int .i64 c, .int .i64 0, .string ⟨t.toArray⟩]

set_option maxHeartbeats 1000000 in
theorem within_any (n a b : Int) (w : World) : Calls Tryz.prog 43 #[.int .i64 n, .int .i64 a, .int .i64 b] w fun e w' => e = .returned (.bool (Sp.inB n a b)) ∧ w' = w := by
  by_cases h1 : a ≤ n
  · by_cases h2 : n ≤ b
    · have e1 : decide (a ≤ n) = true := by simpa using h1
      have e2 : decide (n ≤ b) = true := by simpa using h2
      have HE := hide (show Sp.inB n a b = true by unfold Sp.inB; rw [e1, e2]; rfl)
      clear h1 h2
      go_enter Tryz.func43, Tryz.ntmps43
      go_wp2_with (fail)
      go_ret
      exact ⟨by rw [unhide HE]; rfl, rfl⟩
    · have e1 : decide (a ≤ n) = true := by simpa using h1
      have e2 : decide (n ≤ b) = false := by simpa using h2
      have HE := hide (show Sp.inB n a b = false by unfold Sp.inB; rw [e1, e2]; rfl)
      clear h1 h2
      go_enter Tryz.func43, Tryz.ntmps43
      go_wp2_with (fail)
      go_ret
      exact ⟨by rw [unhide HE]; rfl, rfl⟩
  · have e1 : decide (a ≤ n) = false := by simpa using h1
    have HE := hide (show Sp.inB n a b = false by unfold Sp.inB; rw [e1]; rfl)
    clear h1
    go_enter Tryz.func43, Tryz.ntmps43
    go_wp2_with (fail)
    go_ret
    exact ⟨by rw [unhide HE]; rfl, rfl⟩

set_option maxHeartbeats 1000000 in
theorem isConfig_any (d e n : Int) (w : World) : Calls Tryz.prog 32 #[.agg #[.int .i64 d, .int .i64 e, .int .i64 n]] w fun x w' => x = .returned (.bool (Sp.cfg d e n)) ∧ Below w.heap.size w w' := by
  have hb : Below w.heap.size w (w.alloc (.cells #[.int .i64 d, .int .i64 e, .int .i64 n] 23)) := (Below.refl _ _).alloc (Nat.le_refl _) _
  go_enter Tryz.func32, Tryz.ntmps32
  go_wp2_with (fail)
  refine (within_any d 1 20 _).mono ?_
  rintro x w1 ⟨rfl, rfl⟩
  cases h1 : Sp.inB d 1 20 with
  | false =>
    have H1 := hide h1
    clear h1
    simp only
    go_wp2_with (fail)
    go_ret
    exact ⟨by unfold Sp.cfg; rw [unhide H1]; rfl, hb⟩
  | true =>
    have H1 := hide h1
    clear h1
    simp only
    go_wp2_with (fail)
    refine (within_any e 0 400 _).mono ?_
    rintro x w1 ⟨rfl, rfl⟩
    cases h2 : Sp.inB e 0 400 with
    | false =>
      have H2 := hide h2
      clear h2
      simp only
      go_wp2_with (fail)
      go_ret
      exact ⟨by unfold Sp.cfg; rw [unhide H1, unhide H2]; rfl, hb⟩
    | true =>
      have H2 := hide h2
      clear h2
      simp only
      go_wp2_with (fail)
      refine (within_any n 0 2000 _).mono ?_
      rintro x w1 ⟨rfl, rfl⟩
      go_wp2_with (fail)
      go_ret
      exact ⟨by unfold Sp.cfg; rw [unhide H1, unhide H2]; simp, hb⟩

set_option maxHeartbeats 1000000 in
theorem failed_any (c : Nat) (w : World) : Calls Tryz.prog 33 #[.int .i64 c] w fun x w' => x = .returned (ansV c []) ∧ Below w.heap.size w w' := by
  unfold ansV
  go_enter Tryz.func33, Tryz.ntmps33
  go_wp2_with (fail)
  refine bodyPost_ret (v := .agg #[.int .i64 c, .int .i64 0, .string ⟨([] : Sp.By).toArray⟩]) (by simp [results, Tryz.results33, go_sem]) rfl ⟨rfl, ?_⟩
  exact (Below.refl _ w).alloc (Nat.le_refl _) _

end Go.Proofs.YtmegcejgjdkpfaaGreatDoor

namespace Go.Proofs.YtmegcejgjdkpfaaGreatDoor
open Go.RowKit

/-- the session's block -/
def SB (w : World) (S : Nat) (d e n : Int) (p : Value) : Prop := w.heap[S]? = some (.cells #[.int .i64 d, .int .i64 e, .int .i64 n, p] 58 (0, 0))
section
variable {w : World} {S : Nat} {d e n : Int} {p : Value}
theorem SB.lt (h : SB w S d e n p) : S < w.heap.size := (Array.getElem?_eq_some_iff.1 h).1
theorem SB.c0 (h : SB w S d e n p) : w.cell? ⟨S, 0, none⟩ = some (.int .i64 d) := by simp [World.cell?, show w.heap[S]? = _ from h]
theorem SB.c1 (h : SB w S d e n p) : w.cell? ⟨S, 1, none⟩ = some (.int .i64 e) := by simp [World.cell?, show w.heap[S]? = _ from h]
theorem SB.c2 (h : SB w S d e n p) : w.cell? ⟨S, 2, none⟩ = some (.int .i64 n) := by simp [World.cell?, show w.heap[S]? = _ from h]
theorem SB.c3 (h : SB w S d e n p) : w.cell? ⟨S, 3, none⟩ = some p := by simp [World.cell?, show w.heap[S]? = _ from h]
theorem SB.fz (h : SB w S d e n p) (o : Nat) : w.frozen? ⟨S, o, none⟩ = false := by simp [World.frozen?, show w.heap[S]? = _ from h]
theorem SB.low {w' : World} (h : SB w S d e n p) (hb : Below w.heap.size w w') : SB w' S d e n p := (hb.block S h.lt).trans h
theorem SB.set3 (h : SB w S d e n p) (q : Value) : SB (w.setCell ⟨S, 3, none⟩ q) S d e n q := by
  simp only [SB, World.setCell, Array.getElem?_modify]
  rw [if_pos trivial, show w.heap[S]? = _ from h]; rfl
end

/-- The pointer p leads to the document, through blocks of which F holds. -/
def DocF (w : World) (F : Nat → Prop) (p : Value) : Sp.Doc → Prop
  | none => p = .pointer none
  | some v => Rep top F w p v ∧ (Sp.can top v).length ≤ 80000
theorem DocF.move {w w' : World} {F F' : Nat → Prop} {p : Value} {doc : Sp.Doc} (h : DocF w F p doc) (hF : ∀ k, F k → k < w.heap.size → w'.heap[k]? = w.heap[k]? ∧ F' k) : DocF w' F' p doc := by
  cases doc with
  | none => exact h
  | some v => exact ⟨h.1.move hF, h.2⟩

theorem Laid.drew {w : World} (h : Laid w) : Laid w.drew := ⟨h.ng, h.esc, h.words, h.utf8, h.pow⟩

/-- Read, its ends in one form. -/
theorem Read_one (s : Sp.By) (d e : Int) (w : World) (hT : Laid w) :
    Calls Tryz.prog 61 #[.string ⟨s.toArray⟩, .int .i64 d, .int .i64 e] w fun x w' => ∃ (p : Option Addr) (c : Nat), x = .returned (.tuple #[.pointer p, .int .i64 c]) ∧ Below w.heap.size w w' ∧
      ((0 < c ∧ Sp.readTo s d e = (c, none)) ∨ (c = 0 ∧ ∃ v, Sp.readTo s d e = (0, some v) ∧ Rep top (fun k => w.heap.size ≤ k) w' (.pointer p) v)) := by
  refine (Read_any ⟨s.toArray⟩ d e w hT).mono ?_
  rintro x w' ⟨hb, hc⟩
  rcases hc with ⟨c, h1, h2, rfl⟩ | ⟨v, p, h1, rfl, h2⟩
  · exact ⟨none, c, rfl, hb, Or.inl ⟨h2, h1⟩⟩
  · exact ⟨some p, 0, rfl, hb, Or.inr ⟨rfl, v, h1, h2⟩⟩

set_option maxHeartbeats 2000000 in
theorem sread_any {S : Nat} {d e n : Int} {p : Value} {w : World} (s : Sp.By) (h : SB w S d e n p) (hT : Laid w) :
    Calls Tryz.prog 44 #[.pointer (some ⟨S, 0, none⟩), .string ⟨s.toArray⟩] w fun x w' => ∃ (p : Option Addr) (c : Nat), x = .returned (.tuple #[.pointer p, .int .i64 c]) ∧ Below w.heap.size w w' ∧
      ((0 < c ∧ Sp.readTo s d e = (c, none)) ∨ (c = 0 ∧ ∃ v, Sp.readTo s d e = (0, some v) ∧ Rep top (fun k => w.heap.size ≤ k) w' (.pointer p) v)) := by
  have c0 := h.c0
  have c1 := h.c1
  have HR := hide (fun (w0 : World) (hT : Laid w0) => Read_one s d e w0 hT)
  have HT := hide hT
  clear hT h
  go_enter Tryz.func44, Tryz.ntmps44
  go_wp2_with (fail)
  go_region_with (go_at_call 61; refine (unhide HR _ ?_).mono ?_; exact (unhide HT).drew; rintro x w2 ⟨p2, c, rfl, hb2, hc⟩)
  all_goals (
    replace hb2 : Below w.heap.size w w2 := ⟨hb2.os, hb2.tape, hb2.output, hb2.size, hb2.block⟩
    replace hc : (0 < c ∧ Sp.readTo s d e = (c, none)) ∨ (c = 0 ∧ ∃ v, Sp.readTo s d e = (0, some v) ∧ Rep top (fun k => w.heap.size ≤ k) w2 (.pointer p2) v) := hc
    have HB := hide hb2
    have HC := hide hc
    clear hb2 hc
    go_wp2_with (fail)
    go_ret2
    exact ⟨p2, c, rfl, unhide HB, unhide HC⟩)

/-- a result's block -/
def AB (w : World) (g : Nat) : Prop := w.heap[g]? = some (.cells #[.int .i64 0, .int .i64 0, .string ⟨#[]⟩] 46 (0, 0))
section
variable {w : World} {g : Nat}
theorem AB.lt (h : AB w g) : g < w.heap.size := (Array.getElem?_eq_some_iff.1 h).1
theorem AB.c0 (h : AB w g) : w.cell? ⟨g, 0, none⟩ = some (.int .i64 0) := by simp [World.cell?, show w.heap[g]? = _ from h]
theorem AB.c1 (h : AB w g) : w.cell? ⟨g, 1, none⟩ = some (.int .i64 0) := by simp [World.cell?, show w.heap[g]? = _ from h]
theorem AB.c2 (h : AB w g) : w.cell? ⟨g, 2, none⟩ = some (.string ⟨#[]⟩) := by simp [World.cell?, show w.heap[g]? = _ from h]
theorem AB.fz (h : AB w g) (o : Nat) : w.frozen? ⟨g, o, none⟩ = false := by simp [World.frozen?, show w.heap[g]? = _ from h]
theorem AB.low {w' : World} (h : AB w g) (hb : Below w.heap.size w w') : AB w' g := (hb.block g h.lt).trans h
theorem AB.new (w : World) : AB (w.alloc (.cells #[.int .i64 0, .int .i64 0, .string ⟨#[]⟩] 46)) w.heap.size := by
  show (w.heap.push _)[w.heap.size]? = _
  simp
end
theorem below_set {B : Nat} {w w' : World} (h : Below B w w') (b o : Nat) (hb : B ≤ b) (u : Value) : Below B w (w'.setCell ⟨b, o, none⟩ u) := h.setCell (by exact hb) u

set_option maxHeartbeats 2000000 in
theorem load_any {S : Nat} {d e n : Int} {p : Value} {doc : Sp.Doc} {w : World} {F : Nat → Prop} (s : Sp.By) (h : SB w S d e n p) (hd : DocF w F p doc) (hT : Laid w) :
    Calls Tryz.prog 34 #[.pointer (some ⟨S, 0, none⟩), .string ⟨s.toArray⟩] w fun x w' => KeptX S w w' ∧ ∃ c doc' p', ((∃ v, Sp.readTo s d e = (0, some v) ∧ c = 0 ∧ doc' = some v) ∨ (0 < c ∧ Sp.readTo s d e = (c, none) ∧ doc' = doc)) ∧
      x = .returned (ansV c []) ∧ SB w' S d e n p' ∧ DocF w' (fun k => (F k ∧ k < w.heap.size) ∨ w.heap.size ≤ k) p' doc' := by
  have c0 := h.c0
  have c1 := h.c1
  have hlt := h.lt
  have hba : Below w.heap.size w (w.alloc (.cells #[.int .i64 0, .int .i64 0, .string ⟨#[]⟩] 46)) := (Below.refl _ _).alloc (Nat.le_refl _) _
  have hTa := hT.below (hba.mono hT.ng)
  have h0 := h.low hba
  have HR := hide hTa
  have HS := hide h0
  have HD := hide hd
  have HAB := hide (AB.new w)
  clear hT h hd h0
  go_enter Tryz.func34, Tryz.ntmps34
  go_wp2_with (fail)
  refine (sread_any s (unhide HS) (unhide HR)).mono ?_
  rintro x w2 ⟨p2, c, rfl, hb2, hc⟩
  · replace hb2 : Below (w.alloc (.cells #[.int .i64 0, .int .i64 0, .string ⟨#[]⟩] 46)).heap.size (w.alloc (.cells #[.int .i64 0, .int .i64 0, .string ⟨#[]⟩] 46)) w2 := ⟨hb2.os, hb2.tape, hb2.output, hb2.size, hb2.block⟩
    replace hc : (0 < c ∧ Sp.readTo s d e = (c, none)) ∨ (c = 0 ∧ ∃ v, Sp.readTo s d e = (0, some v) ∧ Rep top (fun k => w.heap.size + 1 ≤ k) w2 (.pointer p2) v) := hc.imp id fun ⟨a, v, b, c⟩ => ⟨a, v, b, c.move fun k h1 h2 => ⟨rfl, by simpa using h1⟩⟩
    have s2 := (unhide HS).low hb2
    have a2 := (unhide HAB).low hb2
    have hb02 : Below w.heap.size w w2 := hba.trans (hb2.mono (by simp))
    have hsz : w.heap.size + 1 ≤ w2.heap.size := by have := hb2.size; simpa using this
    rcases hc with ⟨hpos, hrd⟩ | ⟨rfl, v, hrd, hrep⟩
    · have HRD := hide hrd
      have e0 : ((c : Int) != 0) = true := by simp; omega
      have A2 := hide a2
      have S2 := hide s2
      have HB := hide hb02
      clear hrd a2 s2 hb2 hb02
      go_wp2_with (fail)
      refine (failed_any c w2).mono ?_
      rintro x w3 ⟨rfl, hb3⟩
      have a3 := (unhide A2).low hb3
      have g0 := a3.c0
      have g1 := a3.c1
      have g2 := a3.c2
      have z := a3.fz
      have hb03 : Below w.heap.size w w3 := (unhide HB).trans (hb3.mono (by omega))
      have HB3 := hide hb03
      have S3 := hide ((unhide S2).low hb3)
      clear a3 hb3 hb03
      unfold ansV
      go_wp2_with (fail)
      refine bodyPost_ret (v := ansV c []) (by simp [results, Tryz.results34, go_sem, ansV, g0, g1, g2]) rfl ?_
      have hbl := below_set (below_set (below_set (unhide HB3) w.heap.size 0 (Nat.le_refl _) (.int .i64 c)) w.heap.size 1 (Nat.le_refl _) (.int .i64 0)) w.heap.size 2 (Nat.le_refl _) (.string ⟨([] : Sp.By).toArray⟩)
      refine ⟨KeptX.of_below hbl, c, doc, p, Or.inr ⟨hpos, unhide HRD, rfl⟩, rfl, ?_, (unhide HD).move fun k h1 h2 => ⟨hbl.block k h2, Or.inl ⟨h1, h2⟩⟩⟩
      exact (hbl.block S hlt).trans ((Below.heap_alloc _ _ _ hlt).symm.trans (unhide HS))
    · have HRD := hide hrd
      have A2 := hide a2
      have S2 := hide s2
      have HB := hide hb02
      have zs := s2.fz
      have q3 := s2.c3
      have g0 := a2.c0
      have g1 := a2.c1
      have g2 := a2.c2
      have z := a2.fz
      have HREP := hide hrep
      have hSg : S ≠ w.heap.size := by omega
      clear hrd a2 s2 hb2 hb02 hrep
      go_wp2_with (fail)
      refine bodyPost_ret (v := ansV 0 []) (by simp [results, Tryz.results34, go_sem, ansV, g0, g1, g2]) rfl ?_
      have hk : KeptX S w ((((w2.setCell ⟨S, 3, none⟩ (.pointer p2)).setCell ⟨w.heap.size, 0, none⟩ (.int .i64 0)).setCell ⟨w.heap.size, 1, none⟩ (.int .i64 0)).setCell ⟨w.heap.size, 2, none⟩ (.string ⟨#[]⟩)) :=
        ((((KeptX.of_below (unhide HB)).setCell (p := ⟨S, 3, none⟩) rfl _).setCell_new (p := ⟨w.heap.size, 0, none⟩) (Nat.le_refl _) _).setCell_new (p := ⟨w.heap.size, 1, none⟩) (Nat.le_refl _) _).setCell_new (p := ⟨w.heap.size, 2, none⟩) (Nat.le_refl _) _
      have ho : ∀ k, k ≠ w.heap.size → ((((w2.setCell ⟨S, 3, none⟩ (.pointer p2)).setCell ⟨w.heap.size, 0, none⟩ (.int .i64 0)).setCell ⟨w.heap.size, 1, none⟩ (.int .i64 0)).setCell ⟨w.heap.size, 2, none⟩ (.string ⟨#[]⟩)).heap[k]? = (w2.setCell ⟨S, 3, none⟩ (.pointer p2)).heap[k]? := fun k hk =>
        (Below.heap_setCell _ _ _ _ hk).trans ((Below.heap_setCell _ _ _ _ hk).trans (Below.heap_setCell _ _ _ _ hk))
      refine ⟨hk, 0, some v, .pointer p2, Or.inl ⟨v, unhide HRD, rfl, rfl⟩, rfl, (ho S hSg).trans ((unhide S2).set3 _), (unhide HREP).move fun k h1 h2 => ⟨(ho k (by omega)).trans (Below.heap_setCell _ _ _ _ (by show k ≠ S; omega)), Or.inr (by omega)⟩, read_bd (unhide HRD) top⟩


set_option maxHeartbeats 2000000 in
theorem ask_any {S : Nat} {d e n k : Int} {p : Value} {v : Sp.V} {w : World} {F : Nat → Prop} (s t : ByteArray) (hk3 : k ≠ 3) (hk4 : k ≠ 4) (h : SB w S d e n p) (hd : DocF w F p (some v)) (hT : Laid w) :
    Calls Tryz.prog 35 #[.pointer (some ⟨S, 0, none⟩), .agg #[.int .i64 k, .string s, .string t]] w fun x w' => x = .returned (if k = 2 then ansV 0 (Sp.can top v) else ansV 1 []) ∧ Below w.heap.size w w' := by
  have hlt := h.lt
  have hba : Below w.heap.size w ((w.alloc (.cells #[.int .i64 k, .string s, .string t] 50)).alloc (.cells #[.int .i64 0, .int .i64 0, .string ⟨#[]⟩] 46)) := ((Below.refl _ _).alloc (Nat.le_refl _) _).alloc (by simp) _
  have hTa := hT.below (hba.mono hT.ng)
  have h0 := h.low hba
  have hd0 : DocF _ F p (some v) := hd.move fun k h1 h2 => ⟨hba.block k h2, h1⟩
  have a0 := AB.new (w.alloc (.cells #[.int .i64 k, .string s, .string t] 50))
  have c3 := h0.c3
  have hz : (w.alloc (.cells #[.int .i64 k, .string s, .string t] 50)).heap.size = w.heap.size + 1 := by simp
  rw [hz] at a0
  have HA := hide a0
  have HD := hide hd0
  have HT := hide hTa
  clear h hd hT h0 hd0 hTa a0
  by_cases h2 : k = 2
  · rw [if_pos h2]
    subst h2
    go_enter Tryz.func35, Tryz.ntmps35
    go_wp2_with (fail)
    refine (Canonical_any (unhide HD).1 (unhide HT) (Nat.le_trans (unhide HD).2 (by omega))).mono ?_
    rintro x w1 ⟨rfl, hb1⟩
    have a1 := (unhide HA).low hb1
    have g0 := a1.c0
    have g1 := a1.c1
    have g2 := a1.c2
    have z := a1.fz
    have hb01 : Below w.heap.size w w1 := hba.trans (hb1.mono (by simp; omega))
    have HB := hide hb01
    clear a1 hb1 hb01
    go_wp2_with (fail)
    refine bodyPost_ret (v := ansV 0 (Sp.can top v)) (by simp [results, Tryz.results35, go_sem, ansV, g0, g1, g2]) rfl ⟨rfl, ?_⟩
    exact below_set (below_set (below_set (unhide HB) _ 0 (by omega) _) _ 1 (by omega) _) _ 2 (by omega) _
  · have e2 : (k == 2) = false := by simpa using h2
    have e3 : (k == 3) = false := by simpa using hk3
    have e4 : (k == 4) = false := by simpa using hk4
    rw [if_neg h2]
    go_enter Tryz.func35, Tryz.ntmps35
    go_wp2_with (fail)
    refine (failed_any 1 _).mono ?_
    rintro x w1 ⟨rfl, hb1⟩
    have a1 := (unhide HA).low hb1
    have g0 := a1.c0
    have g1 := a1.c1
    have g2 := a1.c2
    have z := a1.fz
    have hb01 : Below w.heap.size w w1 := hba.trans (hb1.mono (by simp; omega))
    have HB := hide hb01
    clear a1 hb1 hb01
    unfold ansV
    go_wp2_with (fail)
    refine bodyPost_ret (v := ansV 1 []) (by simp [results, Tryz.results35, go_sem, ansV, g0, g1, g2]) rfl ⟨rfl, ?_⟩
    exact below_set (below_set (below_set (unhide HB) _ 0 (by omega) _) _ 1 (by omega) _) _ 2 (by omega) _

end Go.Proofs.YtmegcejgjdkpfaaGreatDoor

namespace Go.Proofs.YtmegcejgjdkpfaaGreatDoor
open Go.RowKit

/-- a script's steps as plain data -/
def stV (o : Sp.St) (t : ByteArray) : Value := .agg #[.int .i64 o.1, .string ⟨o.2.toArray⟩, .string t]

/-- What step leaves. -/
def StepEnd (S : Nat) (d e n : Int) (doc : Sp.Doc) (o : Sp.St) (F : Nat → Prop) (w : World) (x : Ending) (w' : World) : Prop :=
  KeptX S w w' ∧ x = .returned (ansV (Sp.step d e n doc o).1.1 (Sp.step d e n doc o).1.2) ∧ ∃ p', SB w' S d e n p' ∧ DocF w' (fun k => (F k ∧ k < w.heap.size) ∨ w.heap.size ≤ k) p' (Sp.step d e n doc o).2

theorem StepEnd.low {S : Nat} {d e n : Int} {doc : Sp.Doc} {o : Sp.St} {F : Nat → Prop} {w w' : World} {c : Nat} {t : Sp.By} {p : Value} (he : Sp.step d e n doc o = ((c, t), doc)) (h : SB w S d e n p) (hd : DocF w F p doc) (hb : Below w.heap.size w w') :
    StepEnd S d e n doc o F w (.returned (ansV c t)) w' := by
  unfold StepEnd
  rw [he]
  exact ⟨KeptX.of_below hb, rfl, p, h.low hb, hd.move fun k h1 h2 => ⟨hb.block k h2, Or.inl ⟨h1, h2⟩⟩⟩

set_option maxHeartbeats 4000000 in
theorem step_any {S : Nat} {d e n : Int} {p : Value} {doc : Sp.Doc} {w : World} {F : Nat → Prop} (k : Int) (s : Sp.By) (t : ByteArray) (hk3 : k ≠ 3) (hk4 : k ≠ 4) (h : SB w S d e n p) (hd : DocF w F p doc) (hT : Laid w) :
    Calls Tryz.prog 28 #[.pointer (some ⟨S, 0, none⟩), .agg #[.int .i64 k, .string ⟨s.toArray⟩, .string t]] w fun x w' => StepEnd S d e n doc (k, s) F w x w' := by
  have K3 := hide hk3
  have K4 := hide hk4
  clear hk3 hk4
  have hlt := h.lt
  have hba : Below w.heap.size w ((w.alloc (.cells #[.int .i64 k, .string ⟨s.toArray⟩, .string t] 50)).alloc (.cells #[.int .i64 0, .int .i64 0, .string ⟨#[]⟩] 46)) := ((Below.refl _ _).alloc (Nat.le_refl _) _).alloc (by simp) _
  have hTa := hT.below (hba.mono hT.ng)
  have h0 := h.low hba
  have hd0 : DocF _ F p doc := hd.move fun k h1 h2 => ⟨hba.block k h2, h1⟩
  have a0 := AB.new (w.alloc (.cells #[.int .i64 k, .string ⟨s.toArray⟩, .string t] 50))
  have hz : (w.alloc (.cells #[.int .i64 k, .string ⟨s.toArray⟩, .string t] 50)).heap.size = w.heap.size + 1 := by simp
  have o0 : ((w.alloc (.cells #[.int .i64 k, .string ⟨s.toArray⟩, .string t] 50)).alloc (.cells #[.int .i64 0, .int .i64 0, .string ⟨#[]⟩] 46)).heap[w.heap.size]? = some (.cells #[.int .i64 k, .string ⟨s.toArray⟩, .string t] 50 (0, 0)) := by
    show ((w.heap.push _).push _)[w.heap.size]? = _
    simp [Array.getElem?_push]
  rw [hz] at a0
  have c0 := h0.c0
  have c1 := h0.c1
  have c2 := h0.c2
  have HA := hide a0
  have H0 := hide h0
  have HD := hide hd0
  have HT := hide hTa
  have HH := hide h
  have HDD := hide hd
  have HO := hide o0
  clear h hd hT h0 hd0 hTa a0 o0
  go_enter Tryz.func28, Tryz.ntmps28
  go_wp2_with (fail)
  refine (isConfig_any d e n _).mono ?_
  rintro x w1 ⟨rfl, hb1⟩
  have h1 := (unhide H0).low hb1
  have d1 : DocF w1 F p doc := (unhide HD).move fun k h1 h2 => ⟨hb1.block k h2, h1⟩
  have a1 := (unhide HA).low hb1
  have T1 := (unhide HT).below (hb1.mono (unhide HT).ng)
  have o1 : w1.heap[w.heap.size]? = _ := (hb1.block w.heap.size (by simp; omega)).trans (unhide HO)
  have hb01 : Below w.heap.size w w1 := hba.trans (hb1.mono (by simp; omega))
  have hs1 : w.heap.size + 2 ≤ w1.heap.size := by have := hb1.size; simp at this; omega
  have q0 : w1.cell? ⟨w.heap.size, 0, none⟩ = some (.int .i64 k) := by simp [World.cell?, o1]
  have q1 : w1.cell? ⟨w.heap.size, 1, none⟩ = some (.string ⟨s.toArray⟩) := by simp [World.cell?, o1]
  have q2 : w1.cell? ⟨w.heap.size, 2, none⟩ = some (.string t) := by simp [World.cell?, o1]
  have g0 := a1.c0
  have g1 := a1.c1
  have g2 := a1.c2
  have z := a1.fz
  have c3 := h1.c3
  have H1 := hide h1
  have D1 := hide d1
  have A1 := hide a1
  have TT1 := hide T1
  have HB1 := hide hb01
  clear h1 d1 a1 T1 o1 hb1 hb01 H0 HD HA HT HO c0 c1 c2 hba
  cases hcfg : Sp.cfg d e n with
  | false =>
    have HE := hide (show Sp.step d e n doc (k, s) = ((2, []), doc) by unfold Sp.step; rw [hcfg]; rfl)
    clear hcfg
    simp only
    go_wp2_with (fail)
    refine (failed_any 2 _).mono ?_
    rintro x w2 ⟨rfl, hb2⟩
    have a2 := (unhide A1).low hb2
    clear g0 g1 g2 z q0 q1 q2 c3
    have g0 := a2.c0
    have g1 := a2.c1
    have g2 := a2.c2
    have z := a2.fz
    have HB2 := hide (show Below w.heap.size w w2 from (unhide HB1).trans (hb2.mono (by omega)))
    clear a2 hb2
    unfold ansV
    go_wp2_with (fail)
    refine bodyPost_ret (v := ansV 2 []) (by simp [results, Tryz.results28, go_sem, ansV, g0, g1, g2]) rfl ?_
    exact StepEnd.low (unhide HE) (unhide HH) (unhide HDD) (below_set (below_set (below_set (unhide HB2) _ 0 (by omega) _) _ 1 (by omega) _) _ 2 (by omega) _)
  | true =>
    by_cases k1 : k < 1
    · have HE := hide (show Sp.step d e n doc (k, s) = ((1, []), doc) by unfold Sp.step; rw [hcfg, if_pos rfl, if_pos (Or.inl k1)])
      have e1 : decide (k < 1) = true := by simpa using k1
      clear hcfg k1 c3
      simp only
      go_wp2_with (fail)
      refine (failed_any 1 _).mono ?_
      rintro x w2 ⟨rfl, hb2⟩
      have a2 := (unhide A1).low hb2
      clear g0 g1 g2 z q0 q1 q2
      have g0 := a2.c0
      have g1 := a2.c1
      have g2 := a2.c2
      have z := a2.fz
      have HB2 := hide (show Below w.heap.size w w2 from (unhide HB1).trans (hb2.mono (by omega)))
      clear a2 hb2
      unfold ansV
      go_wp2_with (fail)
      refine bodyPost_ret (v := ansV 1 []) (by simp [results, Tryz.results28, go_sem, ansV, g0, g1, g2]) rfl ?_
      exact StepEnd.low (unhide HE) (unhide HH) (unhide HDD) (below_set (below_set (below_set (unhide HB2) _ 0 (by omega) _) _ 1 (by omega) _) _ 2 (by omega) _)
    by_cases k9 : 9 < k
    · have HE := hide (show Sp.step d e n doc (k, s) = ((1, []), doc) by unfold Sp.step; rw [hcfg, if_pos rfl, if_pos (Or.inr k9)])
      have e1 : decide (k < 1) = false := by simpa using k1
      have e9 : decide (9 < k) = true := by simpa using k9
      clear hcfg k1 k9 c3
      simp only
      go_wp2_with (fail)
      refine (failed_any 1 _).mono ?_
      rintro x w2 ⟨rfl, hb2⟩
      have a2 := (unhide A1).low hb2
      clear g0 g1 g2 z q0 q1 q2
      have g0 := a2.c0
      have g1 := a2.c1
      have g2 := a2.c2
      have z := a2.fz
      have HB2 := hide (show Below w.heap.size w w2 from (unhide HB1).trans (hb2.mono (by omega)))
      clear a2 hb2
      unfold ansV
      go_wp2_with (fail)
      refine bodyPost_ret (v := ansV 1 []) (by simp [results, Tryz.results28, go_sem, ansV, g0, g1, g2]) rfl ?_
      exact StepEnd.low (unhide HE) (unhide HH) (unhide HDD) (below_set (below_set (below_set (unhide HB2) _ 0 (by omega) _) _ 1 (by omega) _) _ 2 (by omega) _)
    by_cases kl : k = 1
    · subst kl
      have HE := hide (show Sp.step d e n doc (1, s) = Sp.ldd (Sp.readTo s d e) doc by unfold Sp.step; rw [hcfg, if_pos rfl, if_neg (by simp), if_pos rfl])
      clear hcfg k1 k9 c3
      simp only
      go_wp2_with (fail)
      have dF : DocF w1 (fun k => F k ∧ k < w.heap.size) p doc := (unhide HDD).move fun k h1 h2 => ⟨(unhide HB1).block k h2, h1, h2⟩
      have DF := hide dF
      clear dF
      refine (load_any s (unhide H1) (unhide DF) (unhide TT1)).mono ?_
      rintro x w2 ⟨hk2, c, doc', p', hcase, rfl, s2, d2⟩
      have hne : w.heap.size + 1 ≠ S := by omega
      have a2 : AB w2 (w.heap.size + 1) := (hk2.block _ (by omega) hne).trans (unhide A1)
      clear g0 g1 g2 z q0 q1 q2
      have g0 := a2.c0
      have g1 := a2.c1
      have g2 := a2.c2
      have z := a2.fz
      have HB2 := hide (show KeptX S w w2 from (KeptX.of_below (unhide HB1)).trans hk2)
      have HS2 := hide s2
      have HD2 := hide d2
      have HC := hide hcase
      clear a2 hk2 s2 d2 hcase
      unfold ansV
      go_wp2_with (fail)
      refine bodyPost_ret (v := ansV c []) (by simp [results, Tryz.results28, go_sem, ansV, g0, g1, g2]) rfl ?_
      have hst : Sp.step d e n doc (1, s) = ((c, []), doc') := by
        rw [unhide HE]
        rcases unhide HC with ⟨v, h1, rfl, rfl⟩ | ⟨hpos, h1, rfl⟩
        · rw [h1]; rfl
        · rw [h1]; rfl
      unfold StepEnd
      rw [hst]
      have ho : ∀ k, k ≠ w.heap.size + 1 → (((w2.setCell ⟨w.heap.size + 1, 0, none⟩ (.int .i64 c)).setCell ⟨w.heap.size + 1, 1, none⟩ (.int .i64 0)).setCell ⟨w.heap.size + 1, 2, none⟩ (.string ⟨([] : Sp.By).toArray⟩)).heap[k]? = w2.heap[k]? := fun k hk =>
        (Below.heap_setCell _ _ _ _ hk).trans ((Below.heap_setCell _ _ _ _ hk).trans (Below.heap_setCell _ _ _ _ hk))
      exact ⟨(((unhide HB2).setCell_new (p := ⟨w.heap.size + 1, 0, none⟩) (by simp) _).setCell_new (p := ⟨w.heap.size + 1, 1, none⟩) (by simp) _).setCell_new (p := ⟨w.heap.size + 1, 2, none⟩) (by simp) _, rfl, p', (ho S (Ne.symm hne)).trans (unhide HS2),
        (unhide HD2).move fun k h1 h2 => ⟨ho k (by omega), h1.elim (fun h => Or.inl h.1) (fun h => Or.inr (by omega))⟩⟩
    have e1 : decide (k < 1) = false := by simpa using k1
    have e9 : decide (9 < k) = false := by simpa using k9
    have el : (k == 1) = false := by simpa using kl
    cases hdoc : doc with
    | none =>
      subst hdoc
      have HE := hide (show Sp.step d e n none (k, s) = ((3, []), none) by unfold Sp.step; rw [hcfg, if_pos rfl, if_neg (by simp; omega), if_neg kl])
      obtain rfl : p = .pointer none := unhide HDD
      clear hcfg k1 k9 kl
      simp only
      go_wp2_with (fail)
      refine (failed_any 3 _).mono ?_
      rintro x w2 ⟨rfl, hb2⟩
      have a2 := (unhide A1).low hb2
      clear g0 g1 g2 z q0 q1 q2
      have g0 := a2.c0
      have g1 := a2.c1
      have g2 := a2.c2
      have z := a2.fz
      have HB2 := hide (show Below w.heap.size w w2 from (unhide HB1).trans (hb2.mono (by omega)))
      clear a2 hb2
      unfold ansV
      go_wp2_with (fail)
      refine bodyPost_ret (v := ansV 3 []) (by simp [results, Tryz.results28, go_sem, ansV, g0, g1, g2]) rfl ?_
      exact StepEnd.low (unhide HE) (unhide HH) (unhide HDD) (below_set (below_set (below_set (unhide HB2) _ 0 (by omega) _) _ 1 (by omega) _) _ 2 (by omega) _)
    | some v =>
      subst hdoc
      have HE := hide (show Sp.step d e n (some v) (k, s) = if k = 2 then ((0, Sp.can top v), some v) else ((1, []), some v) by unfold Sp.step; rw [hcfg, if_pos rfl, if_neg (by simp; omega), if_neg kl])
      obtain ⟨bb, hbb, _⟩ := (unhide HDD).1.ptr
      subst hbb
      clear hcfg k1 k9 kl
      simp only
      go_wp2_with (fail)
      refine (ask_any ⟨s.toArray⟩ t (unhide K3) (unhide K4) (unhide H1) (unhide D1) (unhide TT1)).mono ?_
      rintro x w2 ⟨rfl, hb2⟩
      have a2 := (unhide A1).low hb2
      clear g0 g1 g2 z q0 q1 q2
      have g0 := a2.c0
      have g1 := a2.c1
      have g2 := a2.c2
      have z := a2.fz
      have HB2 := hide (show Below w.heap.size w w2 from (unhide HB1).trans (hb2.mono (by omega)))
      clear a2 hb2
      by_cases h2 : k = 2
      · rw [if_pos h2]
        rw [Hid, if_pos h2] at HE
        replace HE := hide HE
        clear h2
        unfold ansV
        go_wp2_with (fail)
        refine bodyPost_ret (v := ansV 0 (Sp.can top v)) (by simp [results, Tryz.results28, go_sem, ansV, g0, g1, g2]) rfl ?_
        exact StepEnd.low (unhide HE) (unhide HH) (unhide HDD) (below_set (below_set (below_set (unhide HB2) _ 0 (by omega) _) _ 1 (by omega) _) _ 2 (by omega) _)
      · rw [if_neg h2]
        rw [Hid, if_neg h2] at HE
        replace HE := hide HE
        clear h2
        unfold ansV
        go_wp2_with (fail)
        refine bodyPost_ret (v := ansV 1 []) (by simp [results, Tryz.results28, go_sem, ansV, g0, g1, g2]) rfl ?_
        exact StepEnd.low (unhide HE) (unhide HH) (unhide HDD) (below_set (below_set (below_set (unhide HB2) _ 0 (by omega) _) _ 1 (by omega) _) _ 2 (by omega) _)

end Go.Proofs.YtmegcejgjdkpfaaGreatDoor
