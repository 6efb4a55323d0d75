/-
  Walk of the statement's own dumped: what a text says, loaded by itself.
  Plain facts on the functions of Sp: two spellings of one value.
  Walks of the statement's own source of numbers: next and blank.
-/
import Derived.Test.YtdpomdelmdofmaaGreatDoorPart28
import Derived.Test.YtdpomdelmdofmaaGreatDoorPart22
namespace Go.Proofs.YtdpomdelmdofmaaGreatDoor
open Go.RowKit

/-- the code of loading a text, and what is told then -/
def Sp.dmp (d e : Int) (t : Sp.By) : Nat × Sp.By := match Sp.readTo t d e with
  | (c, some v) => (c, Sp.can top v)
  | (c, none) => (c, [])
theorem run_dmp {d e n : Int} (hc : Sp.cfg d e n = true) (t : Sp.By) : ∃ k, Sp.run d e n none [(1, t, []), (2, [], [])] = [((Sp.dmp d e t).1, 0, []), (k, 0, (Sp.dmp d e t).2)] := by
  have s1 : Sp.step d e n none (1, t, []) = Sp.ldd (Sp.readTo t d e) none := by
    unfold Sp.step; rw [hc, if_pos rfl, if_neg (by simp), if_pos rfl]
  have s2 : ∀ v, Sp.step d e n (some v) (2, [], []) = ((0, 0, Sp.can top v.1), some v) := fun v => by
    unfold Sp.step; rw [hc, if_pos rfl, if_neg (by simp), if_neg (by simp)]; rfl
  have s3 : Sp.step d e n none (2, [], []) = ((3, 0, []), none) := by
    unfold Sp.step; rw [hc, if_pos rfl, if_neg (by simp), if_neg (by simp)]
  simp only [Sp.run, s1]
  unfold Sp.dmp
  match Sp.readTo t d e with
  | (c, some v) => exact ⟨0, by simp only [Sp.ldd, s2]⟩
  | (c, none) => exact ⟨3, by simp only [Sp.ldd, s3]⟩

theorem plain_dmp (t : Sp.By) : Plain [(1, t, []), (2, [], [])] := by
  intro o ho
  simp only [List.mem_cons, List.not_mem_nil, or_false] at ho
  rcases ho with rfl | rfl
  · exact Or.inl (Or.inl (show (1 : Int) < 3 by decide))
  · exact Or.inl (Or.inl (show (2 : Int) < 3 by decide))
def dmpCells (t : ByteArray) : Array Value := #[.int .i64 1, .string t, .string ⟨#[]⟩, .int .i64 2, .string ⟨#[]⟩, .string ⟨#[]⟩]
theorem scr_dmp {w : World} {g : Nat} {t : ByteArray} (h : w.heap[g]? = some (.cells (dmpCells t) 49 (0, 0))) : Scr w g 0 [(1, t.data.toList, []), (2, [], [])] := by
  intro i hi
  have hc : ∀ j, w.cell? ⟨g, j, none⟩ = (dmpCells t)[j]? := fun j => by simp [World.cell?, h]
  rw [hc, hc, hc]
  match i, hi with
  | 0, _ => exact ⟨rfl, by simp [dmpCells], rfl⟩
  | 1, _ => exact ⟨rfl, rfl, rfl⟩

theorem bel_any {B : Nat} {a w w' : World} (h : Below B a w) (e : w'.heap = w.heap := by rfl) (e1 : w'.os = w.os := by rfl) (e2 : w'.tape = w.tape := by rfl) (e3 : w'.output = w.output := by rfl) : Below B a w' :=
  ⟨e1.trans h.os, e2.trans h.tape, e3.trans h.output, by rw [e]; exact h.size, fun k hk => by rw [e]; exact h.block k hk⟩
theorem bel_from {B : Nat} {a a' w : World} (h : Below B a w) (e : a.heap = a'.heap := by rfl) (e1 : a.os = a'.os := by rfl) (e2 : a.tape = a'.tape := by rfl) (e3 : a.output = a'.output := by rfl) : Below B a' w :=
  ⟨h.os.trans e1, h.tape.trans e2, h.output.trans e3, by rw [← e]; exact h.size, fun k hk => by rw [← e]; exact h.block k hk⟩

set_option maxRecDepth 100000 in
set_option maxHeartbeats 8000000 in
theorem dumped_any {d e n : Int} (hc : Sp.cfg d e n = true) (t : ByteArray) (w : World) (hT : Laid w) :
    Calls Tryz.prog 19 #[.agg #[.int .i64 d, .int .i64 e, .int .i64 n], .string t] w fun x w' => x = .returned (.tuple #[.string ⟨(Sp.dmp d e t.data.toList).2.toArray⟩, .int .i64 (Sp.dmp d e t.data.toList).1]) ∧ Below w.heap.size w w' := by
  have HT := hide hT
  have hng := hT.ng
  have HC := hide hc
  have hz : (w.alloc (.cells #[.int .i64 d, .int .i64 e, .int .i64 n] 23)).heap[w.heap.size]? = some (.cells #[.int .i64 d, .int .i64 e, .int .i64 n] 23 (0, 0)) := heap_new _ _ _ rfl
  have hba : Below w.heap.size w (w.alloc (.cells #[.int .i64 d, .int .i64 e, .int .i64 n] 23)) := (Below.refl _ _).alloc (Nat.le_refl _) _
  clear hT hc
  go_enter Tryz.func19, Tryz.ntmps19
  go_wp2_with (fail)
  generalize w.alloc (.cells #[.int .i64 d, .int .i64 e, .int .i64 n] 23) = wa at *
  have hsa : w.heap.size < wa.heap.size := (Array.getElem?_eq_some_iff.1 hz).1
  have z0 : wa.cell? ⟨w.heap.size, 0, none⟩ = some (.int .i64 d) := by simp [World.cell?, hz]
  have z1 : wa.cell? ⟨w.heap.size, 1, none⟩ = some (.int .i64 e) := by simp [World.cell?, hz]
  have z2 : wa.cell? ⟨w.heap.size, 2, none⟩ = some (.int .i64 n) := by simp [World.cell?, hz]
  have HZ := hide hz
  have HBA := hide hba
  have HRUN : Hid (∀ (w0 : World) (g : Nat), Below w.heap.size w w0 → w0.heap[g]? = some (.cells (dmpCells t) 49 (0, 0)) → Calls Tryz.prog 24 #[.agg #[.int .i64 d, .int .i64 e, .int .i64 n], .slice (some ⟨g, 0, none⟩) 2 2] w0 fun x w' => RunEnd 2 (Sp.run d e n none [(1, t.data.toList, []), (2, [], [])]) w0 x w') := by
    intro w0 g h0 h1
    exact Run_some (d := d) (e := e) (n := n) (l := [(1, t.data.toList, []), (2, [], [])]) (m := 2) (cap := 2) (scr_dmp h1) (plain_dmp _) rfl (by decide) (by decide) (by decide) (Array.getElem?_eq_some_iff.1 h1).1 ((unhide HT).below (h0.mono hng))
  clear hz hba
  go_region_with (first
    | (go_at_call_of 26 t; refine (kstep_any 1 t _ _).mono ?_; rintro x w1 ⟨rfl, hb1⟩; have y0 := (hb1.cell (p := ⟨w.heap.size, 0, none⟩) hsa).trans z0; have y1 := (hb1.cell (p := ⟨w.heap.size, 1, none⟩) hsa).trans z1; have y2 := (hb1.cell (p := ⟨w.heap.size, 2, none⟩) hsa).trans z2; have hs1 := Nat.lt_of_lt_of_le hsa hb1.size)
    | (go_at_call 26; refine (kstep_any 2 _ _ _).mono ?_; rintro x w2 ⟨rfl, hb2⟩; have x0 := (hb2.cell (p := ⟨w.heap.size, 0, none⟩) hs1).trans y0; have x1 := (hb2.cell (p := ⟨w.heap.size, 1, none⟩) hs1).trans y1; have x2 := (hb2.cell (p := ⟨w.heap.size, 2, none⟩) hs1).trans y2; have hs2 := Nat.lt_of_lt_of_le hs1 hb2.size)
    | (go_at_call 24; refine (unhide HRUN _ _ ?_ ?_).mono ?_; exact bel_any ((((unhide HBA).trans (bel_from (hb1.mono (Nat.le_of_lt hsa)))).trans (bel_from (hb2.mono (Nat.le_of_lt hs1)))).alloc (Nat.le_of_lt hs2) _); exact heap_new _ _ _ rfl; rintro x w3 ⟨A, cs, rfl, hA, hrow, hans, hb3⟩; have hb4 := bel_any ((((unhide HBA).trans (bel_from (hb1.mono (Nat.le_of_lt hsa)))).trans (bel_from (hb2.mono (Nat.le_of_lt hs1)))).alloc (Nat.le_of_lt hs2) _) |>.trans (hb3.mono (Nat.le_trans (Nat.le_of_lt hs2) (by simp)))))
  all_goals (
    replace hb4 : Below w.heap.size w w3 := hb4
    have HB4 := hide hb4
    obtain ⟨k, hk⟩ := run_dmp (unhide HC) t.data.toList
    rw [hk] at hans
    obtain ⟨hsz, hc⟩ := hans
    have q0 := hc 0 (by simp)
    have q1 := hc 1 (by simp)
    simp only [List.getElem_cons_zero, List.getElem_cons_succ] at q0 q1
    have hcell : ∀ j, w3.cell? ⟨A, j, none⟩ = cs[j]? := fun j => by simp [World.cell?, hrow]
    have g00 := (hcell 0).trans q0.1
    have g12 := (hcell 5).trans q1.2.2
    clear q0 q1 hc hcell hrow hsz hb4 hb1 hb2 hb3 hk x0 x1 x2 y0 y1 y2 z0 z1 z2
    go_wp2_with (fail)
    go_quiet (fail)
    go_wp2_with (fail)
    go_ret2
    exact ⟨rfl, bel_any (unhide HB4)⟩)

end Go.Proofs.YtdpomdelmdofmaaGreatDoor

namespace Go.Proofs.YtdpomdelmdofmaaGreatDoor
open Go.Maps

/-- two spellings of one value, at most k levels deeper than its first -/
def Sp.Two (k : Nat) (a b : Sp.By) : Prop := ∃ v, Sp.RdV k a v ∧ Sp.RdV k b v
theorem Sp.Two.mono {k k' : Nat} {a b : Sp.By} (h : Sp.Two k a b) (hk : k ≤ k') : Sp.Two k' a b := let ⟨v, h1, h2⟩ := h; ⟨v, h1.mono hk, h2.mono hk⟩

def Sp.sgn (ng : Bool) : Sp.By := if ng then [45] else []
theorem num7_hd : ∀ l ∈ Sp.num7, ∃ c t, l = c :: t ∧ Sp.isD c = true := by
  intro l hl
  unfold Sp.num7 at hl
  simp only [List.mem_cons, List.not_mem_nil, or_false] at hl
  rcases hl with rfl | rfl | rfl | rfl | rfl | rfl | rfl | rfl
  all_goals exact ⟨_, _, rfl, by decide⟩
theorem rdV_num7 (ng : Bool) {l : Sp.By} (hl : l ∈ Sp.num7) : Sp.RdV 0 (Sp.sgn ng ++ l) (Sp.vNum (ng, [55], 0)) := by
  obtain ⟨c, t, e, hc⟩ := num7_hd l hl
  cases ng with
  | true =>
    refine rdV_num ⟨45, l, rfl, Or.inl rfl⟩ (fun r hr => ?_) (by simp)
    show Sp.num (45 :: (l ++ r)) = _
    unfold Sp.num
    rw [if_pos (by rfl), List.tail_cons, numB7 true hl hr]
  | false =>
    refine rdV_num ⟨c, t, e, Or.inr hc⟩ (fun r hr => ?_) (by simp)
    show Sp.num (l ++ r) = _
    unfold Sp.num
    have hk : Sp.tk (l ++ r) 45 = false := by
      rw [e, List.cons_append, tk_hd, beq_eq_false_iff_ne]
      exact (isD_ne hc).1
    rw [hk, if_neg (by decide), numB7 false hl hr]
theorem rdV_num0 {l : Sp.By} (hl : l ∈ Sp.num0) : Sp.RdV 0 l (Sp.vNum (false, [], 0)) := by
  have hh : ∃ c t, l = c :: t ∧ (c = 45 ∨ Sp.isD c = true) := by
    unfold Sp.num0 at hl
    simp only [List.mem_cons, List.not_mem_nil, or_false] at hl
    rcases hl with rfl | rfl | rfl | rfl | rfl
    · exact ⟨_, _, rfl, Or.inl rfl⟩
    · exact ⟨_, _, rfl, Or.inr (by decide)⟩
    · exact ⟨_, _, rfl, Or.inr (by decide)⟩
    · exact ⟨_, _, rfl, Or.inr (by decide)⟩
    · exact ⟨_, _, rfl, Or.inl rfl⟩
  exact rdV_num hh (fun r hr => num0_read hl hr) (by simp)

/-- an element in its two spellings -/
structure Sp.El where
  x : Sp.By
  p : Sp.By
  y : Sp.By
  q : Sp.By
  v : Sp.V
def Sp.El.ok (k : Nat) (e : Sp.El) : Prop := Sp.RdV k e.x e.v ∧ Sp.RdV k e.y e.v ∧ Sp.Bl e.p ∧ Sp.Bl e.q
def Sp.El.b (e : Sp.El) : Sp.By := e.p ++ (e.y ++ e.q)
theorem bl_nil : Sp.Bl [] := by unfold Sp.Bl Sp.blks; simp
theorem two_arr {k : Nat} {es : List Sp.El} (h : ∀ e ∈ es, e.ok k) {z : Sp.By} (hz : Sp.Bl z) : Sp.Two (k + 1) (91 :: (Sp.joinC (es.map Sp.El.x) ++ [93])) (91 :: (Sp.joinC (es.map Sp.El.b) ++ (z ++ [93]))) := by
  refine ⟨Sp.vArr (es.map Sp.El.v), ?_, ?_⟩
  · have := rdV_arr (k := k) (ys := es.map fun e => ([], e.x, [])) (vs := es.map Sp.El.v) (by simp) (fun i h1 h2 => by
      simp only [List.getElem_map]
      obtain ⟨a, _, _, _⟩ := h (es[i]'(by simpa using h1)) (List.getElem_mem _)
      exact ⟨bl_nil, a, bl_nil⟩) bl_nil
    have e1 : (es.map fun e => (([], e.x, []) : Sp.By × Sp.By × Sp.By)).map Sp.pad = es.map Sp.El.x := by
      rw [List.map_map]
      apply List.map_congr_left
      intro e _
      simp [Sp.pad]
    rw [e1, List.nil_append] at this
    exact this
  · have := rdV_arr (k := k) (ys := es.map fun e => (e.p, e.y, e.q)) (vs := es.map Sp.El.v) (by simp) (fun i h1 h2 => by
      simp only [List.getElem_map]
      obtain ⟨_, a, b, c⟩ := h (es[i]'(by simpa using h1)) (List.getElem_mem _)
      exact ⟨b, a, c⟩) hz
    have e1 : (es.map fun e => (e.p, e.y, e.q)).map Sp.pad = es.map Sp.El.b := by
      rw [List.map_map]
      rfl
    rw [e1] at this
    exact this
/-- what stands ahead of the next item -/
def Sp.pre (xs : List Sp.By) : Sp.By := xs.flatMap fun t => t ++ [44]
theorem joinC_pre (xs : List Sp.By) (t : Sp.By) : Sp.joinC (xs ++ [t]) = Sp.pre xs ++ t := by
  have hr : ∀ ys : List Sp.By, Sp.joinR (ys ++ [t]) = 44 :: (Sp.pre ys ++ t) := by
    intro ys
    induction ys with
    | nil => simp [Sp.joinR, Sp.pre]
    | cons y r ih => simp only [List.cons_append, Sp.joinR, ih]; simp [Sp.pre]
  cases xs with
  | nil => simp [Sp.joinC, Sp.joinR, Sp.pre]
  | cons y r =>
    simp only [List.cons_append, Sp.joinC, hr]
    simp [Sp.pre]
theorem pre_snoc (xs : List Sp.By) (t : Sp.By) : Sp.pre (xs ++ [t]) = Sp.pre xs ++ (t ++ [44]) := by simp [Sp.pre]

/-! objects -/
def Sp.kA : List Sp.By := [[], [34, 107, 34], [34, 92, 117, 48, 48, 54, 98, 92, 117, 48, 48, 54, 66, 34], [34, 126, 47, 34]]
def Sp.kB : List Sp.By := [[], [34, 92, 117, 48, 48, 54, 98, 34], [34, 107, 107, 34], [34, 92, 117, 48, 48, 55, 101, 92, 47, 34]]
def Sp.kK : List Sp.By := [[], [107], [107, 107], [126, 47]]
theorem ch_a (c : Nat) (p : Sp.By) (hc : c < 55296) (e : Sp.escS (Lib.encodeRune (c : Int)) = p) : Sp.Ch p c := fun l => e ▸ chr_esc c (Or.inl hc) l
theorem quo_key {a : Sp.By} {cs : List Nat} {s : Sp.By} (h : Sp.Chs a cs) (e : cs.flatMap Sp.encN = s) (l : Sp.By) : Sp.quo (34 :: (a ++ [34]) ++ l) = some (s, l) := by
  have : 34 :: (a ++ [34]) ++ l = 34 :: (a ++ 34 :: l) := by simp
  rw [this, chs_quo h l, e]
theorem kA_quo (i : Nat) (h : 1 ≤ i ∧ i ≤ 3) (l : Sp.By) : Sp.quo (Sp.kA.getD i [] ++ l) = some (Sp.kK.getD i [], l) := by
  have k1 : Sp.Ch [107] 107 := ch_a _ _ (by omega) (by decide)
  have u1 : Sp.Ch [92, 117, 48, 48, 54, 98] 107 := ch_u (n1 := 0) (n2 := 0) (n3 := 6) (n4 := 11) (by decide) (by decide) (by decide) (by decide) (by decide) (by decide)
  have u2 : Sp.Ch [92, 117, 48, 48, 54, 66] 107 := ch_u (n1 := 0) (n2 := 0) (n3 := 6) (n4 := 11) (by decide) (by decide) (by decide) (by decide) (by decide) (by decide)
  have t1 : Sp.Ch [126] 126 := ch_a _ _ (by omega) (by decide)
  have s1 : Sp.Ch [47] 47 := ch_a _ _ (by omega) (by decide)
  match i, h with
  | 1, _ => exact quo_key (a := [107]) (Sp.Chs.snoc Sp.Chs.nil k1) (by decide) l
  | 2, _ => exact quo_key (a := [92, 117, 48, 48, 54, 98, 92, 117, 48, 48, 54, 66]) (Sp.Chs.snoc (Sp.Chs.snoc Sp.Chs.nil u1) u2) (by decide) l
  | 3, _ => exact quo_key (a := [126, 47]) (Sp.Chs.snoc (Sp.Chs.snoc Sp.Chs.nil t1) s1) (by decide) l
theorem kB_quo (i : Nat) (h : 1 ≤ i ∧ i ≤ 3) (l : Sp.By) : Sp.quo (Sp.kB.getD i [] ++ l) = some (Sp.kK.getD i [], l) := by
  have k1 : Sp.Ch [107] 107 := ch_a _ _ (by omega) (by decide)
  have u1 : Sp.Ch [92, 117, 48, 48, 54, 98] 107 := ch_u (n1 := 0) (n2 := 0) (n3 := 6) (n4 := 11) (by decide) (by decide) (by decide) (by decide) (by decide) (by decide)
  have u2 : Sp.Ch [92, 117, 48, 48, 55, 101] 126 := ch_u (n1 := 0) (n2 := 0) (n3 := 7) (n4 := 14) (by decide) (by decide) (by decide) (by decide) (by decide) (by decide)
  have s1 : Sp.Ch [92, 47] 47 := fun l => ⟨rfl, rfl⟩
  match i, h with
  | 1, _ => exact quo_key (a := [92, 117, 48, 48, 54, 98]) (Sp.Chs.snoc Sp.Chs.nil u1) (by decide) l
  | 2, _ => exact quo_key (a := [107, 107]) (Sp.Chs.snoc (Sp.Chs.snoc Sp.Chs.nil k1) k1) (by decide) l
  | 3, _ => exact quo_key (a := [92, 117, 48, 48, 55, 101, 92, 47]) (Sp.Chs.snoc (Sp.Chs.snoc Sp.Chs.nil u2) s1) (by decide) l
/-- a member in its two spellings -/
structure Sp.Om where
  i : Nat
  x : Sp.By
  y : Sp.By
  p : Sp.By
  p1 : Sp.By
  p2 : Sp.By
  q : Sp.By
  v : Sp.V
def Sp.Om.ok (k : Nat) (m : Sp.Om) : Prop := Sp.RdV k m.x m.v ∧ Sp.RdV k m.y m.v ∧ Sp.Bl m.p ∧ Sp.Bl m.p1 ∧ Sp.Bl m.p2 ∧ Sp.Bl m.q
def Sp.Om.at (m : Sp.Om) : Sp.By := Sp.kA.getD m.i [] ++ 58 :: m.x
def Sp.Om.bt (m : Sp.Om) : Sp.By := m.p ++ (Sp.kB.getD m.i [] ++ (m.p1 ++ 58 :: (m.p2 ++ (m.y ++ m.q))))
def Sp.Om.mA (m : Sp.Om) : Sp.Mb := ⟨[], Sp.kA.getD m.i [], [], [], m.x, [], Sp.kK.getD m.i [], m.v⟩
def Sp.Om.mB (m : Sp.Om) : Sp.Mb := ⟨m.p, Sp.kB.getD m.i [], m.p1, m.p2, m.y, m.q, Sp.kK.getD m.i [], m.v⟩
theorem Sp.Om.okA {k : Nat} {m : Sp.Om} (h : m.ok k) (hi : 1 ≤ m.i ∧ m.i ≤ 3) : m.mA.ok k := by
  refine ⟨bl_nil, ?_, kA_quo m.i hi, bl_nil, bl_nil, h.1, bl_nil⟩
  obtain ⟨i, x, y, p, p1, p2, q, v⟩ := m
  simp only at hi
  match i, hi with
  | 1, _ => exact ⟨_, rfl⟩
  | 2, _ => exact ⟨_, rfl⟩
  | 3, _ => exact ⟨_, rfl⟩
theorem Sp.Om.okB {k : Nat} {m : Sp.Om} (h : m.ok k) (hi : 1 ≤ m.i ∧ m.i ≤ 3) : m.mB.ok k := by
  refine ⟨h.2.2.1, ?_, kB_quo m.i hi, h.2.2.2.1, h.2.2.2.2.1, h.2.1, h.2.2.2.2.2⟩
  obtain ⟨i, x, y, p, p1, p2, q, v⟩ := m
  simp only at hi
  match i, hi with
  | 1, _ => exact ⟨_, rfl⟩
  | 2, _ => exact ⟨_, rfl⟩
  | 3, _ => exact ⟨_, rfl⟩
/-- the members' numbers, as they come -/
def Sp.idxs (n : Nat) : List Nat := match n with
  | 0 => []
  | n + 1 => (n + 1) :: Sp.idxs n
theorem two_obj {k : Nat} {ms : List Sp.Om} {n : Nat} (hn : n ≤ 3) (hidx : ms.map Sp.Om.i = Sp.idxs n) (h : ∀ m ∈ ms, m.ok k) :
    Sp.Two (k + 1) (123 :: (Sp.joinC (ms.map Sp.Om.at) ++ [125])) (123 :: (Sp.joinC (ms.reverse.map Sp.Om.bt) ++ [125])) := by
  have hi : ∀ m ∈ ms, 1 ≤ m.i ∧ m.i ≤ 3 := by
    have hx : ∀ n, ∀ i ∈ Sp.idxs n, 1 ≤ i ∧ i ≤ n := by
      intro n
      induction n with
      | zero => intro i h; cases h
      | succ n ih =>
        intro i h
        rcases List.mem_cons.1 h with rfl | h
        · omega
        · have := ih i h; omega
    intro m hm
    have := hx n m.i (by rw [← hidx]; exact List.mem_map_of_mem hm)
    omega
  have eA : ((ms.map Sp.Om.mA).map Sp.Mb.y).map Sp.pad = ms.map Sp.Om.at := by
    rw [List.map_map, List.map_map]
    apply List.map_congr_left
    intro m _
    simp [Sp.pad, Sp.Mb.y, Sp.Mb.core, Sp.Om.mA, Sp.Om.at]
  have eB : ((ms.reverse.map Sp.Om.mB).map Sp.Mb.y).map Sp.pad = ms.reverse.map Sp.Om.bt := by
    rw [List.map_map, List.map_map]
    apply List.map_congr_left
    intro m _
    simp [Sp.pad, Sp.Mb.y, Sp.Mb.core, Sp.Om.mB, Sp.Om.bt]
  have hA := fun hd => rdV_obj (k := k) (ms := ms.map Sp.Om.mA) (fun m hm => by
    obtain ⟨o, ho, rfl⟩ := List.mem_map.1 hm
    exact Sp.Om.okA (h o ho) (hi o ho)) hd bl_nil
  have hB := fun hd => rdV_obj (k := k) (ms := ms.reverse.map Sp.Om.mB) (fun m hm => by
    obtain ⟨o, ho, rfl⟩ := List.mem_map.1 hm
    rw [List.mem_reverse] at ho
    exact Sp.Om.okB (h o ho) (hi o ho)) hd bl_nil
  rw [eA, List.nil_append] at hA
  rw [eB, List.nil_append] at hB
  suffices hs : (∀ i (hi : i < (ms.map Sp.Om.mA).length), Maps.has (Sp.putAll ((ms.map Sp.Om.mA).take i)) (.string (ms.map Sp.Om.mA)[i].key) = false) ∧
      (∀ i (hi : i < (ms.reverse.map Sp.Om.mB).length), Maps.has (Sp.putAll ((ms.reverse.map Sp.Om.mB).take i)) (.string (ms.reverse.map Sp.Om.mB)[i].key) = false) ∧
      Sp.putAll (ms.map Sp.Om.mA) = Sp.putAll (ms.reverse.map Sp.Om.mB) by
    obtain ⟨h1, h2, h3⟩ := hs
    exact ⟨_, hA h1, h3 ▸ hB h2⟩
  clear hA hB eA eB hi h
  have hlen : ∀ n, (Sp.idxs n).length = n := by
    intro n
    induction n with
    | zero => rfl
    | succ n ih => simp [Sp.idxs, ih]
  obtain rfl : n = ms.length := by rw [← hlen n, ← hidx, List.length_map]
  match ms, hn, hidx with
  | _ :: _ :: _ :: _ :: _, hn, _ => simp at hn
  | [], _, _ => exact ⟨fun i hi => absurd hi (by simp), fun i hi => absurd hi (by simp), rfl⟩
  | [m1], _, hidx =>
    obtain ⟨i1, x1, y1, a1, b1, c1, d1, v1⟩ := m1
    obtain rfl : i1 = 1 := by simpa [Sp.idxs] using hidx
    refine ⟨fun i hi => ?_, fun i hi => ?_, rfl⟩
    · match i, hi with
      | 0, _ => rfl
    · match i, hi with
      | 0, _ => rfl
  | [m2, m1], _, hidx =>
    obtain ⟨i1, x1, y1, a1, b1, c1, d1, v1⟩ := m1
    obtain ⟨i2, x2, y2, a2, b2, c2, d2, v2⟩ := m2
    obtain ⟨rfl, rfl⟩ : i2 = 2 ∧ i1 = 1 := by simpa [Sp.idxs] using hidx
    refine ⟨fun i hi => ?_, fun i hi => ?_, rfl⟩
    · match i, hi with
      | 0, _ => rfl
      | 1, _ => rfl
    · match i, hi with
      | 0, _ => rfl
      | 1, _ => rfl
  | [m3, m2, m1], _, hidx =>
    obtain ⟨i1, x1, y1, a1, b1, c1, d1, v1⟩ := m1
    obtain ⟨i2, x2, y2, a2, b2, c2, d2, v2⟩ := m2
    obtain ⟨i3, x3, y3, a3, b3, c3, d3, v3⟩ := m3
    obtain ⟨rfl, rfl, rfl⟩ : i3 = 3 ∧ i2 = 2 ∧ i1 = 1 := by simpa [Sp.idxs] using hidx
    refine ⟨fun i hi => ?_, fun i hi => ?_, rfl⟩
    · match i, hi with
      | 0, _ => rfl
      | 1, _ => rfl
      | 2, _ => rfl
    · match i, hi with
      | 0, _ => rfl
      | 1, _ => rfl
      | 2, _ => rfl

/-- both spellings, loaded, say the same -/
theorem two_dmp {a b z1 z2 : Sp.By} (h : Sp.Two 3 a b) (ha : a.length ≤ 1996) (hb : b.length ≤ 1996) (h1 : Sp.Bl z1) (h2 : Sp.Bl z2) : ∃ s, s ≠ [] ∧ Sp.dmp 4 2 a = (0, s) ∧ Sp.dmp 4 2 (z1 ++ (b ++ z2)) = (0, s) := by
  obtain ⟨v, hva, hvb⟩ := h
  have hzl : ∀ {z : Sp.By}, Sp.Bl z → z.length ≤ 2 := by
    intro z hz
    unfold Sp.Bl Sp.blks at hz
    simp only [List.mem_cons, List.not_mem_nil, or_false] at hz
    rcases hz with rfl | rfl | rfl | rfl
    all_goals simp
  have hread : ∀ {l p q : Sp.By}, Sp.RdV 3 l v → Sp.Bl p → Sp.Bl q → (p ++ (l ++ q)).length ≤ 2000 → Sp.readTo (p ++ (l ++ q)) 4 2 = (0, some v) := by
    intro l p q hl hp hq hlen
    have hnd : Sp.Nd q := by
      have := hq.nd (r := []) (by intro c t e; cases e)
      rwa [List.append_nil] at this
    obtain ⟨fl', k1, k2⟩ := hl.2 top 1 (false, (0, 0)) q (by rw [top_eq]; omega) hnd
    obtain ⟨o1, o2, o3⟩ := k2 4 (by omega) ⟨rfl, by simp, by simp⟩
    have hsk : Sp.skB q = [] := by
      have := hq.sk []
      rwa [List.append_nil] at this
    rw [readTo_some (by omega) (by rw [hp.sk, hl.1.skB]; exact k1), hsk, if_pos (show ([] : Sp.By).isEmpty = true from rfl), o1, if_neg (by decide), if_neg (by omega), if_neg (by omega)]
  have r1 := hread (p := []) (q := []) hva bl_nil bl_nil (by simp; omega)
  have z1l := hzl h1
  have z2l := hzl h2
  have r2 := hread (p := z1) (q := z2) hvb h1 h2 (by simp; omega)
  rw [List.nil_append, List.append_nil] at r1
  refine ⟨Sp.can top v, ?_, by unfold Sp.dmp; rw [r1], by unfold Sp.dmp; rw [r2]⟩
  obtain ⟨c, t, e, _⟩ := gd_hd (read_gd r1)
  rw [e]; simp

end Go.Proofs.YtdpomdelmdofmaaGreatDoor

namespace Go.Proofs.YtdpomdelmdofmaaGreatDoor
open Go.RowKit

/-- Block R is the source over m numbers. -/
structure FD (w : World) (R : Nat) (pa : Option Addr) (m cap : Nat) : Prop where
  hm : m ≤ cap
  hc : cap ≤ maxLen
  st : ∃ a : Nat, a ≤ m ∧ w.heap[R]? = some (.cells #[.slice pa m cap, .int .i64 a] 37 (0, 0))
  raw : 0 < m → ∃ rb ro : Nat, pa = some ⟨rb, ro, none⟩ ∧ rb ≠ R ∧ rb < w.heap.size ∧ ∀ i, i < m → ∃ z : Int, -9223372036854775808 ≤ z ∧ z ≤ 9223372036854775807 ∧ w.cell? ⟨rb, ro + i, none⟩ = some (.int .i64 z)
theorem FD.lt {w : World} {R : Nat} {pa : Option Addr} {m cap : Nat} (h : FD w R pa m cap) : R < w.heap.size := by
  obtain ⟨a, _, h⟩ := h.st
  exact (Array.getElem?_eq_some_iff.1 h).1
theorem FD.next {w w' : World} {R : Nat} {pa : Option Addr} {m cap : Nat} (h : FD w R pa m cap) (hk : KeptX R w w') {a : Nat} (ha : a ≤ m) (hs : w'.heap[R]? = some (.cells #[.slice pa m cap, .int .i64 a] 37 (0, 0))) : FD w' R pa m cap :=
  ⟨h.hm, h.hc, ⟨a, ha, hs⟩, fun hp => let ⟨rb, ro, h1, h2, h3, h4⟩ := h.raw hp; ⟨rb, ro, h1, h2, Nat.lt_of_lt_of_le h3 hk.size, fun i hi => let ⟨z, z1, z2, z3⟩ := h4 i hi; ⟨z, z1, z2, (hk.cell (p := ⟨rb, ro + i, none⟩) h3 h2).trans z3⟩⟩⟩
theorem FD.low {w w' : World} {R : Nat} {pa : Option Addr} {m cap : Nat} (h : FD w R pa m cap) (hb : Below w.heap.size w w') : FD w' R pa m cap := by
  obtain ⟨a, ha, hs⟩ := h.st
  exact h.next (KeptX.of_below hb) ha ((hb.block R h.lt).trans hs)
/-- the source goes on; all else stands -/
def FK (R : Nat) (pa : Option Addr) (m cap : Nat) (w w' : World) : Prop := FD w' R pa m cap ∧ KeptX R w w'
theorem FK.trans {R : Nat} {pa : Option Addr} {m cap : Nat} {a b c : World} (h : FK R pa m cap a b) (k : FK R pa m cap b c) : FK R pa m cap a c := ⟨k.1, h.2.trans k.2⟩
theorem FK.low {R : Nat} {pa : Option Addr} {m cap : Nat} {a b c : World} (h : FK R pa m cap a b) (hb : Below b.heap.size b c) : FK R pa m cap a c := ⟨h.1.low hb, h.2.trans (KeptX.of_below hb)⟩

set_option maxHeartbeats 2000000 in
theorem next_any {w : World} {R : Nat} {pa : Option Addr} {m cap : Nat} (h : FD w R pa m cap) (n : Nat) (hn : 0 < n) (hn2 : n ≤ 4611686018427387904) :
    Calls Tryz.prog 31 #[.pointer (some ⟨R, 0, none⟩), .int .i64 n] w fun x w' => (∃ k : Nat, k < n ∧ x = .returned (.int .i64 k)) ∧ FK R pa m cap w w' := by
  obtain ⟨a, ha, hs⟩ := h.st
  have HS := hide hs
  have HFD := hide h
  have hmb : m ≤ 9223372036854775807 := by have := h.hm; have := h.hc; unfold maxLen at *; omega
  have c0 : w.cell? ⟨R, 0, none⟩ = some (.slice pa m cap) := by simp [World.cell?, hs]
  have c1 : w.cell? ⟨R, 1, none⟩ = some (.int .i64 a) := by simp [World.cell?, hs]
  have hf : w.frozen? ⟨R, 1, none⟩ = false := by simp [World.frozen?, hs]
  by_cases hlt : a < m
  · have e1 : decide ((m : Int) ≤ (a : Int)) = false := by simp; omega
    obtain ⟨rb, ro, rfl, hne, hrl, hcell⟩ := h.raw (by omega)
    obtain ⟨z, z1, z2, hz⟩ := hcell a hlt
    clear hcell hs h
    go_enter Tryz.func31, Tryz.ntmps31
    go_wp2_with (fail)
    go_quiet (fail)
    go_wp2_with (fail)
    have hw2 : ((w.drewN nq).setCell ⟨R, 1, none⟩ (.int .i64 ((a : Int) + 1))).heap[R]? = some (.cells #[.slice (some ⟨rb, ro, none⟩) m cap, .int .i64 ((a + 1 : Nat) : Int)] 37 (0, 0)) := by
      rw [row_set (show (w.drewN nq).heap[R]? = _ from unhide HS)]
      simp
    have hk2 : KeptX R w ((w.drewN nq).setCell ⟨R, 1, none⟩ (.int .i64 ((a : Int) + 1))) := ((KeptX.refl R w).drewN nq).setCell rfl _
    generalize (w.drewN nq).setCell ⟨R, 1, none⟩ (.int .i64 ((a : Int) + 1)) = w2 at *
    have d0 : w2.cell? ⟨R, 0, none⟩ = some (.slice (some ⟨rb, ro, none⟩) m cap) := by simp [World.cell?, hw2]
    have d1 : w2.cell? ⟨R, 1, none⟩ = some (.int .i64 ((a : Int) + 1)) := by simp [World.cell?, hw2]
    have dz : w2.cell? ⟨rb, ro + a, none⟩ = some (.int .i64 z) := (hk2.cell (p := ⟨rb, ro + a, none⟩) hrl hne).trans hz
    have HW2 := hide hw2
    have HK2 := hide hk2
    have hwr : IntKind.i64.wrap (a : Int) = a := by rw [IntKind.wrap_i64]; omega
    clear hw2 hk2 c0 c1 hf hz
    go_region_with (go_at_call 23; refine (pick_any z n z1 z2 hn hn2 _).mono ?_; rintro x w' ⟨⟨k, hk, rfl⟩, rfl⟩)
    all_goals (
      go_wp2_with (fail)
      go_ret
      exact ⟨⟨k, hk, rfl⟩, (unhide HFD).next (w' := w2.drew) ((unhide HK2).drew) (a := a + 1) (by omega) (unhide HW2), (unhide HK2).drew⟩)
  · have e1 : decide ((m : Int) ≤ (a : Int)) = true := by simp; omega
    clear hs h
    go_enter Tryz.func31, Tryz.ntmps31
    go_wp2_with (fail)
    go_quiet (fail)
    go_wp2_with (fail)
    go_ret
    exact ⟨⟨0, hn, rfl⟩, (unhide HFD).low ⟨rfl, rfl, rfl, Nat.le_refl _, fun _ _ => rfl⟩, KeptX.of_below ⟨rfl, rfl, rfl, Nat.le_refl _, fun _ _ => rfl⟩⟩

def blkCells : Array Value := #[.string ⟨#[]⟩, .string ⟨#[32]⟩, .string ⟨#[10]⟩, .string ⟨#[9, 13]⟩]
theorem blk_at (k : Nat) (hk : k < 4) : blkCells[k]? = some (.string ⟨(Sp.blks.getD k []).toArray⟩) := by
  match k, hk with
  | 0, _ => rfl
  | 1, _ => rfl
  | 2, _ => rfl
  | 3, _ => rfl
theorem blk_bl (k : Nat) (hk : k < 4) : Sp.Bl (Sp.blks.getD k []) := by
  unfold Sp.Bl
  match k, hk with
  | 0, _ => decide
  | 1, _ => decide
  | 2, _ => decide
  | 3, _ => decide

set_option maxHeartbeats 2000000 in
theorem blank_any {w : World} {R : Nat} {pa : Option Addr} {m cap : Nat} (h : FD w R pa m cap) :
    Calls Tryz.prog 22 #[.pointer (some ⟨R, 0, none⟩)] w fun x w' => (∃ b : ByteArray, Sp.Bl b.data.toList ∧ b.size ≤ 2 ∧ x = .returned (.string b)) ∧ FK R pa m cap w w' := by
  have hb1 : Below w.heap.size w (w.alloc (.cells blkCells 9)) := (Below.refl _ _).alloc (Nat.le_refl _) _
  have hg : (w.alloc (.cells blkCells 9)).heap[w.heap.size]? = some (.cells blkCells 9 (0, 0)) := heap_new _ _ _ rfl
  have h1 := h.low hb1
  have hlt := h.lt
  have HB1 := hide hb1
  have H1 := hide h1
  have HG := hide hg
  clear h h1 hb1 hg
  go_enter Tryz.func22, Tryz.ntmps22
  go_wp2_with (fail)
  refine (next_any (unhide H1) 4 (by omega) (by omega)).mono ?_
  rintro x w2 ⟨⟨k, hk, rfl⟩, hfk⟩
  have hg2 : w2.heap[w.heap.size]? = some (.cells blkCells 9 (0, 0)) := (hfk.2.block _ (by simp) (by omega)).trans (unhide HG)
  obtain ⟨b, ck, hbl, hbs⟩ : ∃ b : ByteArray, w2.cell? ⟨w.heap.size, k, none⟩ = some (.string b) ∧ Sp.Bl b.data.toList ∧ b.size ≤ 2 := by
    refine ⟨⟨(Sp.blks.getD k []).toArray⟩, ?_, blk_bl k hk, ?_⟩
    · simp only [World.cell?, hg2]
      rw [blk_at k hk]
      rfl
    · match k, hk with
      | 0, _ => decide
      | 1, _ => decide
      | 2, _ => decide
      | 3, _ => decide
  have HFK := hide hfk
  clear hfk hg2
  go_wp2_with (fail)
  go_ret
  exact ⟨⟨b, hbl, hbs, rfl⟩, (unhide HFK).1, (KeptX.of_below (unhide HB1)).trans (unhide HFK).2⟩

end Go.Proofs.YtdpomdelmdofmaaGreatDoor
