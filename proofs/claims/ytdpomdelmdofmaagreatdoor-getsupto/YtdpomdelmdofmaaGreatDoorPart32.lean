/-
  Plain facts on the functions of Sp: two spellings of one value.
-/
import Derived.Test.YtdpomdelmdofmaaGreatDoorPart31
import Derived.Test.YtdpomdelmdofmaaGreatDoorPart29
namespace Go.Proofs.YtdpomdelmdofmaaGreatDoor
open Go.Maps
def Sp.Two (k : Nat) (a b : Sp.By) : Prop := ∃ v, Sp.RdV k a v ∧ Sp.RdV k b v
theorem Sp.Two.mono {k k' : Nat} {a b : Sp.By} (h : Sp.Two k a b) (hk : k ≤ k') : Sp.Two k' a b := let ⟨v, h1, h2⟩ := h; ⟨v, h1.mono hk, h2.mono hk⟩
def Sp.sgn (ng : Bool) : Sp.By := if ng then [45] else []
theorem num7_hd : ∀ l ∈ Sp.num7, ∃ c t, l = c :: t ∧ Sp.isD c = true := by
 intro l hl
 unfold Sp.num7 at hl
 simp only [List.mem_cons, List.not_mem_nil, or_false] at hl
 rcases hl with rfl | rfl | rfl | rfl | rfl | rfl | rfl | rfl
 all_goals exact ⟨_, _, rfl, by decide⟩
theorem rdV_num7 (ng : Bool) {l : Sp.By} (hl : l ∈ Sp.num7) : Sp.RdV 0 (Sp.sgn ng ++ l) (Sp.vNum (ng, [55], 0)) := by
 obtain ⟨c, t, e, hc⟩ := num7_hd l hl
 cases ng with
 | true =>
  refine rdV_num ⟨45, l, rfl, Or.inl rfl⟩ (fun r hr => ?_) (by simp)
  show Sp.num (45 :: (l ++ r)) = _
  unfold Sp.num
  rw [if_pos (by rfl), List.tail_cons, numB7 true hl hr]
 | false =>
  refine rdV_num ⟨c, t, e, Or.inr hc⟩ (fun r hr => ?_) (by simp)
  show Sp.num (l ++ r) = _
  unfold Sp.num
  have hk : Sp.tk (l ++ r) 45 = false := by
   rw [e, List.cons_append, tk_hd, beq_eq_false_iff_ne]
   exact (isD_ne hc).1
  rw [hk, if_neg (by decide), numB7 false hl hr]
theorem rdV_num0 {l : Sp.By} (hl : l ∈ Sp.num0) : Sp.RdV 0 l (Sp.vNum (false, [], 0)) := by
 have hh : ∃ c t, l = c :: t ∧ (c = 45 ∨ Sp.isD c = true) := by
  unfold Sp.num0 at hl
  simp only [List.mem_cons, List.not_mem_nil, or_false] at hl
  rcases hl with rfl | rfl | rfl | rfl | rfl
  ·exact ⟨_, _, rfl, Or.inl rfl⟩
  ·exact ⟨_, _, rfl, Or.inr (by decide)⟩
  ·exact ⟨_, _, rfl, Or.inr (by decide)⟩
  ·exact ⟨_, _, rfl, Or.inr (by decide)⟩
  ·exact ⟨_, _, rfl, Or.inl rfl⟩
 exact rdV_num hh (fun r hr => num0_read hl hr) (by simp)
structure Sp.El where
 x : Sp.By
 p : Sp.By
 y : Sp.By
 q : Sp.By
 v : Sp.V
def Sp.El.ok (k : Nat) (e : Sp.El) : Prop := Sp.RdV k e.x e.v ∧ Sp.RdV k e.y e.v ∧ Sp.Bl e.p ∧ Sp.Bl e.q
def Sp.El.b (e : Sp.El) : Sp.By := e.p ++ (e.y ++ e.q)
theorem bl_nil : Sp.Bl [] := by unfold Sp.Bl Sp.blks; simp
theorem two_arr {k : Nat} {es : List Sp.El} (h : ∀ e ∈ es, e.ok k) {z : Sp.By} (hz : Sp.Bl z) : Sp.Two (k + 1) (91 :: (Sp.joinC (es.map Sp.El.x) ++ [93])) (91 :: (Sp.joinC (es.map Sp.El.b) ++ (z ++ [93]))) := by
 refine ⟨Sp.vArr (es.map Sp.El.v), ?_, ?_⟩
 ·have := rdV_arr (k := k) (ys := es.map fun e => ([], e.x, [])) (vs := es.map Sp.El.v) (by simp) (fun i h1 h2 => by
   simp only [List.getElem_map]
   obtain ⟨a, _, _, _⟩ := h (es[i]'(by simpa using h1)) (List.getElem_mem _)
   exact ⟨bl_nil, a, bl_nil⟩) bl_nil
  have e1 : (es.map fun e => (([], e.x, []) : Sp.By × Sp.By × Sp.By)).map Sp.pad = es.map Sp.El.x := by
   rw [List.map_map]
   apply List.map_congr_left
   intro e _
   simp [Sp.pad]
  rw [e1, List.nil_append] at this
  exact this
 ·have := rdV_arr (k := k) (ys := es.map fun e => (e.p, e.y, e.q)) (vs := es.map Sp.El.v) (by simp) (fun i h1 h2 => by
   simp only [List.getElem_map]
   obtain ⟨_, a, b, c⟩ := h (es[i]'(by simpa using h1)) (List.getElem_mem _)
   exact ⟨b, a, c⟩) hz
  have e1 : (es.map fun e => (e.p, e.y, e.q)).map Sp.pad = es.map Sp.El.b := by
   rw [List.map_map]
   rfl
  rw [e1] at this
  exact this
def Sp.pre (xs : List Sp.By) : Sp.By := xs.flatMap fun t => t ++ [44]
theorem joinC_pre (xs : List Sp.By) (t : Sp.By) : Sp.joinC (xs ++ [t]) = Sp.pre xs ++ t := by
 have hr : ∀ ys : List Sp.By, Sp.joinR (ys ++ [t]) = 44 :: (Sp.pre ys ++ t) := by
  intro ys
  induction ys with
  | nil => simp [Sp.joinR, Sp.pre]
  | cons y r ih => simp only [List.cons_append, Sp.joinR, ih]; simp [Sp.pre]
 cases xs with
 | nil => simp [Sp.joinC, Sp.joinR, Sp.pre]
 | cons y r =>
  simp only [List.cons_append, Sp.joinC, hr]
  simp [Sp.pre]
theorem pre_snoc (xs : List Sp.By) (t : Sp.By) : Sp.pre (xs ++ [t]) = Sp.pre xs ++ (t ++ [44]) := by simp [Sp.pre]
def Sp.kA : List Sp.By := [[], [34, 107, 34], [34, 92, 117, 48, 48, 54, 98, 92, 117, 48, 48, 54, 66, 34], [34, 126, 47, 34]]
def Sp.kB : List Sp.By := [[], [34, 92, 117, 48, 48, 54, 98, 34], [34, 107, 107, 34], [34, 92, 117, 48, 48, 55, 101, 92, 47, 34]]
def Sp.kK : List Sp.By := [[], [107], [107, 107], [126, 47]]
theorem ch_a (c : Nat) (p : Sp.By) (hc : c < 55296) (e : Sp.escS (Lib.encodeRune (c : Int)) = p) : Sp.Ch p c := fun l => e ▸ chr_esc c (Or.inl hc) l
theorem quo_key {a : Sp.By} {cs : List Nat} {s : Sp.By} (h : Sp.Chs a cs) (e : cs.flatMap Sp.encN = s) (l : Sp.By) : Sp.quo (34 :: (a ++ [34]) ++ l) = some (s, l) := by
 have : 34 :: (a ++ [34]) ++ l = 34 :: (a ++ 34 :: l) := by simp
 rw [this, chs_quo h l, e]
theorem kA_quo (i : Nat) (h : 1 ≤ i ∧ i ≤ 3) (l : Sp.By) : Sp.quo (Sp.kA.getD i [] ++ l) = some (Sp.kK.getD i [], l) := by
 have k1 : Sp.Ch [107] 107 := ch_a _ _ (by omega) (by decide)
 have u1 : Sp.Ch [92, 117, 48, 48, 54, 98] 107 := ch_u (n1 := 0) (n2 := 0) (n3 := 6) (n4 := 11) (by decide) (by decide) (by decide) (by decide) (by decide) (by decide)
 have u2 : Sp.Ch [92, 117, 48, 48, 54, 66] 107 := ch_u (n1 := 0) (n2 := 0) (n3 := 6) (n4 := 11) (by decide) (by decide) (by decide) (by decide) (by decide) (by decide)
 have t1 : Sp.Ch [126] 126 := ch_a _ _ (by omega) (by decide)
 have s1 : Sp.Ch [47] 47 := ch_a _ _ (by omega) (by decide)
 match i, h with
 | 1, _ => exact quo_key (a := [107]) (Sp.Chs.snoc Sp.Chs.nil k1) (by decide) l
 | 2, _ => exact quo_key (a := [92, 117, 48, 48, 54, 98, 92, 117, 48, 48, 54, 66]) (Sp.Chs.snoc (Sp.Chs.snoc Sp.Chs.nil u1) u2) (by decide) l
 | 3, _ => exact quo_key (a := [126, 47]) (Sp.Chs.snoc (Sp.Chs.snoc Sp.Chs.nil t1) s1) (by decide) l
theorem kB_quo (i : Nat) (h : 1 ≤ i ∧ i ≤ 3) (l : Sp.By) : Sp.quo (Sp.kB.getD i [] ++ l) = some (Sp.kK.getD i [], l) := by
 have k1 : Sp.Ch [107] 107 := ch_a _ _ (by omega) (by decide)
 have u1 : Sp.Ch [92, 117, 48, 48, 54, 98] 107 := ch_u (n1 := 0) (n2 := 0) (n3 := 6) (n4 := 11) (by decide) (by decide) (by decide) (by decide) (by decide) (by decide)
 have u2 : Sp.Ch [92, 117, 48, 48, 55, 101] 126 := ch_u (n1 := 0) (n2 := 0) (n3 := 7) (n4 := 14) (by decide) (by decide) (by decide) (by decide) (by decide) (by decide)
 have s1 : Sp.Ch [92, 47] 47 := fun l => ⟨rfl, rfl⟩
 match i, h with
 | 1, _ => exact quo_key (a := [92, 117, 48, 48, 54, 98]) (Sp.Chs.snoc Sp.Chs.nil u1) (by decide) l
 | 2, _ => exact quo_key (a := [107, 107]) (Sp.Chs.snoc (Sp.Chs.snoc Sp.Chs.nil k1) k1) (by decide) l
 | 3, _ => exact quo_key (a := [92, 117, 48, 48, 55, 101, 92, 47]) (Sp.Chs.snoc (Sp.Chs.snoc Sp.Chs.nil u2) s1) (by decide) l
structure Sp.Om where
 i : Nat
 x : Sp.By
 y : Sp.By
 p : Sp.By
 p1 : Sp.By
 p2 : Sp.By
 q : Sp.By
 v : Sp.V
def Sp.Om.ok (k : Nat) (m : Sp.Om) : Prop := Sp.RdV k m.x m.v ∧ Sp.RdV k m.y m.v ∧ Sp.Bl m.p ∧ Sp.Bl m.p1 ∧ Sp.Bl m.p2 ∧ Sp.Bl m.q
def Sp.Om.at (m : Sp.Om) : Sp.By := Sp.kA.getD m.i [] ++ 58 :: m.x
def Sp.Om.bt (m : Sp.Om) : Sp.By := m.p ++ (Sp.kB.getD m.i [] ++ (m.p1 ++ 58 :: (m.p2 ++ (m.y ++ m.q))))
def Sp.Om.mA (m : Sp.Om) : Sp.Mb := ⟨[], Sp.kA.getD m.i [], [], [], m.x, [], Sp.kK.getD m.i [], m.v⟩
def Sp.Om.mB (m : Sp.Om) : Sp.Mb := ⟨m.p, Sp.kB.getD m.i [], m.p1, m.p2, m.y, m.q, Sp.kK.getD m.i [], m.v⟩
theorem Sp.Om.okA {k : Nat} {m : Sp.Om} (h : m.ok k) (hi : 1 ≤ m.i ∧ m.i ≤ 3) : m.mA.ok k := by
 refine ⟨bl_nil, ?_, kA_quo m.i hi, bl_nil, bl_nil, h.1, bl_nil⟩
 obtain ⟨i, x, y, p, p1, p2, q, v⟩ := m
 simp only at hi
 match i, hi with
 | 1, _ => exact ⟨_, rfl⟩
 | 2, _ => exact ⟨_, rfl⟩
 | 3, _ => exact ⟨_, rfl⟩
theorem Sp.Om.okB {k : Nat} {m : Sp.Om} (h : m.ok k) (hi : 1 ≤ m.i ∧ m.i ≤ 3) : m.mB.ok k := by
 refine ⟨h.2.2.1, ?_, kB_quo m.i hi, h.2.2.2.1, h.2.2.2.2.1, h.2.1, h.2.2.2.2.2⟩
 obtain ⟨i, x, y, p, p1, p2, q, v⟩ := m
 simp only at hi
 match i, hi with
 | 1, _ => exact ⟨_, rfl⟩
 | 2, _ => exact ⟨_, rfl⟩
 | 3, _ => exact ⟨_, rfl⟩
def Sp.idxs (n : Nat) : List Nat := match n with
 | 0 => []
 | n + 1 => (n + 1) :: Sp.idxs n
theorem two_obj {k : Nat} {ms : List Sp.Om} {n : Nat} (hn : n ≤ 3) (hidx : ms.map Sp.Om.i = Sp.idxs n) (h : ∀ m ∈ ms, m.ok k) :
  Sp.Two (k + 1) (123 :: (Sp.joinC (ms.map Sp.Om.at) ++ [125])) (123 :: (Sp.joinC (ms.reverse.map Sp.Om.bt) ++ [125])) := by
 have hi : ∀ m ∈ ms, 1 ≤ m.i ∧ m.i ≤ 3 := by
  have hx : ∀ n, ∀ i ∈ Sp.idxs n, 1 ≤ i ∧ i ≤ n := by
   intro n
   induction n with
   | zero => intro i h; cases h
   | succ n ih =>
    intro i h
    rcases List.mem_cons.1 h with rfl | h
    ·omega
    ·have := ih i h; omega
  intro m hm
  have := hx n m.i (by rw [← hidx]; exact List.mem_map_of_mem hm)
  omega
 have eA : ((ms.map Sp.Om.mA).map Sp.Mb.y).map Sp.pad = ms.map Sp.Om.at := by
  rw [List.map_map, List.map_map]
  apply List.map_congr_left
  intro m _
  simp [Sp.pad, Sp.Mb.y, Sp.Mb.core, Sp.Om.mA, Sp.Om.at]
 have eB : ((ms.reverse.map Sp.Om.mB).map Sp.Mb.y).map Sp.pad = ms.reverse.map Sp.Om.bt := by
  rw [List.map_map, List.map_map]
  apply List.map_congr_left
  intro m _
  simp [Sp.pad, Sp.Mb.y, Sp.Mb.core, Sp.Om.mB, Sp.Om.bt]
 have hA := fun hd => rdV_obj (k := k) (ms := ms.map Sp.Om.mA) (fun m hm => by
  obtain ⟨o, ho, rfl⟩ := List.mem_map.1 hm
  exact Sp.Om.okA (h o ho) (hi o ho)) hd bl_nil
 have hB := fun hd => rdV_obj (k := k) (ms := ms.reverse.map Sp.Om.mB) (fun m hm => by
  obtain ⟨o, ho, rfl⟩ := List.mem_map.1 hm
  rw [List.mem_reverse] at ho
  exact Sp.Om.okB (h o ho) (hi o ho)) hd bl_nil
 rw [eA, List.nil_append] at hA
 rw [eB, List.nil_append] at hB
 suffices hs : (∀ i (hi : i < (ms.map Sp.Om.mA).length), Maps.has (Sp.putAll ((ms.map Sp.Om.mA).take i)) (.string (ms.map Sp.Om.mA)[i].key) = false) ∧
   (∀ i (hi : i < (ms.reverse.map Sp.Om.mB).length), Maps.has (Sp.putAll ((ms.reverse.map Sp.Om.mB).take i)) (.string (ms.reverse.map Sp.Om.mB)[i].key) = false) ∧
   Sp.putAll (ms.map Sp.Om.mA) = Sp.putAll (ms.reverse.map Sp.Om.mB) by
  obtain ⟨h1, h2, h3⟩ := hs
  exact ⟨_, hA h1, h3 ▸ hB h2⟩
 clear hA hB eA eB hi h
 have hlen : ∀ n, (Sp.idxs n).length = n := by
  intro n
  induction n with
  | zero => rfl
  | succ n ih => simp [Sp.idxs, ih]
 obtain rfl : n = ms.length := by rw [← hlen n, ← hidx, List.length_map]
 match ms, hn, hidx with
 | _ :: _ :: _ :: _ :: _, hn, _ => simp at hn
 | [], _, _ => exact ⟨fun i hi => absurd hi (by simp), fun i hi => absurd hi (by simp), rfl⟩
 | [m1], _, hidx =>
  obtain ⟨i1, x1, y1, a1, b1, c1, d1, v1⟩ := m1
  obtain rfl : i1 = 1 := by simpa [Sp.idxs] using hidx
  refine ⟨fun i hi => ?_, fun i hi => ?_, rfl⟩
  ·match i, hi with
   | 0, _ => rfl
  ·match i, hi with
   | 0, _ => rfl
 | [m2, m1], _, hidx =>
  obtain ⟨i1, x1, y1, a1, b1, c1, d1, v1⟩ := m1
  obtain ⟨i2, x2, y2, a2, b2, c2, d2, v2⟩ := m2
  obtain ⟨rfl, rfl⟩ : i2 = 2 ∧ i1 = 1 := by simpa [Sp.idxs] using hidx
  refine ⟨fun i hi => ?_, fun i hi => ?_, rfl⟩
  ·match i, hi with
   | 0, _ => rfl
   | 1, _ => rfl
  ·match i, hi with
   | 0, _ => rfl
   | 1, _ => rfl
 | [m3, m2, m1], _, hidx =>
  obtain ⟨i1, x1, y1, a1, b1, c1, d1, v1⟩ := m1
  obtain ⟨i2, x2, y2, a2, b2, c2, d2, v2⟩ := m2
  obtain ⟨i3, x3, y3, a3, b3, c3, d3, v3⟩ := m3
  obtain ⟨rfl, rfl, rfl⟩ : i3 = 3 ∧ i2 = 2 ∧ i1 = 1 := by simpa [Sp.idxs] using hidx
  refine ⟨fun i hi => ?_, fun i hi => ?_, rfl⟩
  ·match i, hi with
   | 0, _ => rfl
   | 1, _ => rfl
   | 2, _ => rfl
  ·match i, hi with
   | 0, _ => rfl
   | 1, _ => rfl
   | 2, _ => rfl
theorem two_dmp {a b z1 z2 : Sp.By} (h : Sp.Two 3 a b) (ha : a.length ≤ 1996) (hb : b.length ≤ 1996) (h1 : Sp.Bl z1) (h2 : Sp.Bl z2) : ∃ s, s ≠ [] ∧ Sp.dmp 4 2 a = (0, s) ∧ Sp.dmp 4 2 (z1 ++ (b ++ z2)) = (0, s) := by
 obtain ⟨v, hva, hvb⟩ := h
 have hzl : ∀ {z : Sp.By}, Sp.Bl z → z.length ≤ 2 := by
  intro z hz
  unfold Sp.Bl Sp.blks at hz
  simp only [List.mem_cons, List.not_mem_nil, or_false] at hz
  rcases hz with rfl | rfl | rfl | rfl
  all_goals simp
 have hread : ∀ {l p q : Sp.By}, Sp.RdV 3 l v → Sp.Bl p → Sp.Bl q → (p ++ (l ++ q)).length ≤ 2000 → Sp.readTo (p ++ (l ++ q)) 4 2 = (0, some v) := by
  intro l p q hl hp hq hlen
  have hnd : Sp.Nd q := by
   have := hq.nd (r := []) (by intro c t e; cases e)
   rwa [List.append_nil] at this
  obtain ⟨fl', k1, k2⟩ := hl.2 top 1 (false, (0, 0)) q (by rw [top_eq]; omega) hnd
  obtain ⟨o1, o2, o3⟩ := k2 4 (by omega) ⟨rfl, by simp, by simp⟩
  have hsk : Sp.skB q = [] := by
   have := hq.sk []
   rwa [List.append_nil] at this
  rw [readTo_some (by omega) (by rw [hp.sk, hl.1.skB]; exact k1), hsk, if_pos (show ([] : Sp.By).isEmpty = true from rfl), o1, if_neg (by decide), if_neg (by omega), if_neg (by omega)]
 have r1 := hread (p := []) (q := []) hva bl_nil bl_nil (by simp; omega)
 have z1l := hzl h1
 have z2l := hzl h2
 have r2 := hread (p := z1) (q := z2) hvb h1 h2 (by simp; omega)
 rw [List.nil_append, List.append_nil] at r1
 refine ⟨Sp.can top v, ?_, by unfold Sp.dmp; rw [r1], by unfold Sp.dmp; rw [r2]⟩
 obtain ⟨c, t, e, _⟩ := gd_hd (read_gd r1)
 rw [e]; simp
end Go.Proofs.YtdpomdelmdofmaaGreatDoor

namespace Go.Proofs.YtdpomdelmdofmaaGreatDoor
open Go.RowKit
structure FD (w : World) (R : Nat) (pa : Option Addr) (m cap : Nat) : Prop where
 hm : m ≤ cap
 hc : cap ≤ maxLen
 st : ∃ a : Nat, a ≤ m ∧ w.heap[R]? = some (.cells #[.slice pa m cap, .int .i64 a] 37 (0, 0))
 raw : 0 < m → ∃ rb ro : Nat, pa = some ⟨rb, ro, none⟩ ∧ rb ≠ R ∧ rb < w.heap.size ∧ ∀ i, i < m → ∃ z : Int, -9223372036854775808 ≤ z ∧ z ≤ 9223372036854775807 ∧ w.cell? ⟨rb, ro + i, none⟩ = some (.int .i64 z)
theorem FD.lt {w : World} {R : Nat} {pa : Option Addr} {m cap : Nat} (h : FD w R pa m cap) : R < w.heap.size := by
 obtain ⟨a, _, h⟩ := h.st
 exact (Array.getElem?_eq_some_iff.1 h).1
theorem FD.next {w w' : World} {R : Nat} {pa : Option Addr} {m cap : Nat} (h : FD w R pa m cap) (hk : KeptX R w w') {a : Nat} (ha : a ≤ m) (hs : w'.heap[R]? = some (.cells #[.slice pa m cap, .int .i64 a] 37 (0, 0))) : FD w' R pa m cap :=
 ⟨h.hm, h.hc, ⟨a, ha, hs⟩, fun hp => let ⟨rb, ro, h1, h2, h3, h4⟩ := h.raw hp; ⟨rb, ro, h1, h2, Nat.lt_of_lt_of_le h3 hk.size, fun i hi => let ⟨z, z1, z2, z3⟩ := h4 i hi; ⟨z, z1, z2, (hk.cell (p := ⟨rb, ro + i, none⟩) h3 h2).trans z3⟩⟩⟩
theorem FD.low {w w' : World} {R : Nat} {pa : Option Addr} {m cap : Nat} (h : FD w R pa m cap) (hb : Below w.heap.size w w') : FD w' R pa m cap := by
 obtain ⟨a, ha, hs⟩ := h.st
 exact h.next (KeptX.of_below hb) ha ((hb.block R h.lt).trans hs)
def FK (R : Nat) (pa : Option Addr) (m cap : Nat) (w w' : World) : Prop := FD w' R pa m cap ∧ KeptX R w w'
theorem FK.trans {R : Nat} {pa : Option Addr} {m cap : Nat} {a b c : World} (h : FK R pa m cap a b) (k : FK R pa m cap b c) : FK R pa m cap a c := ⟨k.1, h.2.trans k.2⟩
theorem FK.low {R : Nat} {pa : Option Addr} {m cap : Nat} {a b c : World} (h : FK R pa m cap a b) (hb : Below b.heap.size b c) : FK R pa m cap a c := ⟨h.1.low hb, h.2.trans (KeptX.of_below hb)⟩
set_option maxHeartbeats 2000000 in
theorem next_any {w : World} {R : Nat} {pa : Option Addr} {m cap : Nat} (h : FD w R pa m cap) (n : Nat) (hn : 0 < n) (hn2 : n ≤ 4611686018427387904) :
  Calls Tryz.prog 31 #[.pointer (some ⟨R, 0, none⟩), .int .i64 n] w fun x w' => (∃ k : Nat, k < n ∧ x = .returned (.int .i64 k)) ∧ FK R pa m cap w w' := by
 obtain ⟨a, ha, hs⟩ := h.st
 have HS := hide hs
 have HFD := hide h
 have hmb : m ≤ 9223372036854775807 := by have := h.hm; have := h.hc; unfold maxLen at *; omega
 have c0 : w.cell? ⟨R, 0, none⟩ = some (.slice pa m cap) := by simp [World.cell?, hs]
 have c1 : w.cell? ⟨R, 1, none⟩ = some (.int .i64 a) := by simp [World.cell?, hs]
 have hf : w.frozen? ⟨R, 1, none⟩ = false := by simp [World.frozen?, hs]
 by_cases hlt : a < m
 ·have e1 : decide ((m : Int) ≤ (a : Int)) = false := by simp; omega
  obtain ⟨rb, ro, rfl, hne, hrl, hcell⟩ := h.raw (by omega)
  obtain ⟨z, z1, z2, hz⟩ := hcell a hlt
  clear hcell hs h
  go_enter Tryz.func31, Tryz.ntmps31
  go_wp2_with (fail)
  go_quiet (fail)
  go_wp2_with (fail)
  have hw2 : ((w.drewN nq).setCell ⟨R, 1, none⟩ (.int .i64 ((a : Int) + 1))).heap[R]? = some (.cells #[.slice (some ⟨rb, ro, none⟩) m cap, .int .i64 ((a + 1 : Nat) : Int)] 37 (0, 0)) := by
   rw [row_set (show (w.drewN nq).heap[R]? = _ from unhide HS)]
   simp
  have hk2 : KeptX R w ((w.drewN nq).setCell ⟨R, 1, none⟩ (.int .i64 ((a : Int) + 1))) := ((KeptX.refl R w).drewN nq).setCell rfl _
  generalize (w.drewN nq).setCell ⟨R, 1, none⟩ (.int .i64 ((a : Int) + 1)) = w2 at *
  have d0 : w2.cell? ⟨R, 0, none⟩ = some (.slice (some ⟨rb, ro, none⟩) m cap) := by simp [World.cell?, hw2]
  have d1 : w2.cell? ⟨R, 1, none⟩ = some (.int .i64 ((a : Int) + 1)) := by simp [World.cell?, hw2]
  have dz : w2.cell? ⟨rb, ro + a, none⟩ = some (.int .i64 z) := (hk2.cell (p := ⟨rb, ro + a, none⟩) hrl hne).trans hz
  have HW2 := hide hw2
  have HK2 := hide hk2
  have hwr : IntKind.i64.wrap (a : Int) = a := by rw [IntKind.wrap_i64]; omega
  clear hw2 hk2 c0 c1 hf hz
  go_region_with (go_at_call 23; refine (pick_any z n z1 z2 hn hn2 _).mono ?_; rintro x w' ⟨⟨k, hk, rfl⟩, rfl⟩)
  all_goals (
   go_wp2_with (fail)
   go_ret
   exact ⟨⟨k, hk, rfl⟩, (unhide HFD).next (w' := w2.drew) ((unhide HK2).drew) (a := a + 1) (by omega) (unhide HW2), (unhide HK2).drew⟩)
 ·have e1 : decide ((m : Int) ≤ (a : Int)) = true := by simp; omega
  clear hs h
  go_enter Tryz.func31, Tryz.ntmps31
  go_wp2_with (fail)
  go_quiet (fail)
  go_wp2_with (fail)
  go_ret
  exact ⟨⟨0, hn, rfl⟩, (unhide HFD).low ⟨rfl, rfl, rfl, Nat.le_refl _, fun _ _ => rfl⟩, KeptX.of_below ⟨rfl, rfl, rfl, Nat.le_refl _, fun _ _ => rfl⟩⟩
def blkCells : Array Value := #[.string ⟨#[]⟩, .string ⟨#[32]⟩, .string ⟨#[10]⟩, .string ⟨#[9, 13]⟩]
theorem blk_at (k : Nat) (hk : k < 4) : blkCells[k]? = some (.string ⟨(Sp.blks.getD k []).toArray⟩) := by
 match k, hk with
 | 0, _ => rfl
 | 1, _ => rfl
 | 2, _ => rfl
 | 3, _ => rfl
theorem blk_bl (k : Nat) (hk : k < 4) : Sp.Bl (Sp.blks.getD k []) := by
 unfold Sp.Bl
 match k, hk with
 | 0, _ => decide
 | 1, _ => decide
 | 2, _ => decide
 | 3, _ => decide
set_option maxHeartbeats 2000000 in
theorem blank_any {w : World} {R : Nat} {pa : Option Addr} {m cap : Nat} (h : FD w R pa m cap) :
  Calls Tryz.prog 22 #[.pointer (some ⟨R, 0, none⟩)] w fun x w' => (∃ b : ByteArray, Sp.Bl b.data.toList ∧ b.size ≤ 2 ∧ x = .returned (.string b)) ∧ FK R pa m cap w w' := by
 have hb1 : Below w.heap.size w (w.alloc (.cells blkCells 9)) := (Below.refl _ _).alloc (Nat.le_refl _) _
 have hg : (w.alloc (.cells blkCells 9)).heap[w.heap.size]? = some (.cells blkCells 9 (0, 0)) := heap_new _ _ _ rfl
 have h1 := h.low hb1
 have hlt := h.lt
 have HB1 := hide hb1
 have H1 := hide h1
 have HG := hide hg
 clear h h1 hb1 hg
 go_enter Tryz.func22, Tryz.ntmps22
 go_wp2_with (fail)
 refine (next_any (unhide H1) 4 (by omega) (by omega)).mono ?_
 rintro x w2 ⟨⟨k, hk, rfl⟩, hfk⟩
 have hg2 : w2.heap[w.heap.size]? = some (.cells blkCells 9 (0, 0)) := (hfk.2.block _ (by simp) (by omega)).trans (unhide HG)
 obtain ⟨b, ck, hbl, hbs⟩ : ∃ b : ByteArray, w2.cell? ⟨w.heap.size, k, none⟩ = some (.string b) ∧ Sp.Bl b.data.toList ∧ b.size ≤ 2 := by
  refine ⟨⟨(Sp.blks.getD k []).toArray⟩, ?_, blk_bl k hk, ?_⟩
  ·simp only [World.cell?, hg2]
   rw [blk_at k hk]
   rfl
  ·match k, hk with
   | 0, _ => decide
   | 1, _ => decide
   | 2, _ => decide
   | 3, _ => decide
 have HFK := hide hfk
 clear hfk hg2
 go_wp2_with (fail)
 go_ret
 exact ⟨⟨b, hbl, hbs, rfl⟩, (unhide HFK).1, (KeptX.of_below (unhide HB1)).trans (unhide HFK).2⟩
end Go.Proofs.YtdpomdelmdofmaaGreatDoor

namespace Go.Proofs.YtdpomdelmdofmaaGreatDoor
open Go.RowKit
def strCells (l : List Sp.By) : List Value := l.map fun s => Value.string ⟨s.toArray⟩
def Tx (w : World) (g : Nat) (l : List Sp.By) : Prop := ∃ cs : Array Value, w.heap[g]? = some (.cells cs 9 (0, 0)) ∧ cs.toList = strCells l
theorem Tx.at {w : World} {g : Nat} {l : List Sp.By} (h : Tx w g l) (k : Nat) (hk : k < l.length) : ∃ b : ByteArray, w.cell? ⟨g, k, none⟩ = some (.string b) ∧ b.data.toList = l.getD k [] := by
 obtain ⟨cs, h1, h2⟩ := h
 refine ⟨⟨(l.getD k []).toArray⟩, ?_, rfl⟩
 simp only [World.cell?, h1]
 have : cs[k]? = some (.string ⟨(l.getD k []).toArray⟩) := by
  rw [← Array.getElem?_toList, h2, strCells, List.getElem?_map, List.getElem?_eq_getElem hk]
  simp [List.getD, hk]
 rw [this]
 rfl
theorem Tx.kept {w w' : World} {g R : Nat} {l : List Sp.By} (h : Tx w g l) (hk : KeptX R w w') (hg : g ≠ R) : Tx w' g l := by
 obtain ⟨cs, h1, h2⟩ := h
 exact ⟨cs, (hk.block g (Array.getElem?_eq_some_iff.1 h1).1 hg).trans h1, h2⟩
theorem Tx.new (w : World) (l : List Sp.By) {cs : Array Value} (h : cs.toList = strCells l) : Tx (w.alloc (.cells cs 9)) w.heap.size l := ⟨cs, heap_new _ _ _ rfl, h⟩
theorem Tx.drew {w : World} {g : Nat} {l : List Sp.By} (h : Tx w g l) : Tx w.drew g l := h
theorem FD.drew {w : World} {R : Nat} {pa : Option Addr} {m cap : Nat} (h : FD w R pa m cap) : FD w.drew R pa m cap := h.low ⟨rfl, rfl, rfl, Nat.le_refl _, fun _ _ => rfl⟩
def numAll : List Sp.By := Sp.num7 ++ Sp.num0
def numCells : Array Value := #[.string ⟨#[55]⟩, .string ⟨#[55, 46, 48]⟩, .string ⟨#[55, 48, 101, 45, 49]⟩, .string ⟨#[48, 46, 55, 69, 49]⟩, .string ⟨#[55, 101, 48]⟩, .string ⟨#[55, 46, 48, 48, 101, 43, 48]⟩, .string ⟨#[55, 48, 48, 69, 45, 50]⟩, .string ⟨#[48, 46, 48, 48, 55, 101, 51]⟩,
 .string ⟨#[45, 48]⟩, .string ⟨#[48]⟩, .string ⟨#[48, 46, 48]⟩, .string ⟨#[48, 101, 57, 57]⟩, .string ⟨#[45, 48, 46, 48, 69, 45, 53]⟩]
theorem eight (k : Nat) (hk : k < 5) : ∃ j : Nat, (8 : Int) + (k : Int) = (j : Int) ∧ j < 13 ∧ Hid (j = 8 + k) ∧ IntKind.i64.wrap (j : Int) = (j : Int) := ⟨8 + k, by omega, by omega, rfl, by rw [IntKind.wrap_i64]; omega⟩
theorem num0_at {j k : Nat} (hk : k < 5) (hj : j = 8 + k) : numAll.getD j [] ∈ Sp.num0 := by
 subst hj
 match k, hk with
 | 0, _ => decide
 | 1, _ => decide
 | 2, _ => decide
 | 3, _ => decide
 | 4, _ => decide
theorem num7_at {k : Nat} (hk : k < 8) : numAll.getD k [] ∈ Sp.num7 := by
 match k, hk with
 | 0, _ => decide
 | 1, _ => decide
 | 2, _ => decide
 | 3, _ => decide
 | 4, _ => decide
 | 5, _ => decide
 | 6, _ => decide
 | 7, _ => decide
theorem num_len {j : Nat} (hj : j < 13) : (numAll.getD j []).length ≤ 8 := by
 have h : ∀ j : Fin 13, (numAll.getD j.val []).length ≤ 8 := by decide
 exact h ⟨j, hj⟩
theorem tn0 {a b : ByteArray} {i j k l : Nat} (hk : k < 5) (hl : l < 5) (hi : i = 8 + k) (hj : j = 8 + l) (ea : a.data.toList = numAll.getD i []) (eb : b.data.toList = numAll.getD j []) : Sp.Two 0 a.data.toList b.data.toList ∧ a.size ≤ 50 ∧ b.size ≤ 50 := by
 have h1 : a.size ≤ 8 := by rw [Lib.size_eq, ea]; exact num_len (by omega)
 have h2 : b.size ≤ 8 := by rw [Lib.size_eq, eb]; exact num_len (by omega)
 exact ⟨⟨_, by rw [ea]; exact rdV_num0 (num0_at hk hi), by rw [eb]; exact rdV_num0 (num0_at hl hj)⟩, by omega, by omega⟩
theorem tn7 (ng : Bool) {a b s1 s2 : ByteArray} {k l : Nat} (hk : k < 8) (hl : l < 8) (e1 : s1.data.toList = numAll.getD k []) (e2 : s2.data.toList = numAll.getD l []) (ea : a.data.toList = Sp.sgn ng ++ s1.data.toList) (eb : b.data.toList = Sp.sgn ng ++ s2.data.toList) :
  Sp.Two 0 a.data.toList b.data.toList ∧ a.size ≤ 50 ∧ b.size ≤ 50 := by
 have h0 : (Sp.sgn ng).length ≤ 1 := by cases ng <;> simp [Sp.sgn]
 have h1 : a.size ≤ 9 := by rw [Lib.size_eq, ea, e1, List.length_append]; have := num_len (j := k) (by omega); omega
 have h2 : b.size ≤ 9 := by rw [Lib.size_eq, eb, e2, List.length_append]; have := num_len (j := l) (by omega); omega
 exact ⟨⟨_, by rw [ea, e1]; exact rdV_num7 ng (num7_at hk), by rw [eb, e2]; exact rdV_num7 ng (num7_at hl)⟩, by omega, by omega⟩
theorem tn7t {s1 s2 : ByteArray} {k l : Nat} (hk : k < 8) (hl : l < 8) (e1 : s1.data.toList = numAll.getD k []) (e2 : s2.data.toList = numAll.getD l []) :
  Sp.Two 0 (⟨#[45]⟩ ++ s1 : ByteArray).data.toList (⟨#[45]⟩ ++ s2 : ByteArray).data.toList ∧ (⟨#[45]⟩ ++ s1 : ByteArray).size ≤ 50 ∧ (⟨#[45]⟩ ++ s2 : ByteArray).size ≤ 50 :=
 tn7 true hk hl e1 e2 (by simp [Sp.sgn]) (by simp [Sp.sgn])
theorem tn7f {s1 s2 : ByteArray} {k l : Nat} (hk : k < 8) (hl : l < 8) (e1 : s1.data.toList = numAll.getD k []) (e2 : s2.data.toList = numAll.getD l []) :
  Sp.Two 0 (⟨#[]⟩ ++ s1 : ByteArray).data.toList (⟨#[]⟩ ++ s2 : ByteArray).data.toList ∧ (⟨#[]⟩ ++ s1 : ByteArray).size ≤ 50 ∧ (⟨#[]⟩ ++ s2 : ByteArray).size ≤ 50 :=
 tn7 false hk hl e1 e2 (by simp [Sp.sgn]) (by simp [Sp.sgn])
theorem not_big {s : ByteArray} {j : Nat} (hj : j < 13) (e : s.data.toList = numAll.getD j []) : ¬ 9223372036854775807 < 1 + s.size ∧ ¬ 9223372036854775807 < s.size := by
 have h1 : s.size ≤ 8 := by rw [Lib.size_eq, e]; exact num_len hj
 exact ⟨by omega, by omega⟩
theorem KeptX.undrew {X : Nat} {w w' : World} (h : KeptX X w.drew w') : KeptX X w w' := ⟨h.os, h.tape, h.output, h.size, h.block⟩
set_option maxHeartbeats 8000000 in
theorem knumber_any {w : World} {R : Nat} {pa : Option Addr} {m cap : Nat} (h : FD w R pa m cap) :
  Calls Tryz.prog 32 #[.pointer (some ⟨R, 0, none⟩)] w fun x w' => (∃ a b : ByteArray, Sp.Two 0 a.data.toList b.data.toList ∧ a.size ≤ 50 ∧ b.size ≤ 50 ∧ x = .returned (.tuple #[.string a, .string b])) ∧ FK R pa m cap w w' := by
 have hb1 : Below w.heap.size w (w.alloc (.cells numCells 9)) := (Below.refl _ _).alloc (Nat.le_refl _) _
 have hg : Tx (w.alloc (.cells numCells 9)) w.heap.size numAll := Tx.new _ _ (by rfl)
 have h1 := h.low hb1
 have hlt := h.lt
 have HK1 := hide (KeptX.of_below (X := R) hb1)
 have H1 := hide h1
 have HG := hide hg
 clear h h1 hb1 hg
 go_enter Tryz.func32, Tryz.ntmps32
 go_wp2_with (fail)
 refine (next_any (unhide H1) 3 (by omega) (by omega)).mono ?_
 rintro x w2 ⟨⟨k, hk, rfl⟩, hfk2⟩
 have hg2 := (unhide HG).kept hfk2.2 (by omega)
 have HK2 := hide ((unhide HK1).trans hfk2.2)
 have H2 := hide hfk2.1
 have HG2 := hide hg2
 clear hfk2 hg2 HG H1 HK1
 by_cases h0 : k = 0
 ·subst h0
  go_wp2_with (fail)
  go_region_with (first
   | (go_at_call 31; refine (next_any (unhide H3) 5 (by omega) (by omega)).mono ?_; rintro x w4 ⟨⟨k4, hk4, rfl⟩, hfk4⟩; obtain ⟨j4, q4, q4b, q4c, q4w⟩ := eight k4 hk4; obtain ⟨s4, c4, e4⟩ := ((unhide HG3).kept hfk4.2 (by omega)).at j4 q4b; obtain ⟨s5, c5, e5⟩ := ((unhide HG3).kept hfk4.2 (by omega)).at j3 q3b)
   | (go_at_call 31; refine (next_any (FD.drew (unhide H2)) 5 (by omega) (by omega)).mono ?_; rintro x w3 ⟨⟨k3, hk3, rfl⟩, hfk3⟩; have HG3 := hide ((Tx.drew (unhide HG2)).kept hfk3.2 (by omega)); have H3 := hide hfk3.1; obtain ⟨j3, q3, q3b, q3c, q3w⟩ := eight k3 hk3; obtain ⟨s3, c3, e3⟩ := (unhide HG3).at j3 q3b))
  all_goals (
   have HF := hide (show FK R pa m cap w w4 from ⟨hfk4.1, ((unhide HK2).trans hfk3.2.undrew).trans hfk4.2⟩)
   have HT3 := hide (tn0 hk3 hk4 q3c q4c e3 e4)
   have HT5 := hide (tn0 hk3 hk4 q3c q4c e5 e4)
   clear hfk3 hfk4 e3 e4 e5 q3 q4
   go_wp2_with (fail)
   go_ret2
   first
    | exact ⟨⟨s3, s4, (unhide HT3).1, (unhide HT3).2.1, (unhide HT3).2.2, rfl⟩, unhide HF⟩
    | exact ⟨⟨s5, s4, (unhide HT5).1, (unhide HT5).2.1, (unhide HT5).2.2, rfl⟩, unhide HF⟩)
 ·have hk0 : ((k : Int) == 0) = false := by simp; omega
  clear hk h0
  go_wp2_with (fail)
  refine (next_any (unhide H2) 2 (by omega) (by omega)).mono ?_
  rintro x w5 ⟨⟨k5, hk5, rfl⟩, hfk5⟩
  have hg5 := (unhide HG2).kept hfk5.2 (by omega)
  have HK5 := hide ((unhide HK2).trans hfk5.2)
  have H5 := hide hfk5.1
  have HG5 := hide hg5
  clear hfk5 hg5 HG2 H2 HK2 hk0
  by_cases h5 : k5 = 0
  ·subst h5
   go_wp2_with (fail)
   go_region_with (first
    | (go_at_call 31; refine (next_any (unhide H3) 8 (by omega) (by omega)).mono ?_; rintro x w4 ⟨⟨k4, hk4, rfl⟩, hfk4⟩; obtain ⟨s4, c4, e4⟩ := ((unhide HG3).kept hfk4.2 (by omega)).at k4 (by exact Nat.lt_of_lt_of_le hk4 (by decide)); obtain ⟨s5, c5, e5⟩ := ((unhide HG3).kept hfk4.2 (by omega)).at k3 (by exact Nat.lt_of_lt_of_le hk3 (by decide)); have hk13b : k4 < 13 := Nat.lt_of_lt_of_le hk4 (by decide); obtain ⟨b1, b2⟩ := not_big hk13b e4; obtain ⟨b3, b4⟩ := not_big hk13 e5)
    | (go_at_call 31; refine (next_any (FD.drew (unhide H5)) 8 (by omega) (by omega)).mono ?_; rintro x w3 ⟨⟨k3, hk3, rfl⟩, hfk3⟩; have HG3 := hide ((Tx.drew (unhide HG5)).kept hfk3.2 (by omega)); have H3 := hide hfk3.1; obtain ⟨s3, c3, e3⟩ := (unhide HG3).at k3 (by exact Nat.lt_of_lt_of_le hk3 (by decide)); have hk13 : k3 < 13 := Nat.lt_of_lt_of_le hk3 (by decide); obtain ⟨b5, b6⟩ := not_big hk13 e3))
   all_goals (
    have HF := hide (show FK R pa m cap w w4 from ⟨hfk4.1, ((unhide HK5).trans hfk3.2.undrew).trans hfk4.2⟩)
    have HT := hide (show Hid (k3 < 8) ∧ Hid (k4 < 8) ∧ Hid (s3.data.toList = numAll.getD k3 []) ∧ Hid (s4.data.toList = numAll.getD k4 []) ∧ Hid (s5.data.toList = numAll.getD k3 []) from ⟨hk3, hk4, e3, e4, e5⟩)
    clear hfk3 hfk4 e3 e4 e5
    go_wp2_with (fail)
    go_ret2
    obtain ⟨a1, a2, a3, a4, a5⟩ := unhide HT
    first
     | exact ⟨⟨_, _, (tn7t a1 a2 a3 a4).1, (tn7t a1 a2 a3 a4).2.1, (tn7t a1 a2 a3 a4).2.2, rfl⟩, unhide HF⟩
     | exact ⟨⟨_, _, (tn7t a1 a2 a5 a4).1, (tn7t a1 a2 a5 a4).2.1, (tn7t a1 a2 a5 a4).2.2, rfl⟩, unhide HF⟩)
  ·have hk5 : ((k5 : Int) == 0) = false := by simp; omega
   clear h5
   go_wp2_with (fail)
   go_region_with (first
    | (go_at_call 31; refine (next_any (unhide H3) 8 (by omega) (by omega)).mono ?_; rintro x w4 ⟨⟨k4, hk4, rfl⟩, hfk4⟩; obtain ⟨s4, c4, e4⟩ := ((unhide HG3).kept hfk4.2 (by omega)).at k4 (by exact Nat.lt_of_lt_of_le hk4 (by decide)); obtain ⟨s5, c5, e5⟩ := ((unhide HG3).kept hfk4.2 (by omega)).at k3 (by exact Nat.lt_of_lt_of_le hk3 (by decide)); have hk13b : k4 < 13 := Nat.lt_of_lt_of_le hk4 (by decide); obtain ⟨b1, b2⟩ := not_big hk13b e4; obtain ⟨b3, b4⟩ := not_big hk13 e5)
    | (go_at_call 31; refine (next_any (FD.drew (unhide H5)) 8 (by omega) (by omega)).mono ?_; rintro x w3 ⟨⟨k3, hk3, rfl⟩, hfk3⟩; have HG3 := hide ((Tx.drew (unhide HG5)).kept hfk3.2 (by omega)); have H3 := hide hfk3.1; obtain ⟨s3, c3, e3⟩ := (unhide HG3).at k3 (by exact Nat.lt_of_lt_of_le hk3 (by decide)); have hk13 : k3 < 13 := Nat.lt_of_lt_of_le hk3 (by decide); obtain ⟨b5, b6⟩ := not_big hk13 e3))
   all_goals (
    have HF := hide (show FK R pa m cap w w4 from ⟨hfk4.1, ((unhide HK5).trans hfk3.2.undrew).trans hfk4.2⟩)
    have HT := hide (show Hid (k3 < 8) ∧ Hid (k4 < 8) ∧ Hid (s3.data.toList = numAll.getD k3 []) ∧ Hid (s4.data.toList = numAll.getD k4 []) ∧ Hid (s5.data.toList = numAll.getD k3 []) from ⟨hk3, hk4, e3, e4, e5⟩)
    clear hfk3 hfk4 e3 e4 e5
    go_wp2_with (fail)
    go_ret2
    obtain ⟨a1, a2, a3, a4, a5⟩ := unhide HT
    first
     | exact ⟨⟨_, _, (tn7f a1 a2 a3 a4).1, (tn7f a1 a2 a3 a4).2.1, (tn7f a1 a2 a3 a4).2.2, rfl⟩, unhide HF⟩
     | exact ⟨⟨_, _, (tn7f a1 a2 a5 a4).1, (tn7f a1 a2 a5 a4).2.1, (tn7f a1 a2 a5 a4).2.2, rfl⟩, unhide HF⟩)
end Go.Proofs.YtdpomdelmdofmaaGreatDoor
