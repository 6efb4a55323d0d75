/-
  Walk of the reference's own great: a number of digits.
-/
import Derived.Test.YtdpomdelmdofmaaGreatDoorPart33
import Derived.Test.YtdpomdelmdofmaaGreatDoorPart20
namespace Go.Proofs.YtdpomdelmdofmaaGreatDoor
open Go.RowKit
def Sp.grt : Sp.By → Int → Int
 | [], n => n
 | c :: r, n => Sp.grt r (min (10 * n + ((c.toNat : Int) - 48)) 1000000000)
set_option maxRecDepth 100000 in
set_option maxHeartbeats 4000000 in
theorem rGreat_anyL (t : ByteArray) (hs : t.size ≤ 1048576) (hd : ∀ c ∈ t.data.toList, Sp.isD c = true) (w : World) :
  Calls Tryz.prog 132 #[.string t] w fun e w' => e = .returned (.int .i64 (Sp.grt t.data.toList 0)) ∧ w' = w := by
 have HD := hide hd
 clear hd
 go_enter Tryz.func132, Tryz.ntmps132
 go_wp2_with (fail)
 go_loopw [3, 4] (fun n i wr => ∃ (k : Nat) (m : Int), k ≤ t.size ∧ i = .int .i64 k ∧ n = .int .i64 m ∧ 0 ≤ m ∧ m ≤ 1000000000 ∧ Sp.grt t.data.toList 0 = Sp.grt (t.data.toList.drop k) m ∧ wr = w) (fun _ i _ => t.size - (intOf i).toNat)
 case atStart => exact ⟨0, 0, by omega, rfl, rfl, by omega, by omega, by simp, rfl⟩
 case round =>
  obtain ⟨k, m, hk, rfl, rfl, hm0, hm1, he, rfl⟩ := hrel
  have HE := hide he
  clear he
  by_cases hlt : k < t.size
  ·have hd := unhide HD (t[k]'hlt) (by
    have : t[k]'hlt = t.data.toList[k]'(by simpa using hlt) := rfl
    rw [this]; exact List.getElem_mem _)
   rw [isD_iff] at hd
   obtain ⟨d1, d2⟩ := hd
   have hst : Sp.grt (t.data.toList.drop k) m = Sp.grt (t.data.toList.drop (k + 1)) (min (10 * m + (((t[k]'hlt).toNat : Int) - 48)) 1000000000) := by
    rw [drop_cons t k hlt]; rfl
   have HST := hide hst
   have hw : wrap64 (((t[k]'hlt).toNat : Int) - 48) = ((t[k]'hlt).toNat : Int) - 48 := by unfold wrap64; omega
   have hw8 : (((t[k]'hlt).toNat : Int) - 48) % 256 = ((t[k]'hlt).toNat : Int) - 48 := by omega
   clear hst
   by_cases hg : 1000000000 < 10 * m + (((t[k]'hlt).toNat : Int) - 48)
   ·have hmin : min (10 * m + (((t[k]'hlt).toNat : Int) - 48)) 1000000000 = 1000000000 := by omega
    have HMIN := hide hmin
    clear hmin
    go_wp2_with (fail)
    exact ⟨⟨k + 1, 1000000000, by omega, by go_num, rfl, by omega, by omega, by rw [unhide HE, unhide HST, unhide HMIN], trivial⟩, by simp only [intOf]; omega⟩
   ·have hmin : min (10 * m + (((t[k]'hlt).toNat : Int) - 48)) 1000000000 = 10 * m + (((t[k]'hlt).toNat : Int) - 48) := by omega
    have HMIN := hide hmin
    clear hmin
    go_wp2_with (fail)
    exact ⟨⟨k + 1, _, by omega, by go_num, rfl, by omega, by omega, by rw [unhide HE, unhide HST, unhide HMIN], trivial⟩, by simp only [intOf]; omega⟩
  ·have hke : t.data.toList.drop k = [] := drop_nil t k hlt
   have HKE := hide hke
   clear hke
   go_wp2_with (fail)
   go_ret
   exact ⟨by rw [unhide HE, unhide HKE]; rfl, rfl⟩
theorem rGreat_any (t : ByteArray) (hs : t.size ≤ 2000) (hd : ∀ c ∈ t.data.toList, Sp.isD c = true) (w : World) :
  Calls Tryz.prog 132 #[.string t] w fun e w' => e = .returned (.int .i64 (Sp.grt t.data.toList 0)) ∧ w' = w := rGreat_anyL t (Nat.le_trans hs (by decide)) hd w
theorem grt_ex (l : Sp.By) (hd : ∀ c ∈ l, Sp.isD c = true) : ∀ (a b : Int), 0 ≤ a → 0 ≤ b → (a = b ∧ b < 1000000 ∨ 1000000 ≤ a ∧ b = 1000000) → (Sp.grt l a = Sp.exNum l b ∧ Sp.exNum l b < 1000000 ∨ 1000000 ≤ Sp.grt l a ∧ Sp.exNum l b = 1000000) := by
 induction l with
 | nil => intro a b _ _ h; exact h
 | cons c r ih =>
  intro a b ha hb h
  obtain ⟨d1, d2⟩ := (isD_iff c).1 (hd c (by simp))
  rw [Sp.grt, Sp.exNum]
  exact ih (fun c hc => hd c (by simp [hc])) _ _ (by omega) (by omega) (by omega)
end Go.Proofs.YtdpomdelmdofmaaGreatDoor

namespace Go.Proofs.YtdpomdelmdofmaaGreatDoor
open Go.RowKit
def RB (w : World) (R : Nat) (t : ByteArray) (mo : Int) (tw far : Bool) : Prop := w.heap[R]? = some (.cells #[.string t, .int .i64 mo, .bool tw, .bool far] 139 (0, 0))
theorem RB.rs {w : World} {R : Nat} {t : ByteArray} {mo : Int} {tw far : Bool} (h : RB w R t mo tw far) : RS w R t := by
 show w.cell? ⟨R, 0, none⟩ = _
 simp [World.cell?, show w.heap[R]? = _ from h]
def VN (w : World) (V : Nat) (ng : Bool) (ds : ByteArray) (ex : Int) : Prop :=
 w.heap[V]? = some (.cells #[.string ⟨#[110, 117, 109, 98, 101, 114]⟩, .bool ng, .string ds, .int .i64 ex, .string ⟨#[]⟩, .slice none 0 0, .slice none 0 0] 91 (0, 0))
theorem VN.c1 {w : World} {V : Nat} {ng : Bool} {ds : ByteArray} {ex : Int} (h : VN w V ng ds ex) : w.cell? ⟨V, 1, none⟩ = some (.bool ng) := by simp [World.cell?, show w.heap[V]? = _ from h]
theorem VN.c2 {w : World} {V : Nat} {ng : Bool} {ds : ByteArray} {ex : Int} (h : VN w V ng ds ex) : w.cell? ⟨V, 2, none⟩ = some (.string ds) := by simp [World.cell?, show w.heap[V]? = _ from h]
theorem VN.c3 {w : World} {V : Nat} {ng : Bool} {ds : ByteArray} {ex : Int} (h : VN w V ng ds ex) : w.cell? ⟨V, 3, none⟩ = some (.int .i64 ex) := by simp [World.cell?, show w.heap[V]? = _ from h]
theorem VN.fz {w : World} {V : Nat} {ng : Bool} {ds : ByteArray} {ex : Int} (h : VN w V ng ds ex) (o : Nat) : w.frozen? ⟨V, o, none⟩ = false := by simp [World.frozen?, show w.heap[V]? = _ from h]
theorem VN.set1 {w : World} {V : Nat} {ng : Bool} {ds : ByteArray} {ex : Int} (h : VN w V ng ds ex) (b : Bool) : VN (w.setCell ⟨V, 1, none⟩ (.bool b)) V b ds ex := by
 unfold VN at h ⊢; rw [row_set h]; rfl
theorem VN.set2 {w : World} {V : Nat} {ng : Bool} {ds : ByteArray} {ex : Int} (h : VN w V ng ds ex) (s : ByteArray) : VN (w.setCell ⟨V, 2, none⟩ (.string s)) V ng s ex := by
 unfold VN at h ⊢; rw [row_set h]; rfl
theorem VN.set3 {w : World} {V : Nat} {ng : Bool} {ds : ByteArray} {ex : Int} (h : VN w V ng ds ex) (x : Int) : VN (w.setCell ⟨V, 3, none⟩ (.int .i64 x)) V ng ds x := by
 unfold VN at h ⊢; rw [row_set h]; rfl
theorem RB.c1 {w : World} {R : Nat} {t : ByteArray} {mo : Int} {tw far : Bool} (h : RB w R t mo tw far) : w.cell? ⟨R, 1, none⟩ = some (.int .i64 mo) := by simp [World.cell?, show w.heap[R]? = _ from h]
theorem RB.c3 {w : World} {R : Nat} {t : ByteArray} {mo : Int} {tw far : Bool} (h : RB w R t mo tw far) : w.cell? ⟨R, 3, none⟩ = some (.bool far) := by simp [World.cell?, show w.heap[R]? = _ from h]
theorem RB.fz {w : World} {R : Nat} {t : ByteArray} {mo : Int} {tw far : Bool} (h : RB w R t mo tw far) (o : Nat) : w.frozen? ⟨R, o, none⟩ = false := by simp [World.frozen?, show w.heap[R]? = _ from h]
theorem RB.set3 {w : World} {R : Nat} {t : ByteArray} {mo : Int} {tw far : Bool} (h : RB w R t mo tw far) (b : Bool) : RB (w.setCell ⟨R, 3, none⟩ (.bool b)) R t mo tw b := by
 unfold RB at h ⊢; rw [row_set h]; rfl
theorem RB.lt {w : World} {R : Nat} {t : ByteArray} {mo : Int} {tw far : Bool} (h : RB w R t mo tw far) : R < w.heap.size := (Array.getElem?_eq_some_iff.1 h).1
theorem RB.kept {w w' : World} {V R : Nat} {t : ByteArray} {mo : Int} {tw far : Bool} (h : RB w R t mo tw far) (k : KeptX V w w') (hn : R ≠ V) : RB w' R t mo tw far := by
 unfold RB; rw [k.block R h.lt hn]; exact h
theorem VN.lt {w : World} {V : Nat} {ng : Bool} {ds : ByteArray} {ex : Int} (h : VN w V ng ds ex) : V < w.heap.size := (Array.getElem?_eq_some_iff.1 h).1
theorem trimR_zero {l : Sp.By} (h : l.getLast? = some 48) : Lib.trimRightB l 48 = Lib.trimRightB l.dropLast 48 := by
 obtain ⟨x, rfl⟩ : ∃ x, l = x ++ [48] := by
  cases hl : l.reverse with
  | nil => rw [List.reverse_eq_nil_iff] at hl; rw [hl] at h; cases h
  | cons a r =>
   have : l = r.reverse ++ [a] := by rw [← List.reverse_reverse l, hl]; simp
   rw [this] at h
   simp at h
   exact ⟨r.reverse, by rw [this, h]⟩
 unfold Lib.trimRightB
 simp
theorem trimR_id {l : Sp.By} (h : l.getLast? ≠ some 48) : Lib.trimRightB l 48 = l := by
 unfold Lib.trimRightB
 cases hl : l.reverse with
 | nil => rw [List.reverse_eq_nil_iff] at hl; rw [hl]; rfl
 | cons a r =>
  have : l = r.reverse ++ [a] := by rw [← List.reverse_reverse l, hl]; simp
  rw [this] at h
  simp at h
  rw [List.dropWhile_cons, if_neg (by simpa using h), this]
  simp
theorem ext_init (X : ByteArray) : (X.extract 0 (X.size - 1)).data.toList = X.data.toList.dropLast := by
 rw [List.dropLast_eq_take]
 have := Lib.size_eq X
 simp
 rw [List.dropLast_eq_take, this]
theorem ext_tail (X : ByteArray) : (X.extract 1 X.size).data.toList = X.data.toList.tail := by
 rw [← List.drop_one]
 have := Lib.size_eq X
 simp
 exact List.take_of_length_le (by rw [List.length_tail, this]; exact Nat.le_refl _)
theorem last_at {X : ByteArray} {k : Nat} (hk : X.size = k + 1) : X.data.toList.getLast? = some (X[k]'(by omega)) := by
 have := Lib.size_eq X
 have h1 : X.data.toList.length = k + 1 := by omega
 rw [List.getLast?_eq_getElem?, h1, Nat.add_sub_cancel, List.getElem?_eq_getElem (by omega)]
 rfl
theorem head_at {X : ByteArray} {k : Nat} (hk : X.size = k + 1) : X.data.toList.head? = some (X[0]'(by omega)) := by
 have := drop_cons X 0 (by omega)
 rw [List.drop_zero] at this
 rw [this]; rfl
theorem u8_48 {u : UInt8} (h : u.toNat = 48) : u = 48 := UInt8.toNat_inj.1 h
theorem emp_t {X : ByteArray} (h : X.size = 0) : X.toList.isEmpty = true := by
 rw [ByteArray.toList_eq, List.isEmpty_iff]; exact List.eq_nil_of_length_eq_zero (by rw [← Lib.size_eq]; exact h)
theorem emp_f {X : ByteArray} {k : Nat} (h : X.size = k + 1) : X.toList.isEmpty = false := by
 rw [ByteArray.toList_eq]
 have := Lib.size_eq X
 cases hl : X.data.toList with
 | nil => rw [hl, h] at this; cases this
 | cons a r => rfl
theorem trimL_zero {l : Sp.By} (h : l.head? = some 48) : Lib.trimLeftB l 48 = Lib.trimLeftB l.tail 48 := by
 cases l with
 | nil => cases h
 | cons a r =>
  simp at h
  subst h
  rfl
theorem trimL_id {l : Sp.By} (h : l.head? ≠ some 48) : Lib.trimLeftB l 48 = l := by
 cases l with
 | nil => rfl
 | cons a r =>
  simp at h
  unfold Lib.trimLeftB
  rw [List.dropWhile_cons, if_neg (by simpa using h)]
end Go.Proofs.YtdpomdelmdofmaaGreatDoor

namespace Go.Proofs.YtdpomdelmdofmaaGreatDoor
open Go.RowKit Go.Maps
abbrev Sp.O := DataW Unit
def Sp.oWord (k : Nat) : Sp.O := .lit (.int .i64 k)
def Sp.oNum (n : Sp.Nm) (x : Int) : Sp.O := .agg [.lit (.bool n.1), .lit (.string n.2.1), .lit (.int .i64 n.2.2), .lit (.int .i64 x)]
def Sp.oStr (s : Sp.By) : Sp.O := .lit (.string s)
def Sp.oArr (es : List Sp.O) : Sp.O := .slice es []
abbrev Sp.Ms := List (Sp.By × Sp.O)
def Sp.lits (es : Sp.Ms) : List (Lit × Sp.O) := es.map fun p => (.string p.1, p.2)
def Sp.oObj (es : Sp.Ms) : Sp.O := .map (Sp.lits es)
def Sp.rexp (l : Sp.By) : Int :=
 if Sp.tk l 101 || Sp.tk l 69 then
  (if Sp.tk l.tail 45 then - Sp.grt (Sp.dg l.tail.tail) 0
   else if Sp.tk l.tail 43 then Sp.grt (Sp.dg l.tail.tail) 0
   else Sp.grt (Sp.dg l.tail) 0)
 else 0
def Sp.rmk (ds : Sp.By) (e : Int) : Int :=
 let w := Lib.trimRightB ds 48
 if Lib.trimLeftB w 48 = [] then 0 else e + ds.length - w.length
def Sp.rexB (l : Sp.By) : Int := match Sp.frac (Sp.dgR l) with
 | none => 0
 | some (f, r) => Sp.rmk (Sp.dg l ++ f) (Sp.rexp r - f.length)
def Sp.rex (l : Sp.By) : Int := if Sp.tk l 45 then Sp.rexB l.tail else Sp.rexB l
def Sp.relem (rd : Sp.By → Option (Sp.O × Sp.By)) (l : Sp.By) (s : List Sp.O) : Option (Sp.By × List Sp.O) := match rd l with
 | none => none
 | some (o, r) => some (r, s ++ [o])
def Sp.rmemb (rd : Sp.By → Option (Sp.O × Sp.By)) (l : Sp.By) (s : Sp.Ms) : Option (Sp.By × Sp.Ms) := match Sp.quo l with
 | none => none
 | some (k, l1) => if Sp.tk (Sp.skB l1) 58 then (match rd (Sp.skB (Sp.skB l1).tail) with
  | none => none
  | some (o, r) => some (r, s ++ [(k, o)])) else none
def Sp.rval : Nat → Sp.By → Option (Sp.O × Sp.By)
 | 0, _ => none
 | f + 1, l =>
  if Sp.pk l = 123 then (match Sp.lstAll 123 125 (Sp.rmemb (Sp.rval f)) l [] with
   | none => none
   | some (r, es) => some (Sp.oObj es, r))
  else if Sp.pk l = 91 then (match Sp.lstAll 91 93 (Sp.relem (Sp.rval f)) l [] with
   | none => none
   | some (r, es) => some (Sp.oArr es, r))
  else if Sp.pk l = 34 then (match Sp.quo l with
   | none => none
   | some (s, r) => some (Sp.oStr s, r))
  else if Sp.pk l = 45 ∨ (48 ≤ Sp.pk l ∧ Sp.pk l ≤ 57) then (match Sp.num l with
   | none => none
   | some (n, r) => some (Sp.oNum n (Sp.rex l), r))
  else match Sp.wordIn l 0 Sp.words with
   | none => none
   | some (k, r) => some (Sp.oWord k, r)
def Sp.puts (d : Sp.V) (es : List (Lit × Sp.V)) : Sp.V := es.foldl (fun m p => DataW.put m p.1 p.2) d
def Sp.maxs (a : Int) (l : List Int) : Int := l.foldl max a
def Sp.dup (seen : List Lit) : List Lit → Bool
 | [] => false
 | k :: r => seen.any (fun p => p.sameKey k) || Sp.dup (seen ++ [k]) r
def Sp.nrm : Nat → Sp.O → Sp.V
 | 0, d => d
 | f + 1, d => match d with
  | .agg [.lit (.bool ng), .lit (.string ds), .lit (.int _ e), .lit (.int _ _)] => Sp.vNum (ng, ds, e)
  | .slice es _ => Sp.vArr (es.map (Sp.nrm f))
  | .map es => Sp.puts (Sp.vObj []) (es.map fun p => (p.1, Sp.nrm f p.2))
  | d => d
def Sp.twO : Nat → Sp.O → Bool
 | 0, _ => false
 | f + 1, d => match d with
  | .slice es _ => es.any (Sp.twO f)
  | .map es => es.any (fun p => Sp.twO f p.2) || Sp.dup [] (es.map (·.1))
  | _ => false
def Sp.dpO : Nat → Sp.O → Int
 | 0, _ => 1
 | f + 1, d => match d with
  | .slice es _ => Sp.maxs 0 (es.map (Sp.dpO f)) + 1
  | .map es => Sp.maxs 0 (es.map fun p => Sp.dpO f p.2) + 1
  | _ => 1
def Sp.exO : Nat → Sp.O → Int
 | 0, _ => 0
 | f + 1, d => match d with
  | .agg [.lit (.bool _), .lit (.string _), .lit (.int _ e), .lit (.int _ _)] => max e (-e)
  | .slice es _ => Sp.maxs 0 (es.map (Sp.exO f))
  | .map es => Sp.maxs 0 (es.map fun p => Sp.exO f p.2)
  | _ => 0
theorem maxs_snoc (a : Int) (l : List Int) (x : Int) : Sp.maxs a (l ++ [x]) = max (Sp.maxs a l) x := by simp [Sp.maxs]
theorem puts_snoc (d : Sp.V) (es : List (Lit × Sp.V)) (p : Lit × Sp.V) : Sp.puts d (es ++ [p]) = DataW.put (Sp.puts d es) p.1 p.2 := by simp [Sp.puts]
theorem dup_snoc (l : List Lit) (k : Lit) : ∀ seen, Sp.dup seen (l ++ [k]) = (Sp.dup seen l || (seen ++ l).any (fun p => p.sameKey k)) := by
 induction l with
 | nil => intro seen; simp [Sp.dup]
 | cons a r ih => intro seen; simp [Sp.dup, ih, Bool.or_assoc]
theorem puts_map (es : List (Lit × Sp.V)) : ∀ d, IsMap d → IsMap (Sp.puts d es) := by
 induction es with
 | nil => intro d h; exact h
 | cons p r ih => intro d h; exact ih _ (h.put _ _)
theorem has_puts (k : Lit) (es : List (Lit × Sp.V)) (hk : ∀ p ∈ es, ∃ s, p.1 = .string s) : ∀ d, IsMap d → has (Sp.puts d es) k = (has d k || es.any (fun p => p.1.sameKey k)) := by
 induction es with
 | nil => intro d h; simp [Sp.puts]
 | cons p r ih =>
  intro d h
  show has (Sp.puts (DataW.put d p.1 p.2) r) k = _
  rw [ih (fun q hq => hk q (by simp [hq])) _ (h.put _ _)]
  obtain ⟨s, hs⟩ := hk p (by simp)
  have hkey : WideAt.IsKeyLit p.1 := by rw [hs]; trivial
  by_cases he : k = p.1
  ·subst he
   rw [has_put_same h hkey, List.any_cons, WideAt.sameKey_self hkey]; simp
  ·rw [has_put_other he, List.any_cons, sameKey_ne (fun e => he e.symm)]; simp
theorem lst_sim {σ τ : Type} (cl : UInt8) (it : Sp.By → σ → Option (Sp.By × σ)) (jt : Sp.By → τ → Option (Sp.By × τ)) (g : τ → σ) (h : ∀ l s, it l (g s) = (jt l s).map fun x => (x.1, g x.2)) (n : Nat) :
  ∀ l s, Sp.lst cl it n l (g s) = (Sp.lst cl jt n l s).map fun x => (x.1, g x.2) := by
 induction n with
 | zero => intro l s; rfl
 | succ n ih =>
  intro l s
  unfold Sp.lst
  rw [h]
  cases jt (Sp.skB l) s with
  | none => rfl
  | some x =>
   simp only [Option.map_some]
   split
   ·rfl
   ·split
    ·exact ih _ _
    ·rfl
theorem lstAll_sim {σ τ : Type} (op cl : UInt8) (it : Sp.By → σ → Option (Sp.By × σ)) (jt : Sp.By → τ → Option (Sp.By × τ)) (g : τ → σ) (h : ∀ l s, it l (g s) = (jt l s).map fun x => (x.1, g x.2)) (l : Sp.By) (s : τ) :
  Sp.lstAll op cl it l (g s) = (Sp.lstAll op cl jt l s).map fun x => (x.1, g x.2) := by
 unfold Sp.lstAll
 split
 ·split
  ·rfl
  ·exact lst_sim cl it jt g h _ _ _
 ·rfl
def Sp.flA (f : Nat) (lv : Int) (fl : Sp.Fl) (s : List Sp.O) : Sp.Fl := (fl.1 || s.any (Sp.twO f), (max (max fl.2.1 lv) (lv + Sp.maxs 0 (s.map (Sp.dpO f))), max fl.2.2 (Sp.maxs 0 (s.map (Sp.exO f)))))
def Sp.flM (f : Nat) (lv : Int) (fl : Sp.Fl) (s : List (Lit × Sp.O)) : Sp.Fl := (fl.1 || (s.any (fun p => Sp.twO f p.2) || Sp.dup [] (s.map (·.1))), (max (max fl.2.1 lv) (lv + Sp.maxs 0 (s.map fun p => Sp.dpO f p.2)), max fl.2.2 (Sp.maxs 0 (s.map fun p => Sp.exO f p.2))))
def Sp.flO (f : Nat) (lv : Int) (fl : Sp.Fl) (o : Sp.O) : Sp.Fl := (fl.1 || Sp.twO f o, (max fl.2.1 (lv - 1 + Sp.dpO f o), max fl.2.2 (Sp.exO f o)))
theorem maxs_le (l : List Int) : ∀ a, a ≤ Sp.maxs a l := by
 induction l with
 | nil => intro a; exact Int.le_refl _
 | cons x r ih => intro a; exact Int.le_trans (Int.le_max_left a x) (ih _)
theorem flA_snoc (f : Nat) (lv : Int) (fl : Sp.Fl) (s : List Sp.O) (o : Sp.O) : Sp.flA f lv fl (s ++ [o]) = Sp.flO f (lv + 1) (Sp.flA f lv fl s) o := by
 unfold Sp.flA Sp.flO
 simp only [List.any_append, List.any_cons, List.any_nil, Bool.or_false, List.map_append, List.map_cons, List.map_nil, maxs_snoc]
 refine Prod.ext ?_ (Prod.ext ?_ ?_)
 ·simp [Bool.or_assoc]
 ·simp only; omega
 ·simp only; omega
theorem flM_snoc (f : Nat) (lv : Int) (fl : Sp.Fl) (s : List (Lit × Sp.O)) (k : Lit) (o : Sp.O) :
  Sp.flM f lv fl (s ++ [(k, o)]) = ((Sp.flO f (lv + 1) (Sp.flM f lv fl s) o).1 || s.any (fun p => p.1.sameKey k), (Sp.flO f (lv + 1) (Sp.flM f lv fl s) o).2) := by
 unfold Sp.flM Sp.flO
 simp only [List.any_append, List.any_cons, List.any_nil, Bool.or_false, List.map_append, List.map_cons, List.map_nil, maxs_snoc, dup_snoc, List.nil_append, List.any_map]
 refine Prod.ext ?_ (Prod.ext ?_ ?_)
 ·simp only [Function.comp_def]
  cases fl.1 <;> cases s.any (fun p => Sp.twO f p.2) <;> cases Sp.twO f o <;> cases Sp.dup [] (s.map (·.1)) <;> simp
 ·simp only; omega
 ·simp only; omega
theorem val_rval (f : Nat) : ∀ (lv : Int) (l : Sp.By) (fl : Sp.Fl), 0 ≤ fl.2.2 → Sp.val f lv l fl = (Sp.rval f l).map fun x => (Sp.nrm f x.1, x.2, Sp.flO f lv fl x.1) := by
 induction f with
 | zero => intro lv l fl h; rfl
 | succ f ih =>
  intro lv l fl h
  unfold Sp.val Sp.rval
  by_cases h1 : Sp.pk l = 123
  ·rw [if_pos h1, if_pos h1]
   have hs := lstAll_sim 123 125 (Sp.memb (Sp.val f (lv + 1))) (Sp.rmemb (Sp.rval f)) (fun s => (Sp.puts (Sp.vObj []) ((Sp.lits s).map fun p => (p.1, Sp.nrm f p.2)), Sp.flM f lv fl (Sp.lits s))) (by
    intro l s
    unfold Sp.memb Sp.rmemb
    cases Sp.quo l with
    | none => rfl
    | some x =>
     obtain ⟨k, l1⟩ := x
     simp only
     by_cases h58 : Sp.tk (Sp.skB l1) 58 = true
     ·rw [if_pos h58, if_pos h58, ih _ _ _ (by unfold Sp.flM; simp only; omega)]
      cases Sp.rval f (Sp.skB (Sp.skB l1).tail) with
      | none => rfl
      | some y =>
       obtain ⟨o, r⟩ := y
       have hh : has (Sp.puts (Sp.vObj []) ((Sp.lits s).map fun p => (p.1, Sp.nrm f p.2))) (.string k) = (Sp.lits s).any (fun p => p.1.sameKey (.string k)) := by
        rw [has_puts (.string k) ((Sp.lits s).map fun p => (p.1, Sp.nrm f p.2)) (fun p hp => by obtain ⟨q, hq, rfl⟩ := List.mem_map.1 hp; obtain ⟨m, hm, rfl⟩ := List.mem_map.1 hq; exact ⟨_, rfl⟩) (Sp.vObj []) ⟨[], rfl⟩, List.any_map]
        rfl
       have hl : Sp.lits (s ++ [(k, o)]) = Sp.lits s ++ [(.string k, o)] := by simp [Sp.lits]
       simp only [Option.map_some, hh, hl, flM_snoc, List.map_append, List.map_cons, List.map_nil, puts_snoc]
     ·rw [if_neg h58, if_neg h58]; rfl) l []
   have e0 : Sp.flM f lv fl (Sp.lits []) = (fl.1, (max fl.2.1 lv, fl.2.2)) := by
    unfold Sp.flM
    refine Prod.ext ?_ (Prod.ext ?_ ?_)
    ·simp [Sp.lits, Sp.dup]
    ·simp [Sp.lits, Sp.maxs]
    ·simp [Sp.lits, Sp.maxs]; omega
   rw [e0] at hs
   rw [show (Sp.vObj [], (fl.1, (max fl.2.1 lv, fl.2.2))) = (Sp.puts (Sp.vObj []) ((Sp.lits []).map fun p => (p.1, Sp.nrm f p.2)), (fl.1, (max fl.2.1 lv, fl.2.2))) from rfl, hs]
   cases Sp.lstAll 123 125 (Sp.rmemb (Sp.rval f)) l [] with
   | none => rfl
   | some x =>
    obtain ⟨r, es⟩ := x
    simp only [Option.map_some]
    refine congrArg some (Prod.ext rfl (Prod.ext rfl ?_))
    unfold Sp.flO Sp.flM
    refine Prod.ext ?_ (Prod.ext ?_ ?_)
    ·rfl
    ·show max (max fl.2.1 lv) (lv + Sp.maxs 0 ((Sp.lits es).map fun p => Sp.dpO f p.2)) = max fl.2.1 (lv - 1 + (Sp.maxs 0 ((Sp.lits es).map fun p => Sp.dpO f p.2) + 1))
     have := maxs_le ((Sp.lits es).map fun p => Sp.dpO f p.2) 0
     omega
    ·rfl
  ·rw [if_neg h1, if_neg h1]
   by_cases h2 : Sp.pk l = 91
   ·rw [if_pos h2, if_pos h2]
    have hs := lstAll_sim 91 93 (Sp.elem (Sp.val f (lv + 1))) (Sp.relem (Sp.rval f)) (fun s => (s.map (Sp.nrm f), Sp.flA f lv fl s)) (by
     intro l s
     unfold Sp.elem Sp.relem
     simp only
     rw [ih _ _ _ (by unfold Sp.flA; simp only; omega)]
     cases Sp.rval f l with
     | none => rfl
     | some x => simp [flA_snoc]) l []
    have e0 : Sp.flA f lv fl [] = (fl.1, (max fl.2.1 lv, fl.2.2)) := by
     unfold Sp.flA
     refine Prod.ext ?_ (Prod.ext ?_ ?_)
     ·simp
     ·simp [Sp.maxs]
     ·simp [Sp.maxs]; omega
    rw [e0] at hs
    simp only [List.map_nil] at hs
    rw [hs]
    cases Sp.lstAll 91 93 (Sp.relem (Sp.rval f)) l [] with
    | none => rfl
    | some x =>
     obtain ⟨r, es⟩ := x
     simp only [Option.map_some]
     refine congrArg some (Prod.ext rfl (Prod.ext rfl ?_))
     unfold Sp.flO Sp.flA
     refine Prod.ext ?_ (Prod.ext ?_ ?_)
     ·rfl
     ·show max (max fl.2.1 lv) (lv + Sp.maxs 0 (es.map (Sp.dpO f))) = max fl.2.1 (lv - 1 + (Sp.maxs 0 (es.map (Sp.dpO f)) + 1))
      have := maxs_le (es.map (Sp.dpO f)) 0
      omega
     ·rfl
   ·rw [if_neg h2, if_neg h2]
    by_cases h3 : Sp.pk l = 34
    ·rw [if_pos h3, if_pos h3]
     cases Sp.quo l with
     | none => rfl
     | some x =>
      simp only [Option.map_some]
      refine congrArg some (Prod.ext rfl (Prod.ext rfl (Prod.ext ?_ (Prod.ext ?_ ?_))))
      ·simp [Sp.flO, Sp.oStr, Sp.twO]
      ·simp [Sp.flO, Sp.oStr, Sp.dpO]
      ·simp [Sp.flO, Sp.oStr, Sp.exO]; omega
    ·rw [if_neg h3, if_neg h3]
     by_cases h4 : Sp.pk l = 45 ∨ (48 ≤ Sp.pk l ∧ Sp.pk l ≤ 57)
     ·rw [if_pos h4, if_pos h4]
      cases Sp.num l with
      | none => rfl
      | some x =>
       simp only [Option.map_some]
       refine congrArg some (Prod.ext rfl (Prod.ext rfl (Prod.ext ?_ (Prod.ext ?_ ?_))))
       ·simp [Sp.flO, Sp.oNum, Sp.twO]
       ·simp [Sp.flO, Sp.oNum, Sp.dpO]
       ·simp [Sp.flO, Sp.oNum, Sp.exO]
     ·rw [if_neg h4, if_neg h4]
      cases Sp.wordIn l 0 Sp.words with
      | none => rfl
      | some x =>
       simp only [Option.map_some]
       refine congrArg some (Prod.ext rfl (Prod.ext rfl (Prod.ext ?_ (Prod.ext ?_ ?_))))
       ·simp [Sp.flO, Sp.oWord, Sp.twO]
       ·simp [Sp.flO, Sp.oWord, Sp.dpO]
       ·simp [Sp.flO, Sp.oWord, Sp.exO]; omega
end Go.Proofs.YtdpomdelmdofmaaGreatDoor
