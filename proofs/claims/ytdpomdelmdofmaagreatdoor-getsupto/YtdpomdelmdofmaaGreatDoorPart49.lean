/-
  Plain facts: the reference's tokens, its test of UTF-8, its indexes are the program's; what a pointer leads to, in the reference's value and in the program's.
-/
import Derived.Test.YtdpomdelmdofmaaGreatDoorPart42
import Derived.Test.YtdpomdelmdofmaaGreatDoorPart24
import Derived.Test.YtdpomdelmdofmaaGreatDoorPart47
import Derived.Lib.ValidLaws
namespace Go.Proofs.YtdpomdelmdofmaaGreatDoor
open Go.RowKit Go.Maps
theorem dec_L (l : Sp.By) (h : l ≠ []) : Sp.dec l = Lib.decodeL l := by rw [dec_list l h, Lib.decodeL_N]
theorem u8_valid : ∀ (n : Nat) (l : Sp.By), l.length ≤ n → Sp.u8 l = Lib.validD l
 | _, [], _ => by rw [u8_nil, Lib.validD_nil]
 | 0, _ :: _, h => by simp at h
 | n + 1, a :: r, h => by
  have hne : a :: r ≠ [] := by simp
  have hD := sca_eq a r
  rw [dec_L _ hne] at hD
  have hw := Lib.decodeL_width (a :: r)
  rw [Lib.validD_step _ hne]
  rcases hD with ⟨⟨h1, h2⟩, h3⟩ | ⟨h1, h3⟩
  ·rw [if_pos ⟨h1, by omega⟩, u8_no hne (by rw [h3])]
  ·rw [if_neg (fun ⟨e1, e2⟩ => h1 ⟨e1, by omega⟩), u8_go hne (by rw [h3]; omega), h3]
   exact u8_valid n _ (by rw [List.length_drop]; simp only [List.length_cons] at h ⊢; omega)
namespace Sp
def tkz : By → By → Option (List By)
 | t, [] => some [t]
 | t, c :: r => if c = 47 then (tkz [] r).map (t :: ·) else if c = 126 then (match r with
  | 48 :: q => tkz (t ++ [126]) q
  | 49 :: q => tkz (t ++ [47]) q
  | _ => none) else tkz (t ++ [c]) r
theorem tkz_eq (t : By) (c : UInt8) (r : By) : tkz t (c :: r) = if c = 47 then (tkz [] r).map (t :: ·) else if c = 126 then (match r with
  | 48 :: q => tkz (t ++ [126]) q
  | 49 :: q => tkz (t ++ [47]) q
  | _ => none) else tkz (t ++ [c]) r := by
 match r with
 | [] => rfl
 | b :: q =>
  by_cases h0 : b = 48
  ·subst h0; rfl
  ·by_cases h1 : b = 49
   ·subst h1; rfl
   ·conv => lhs; unfold tkz
    rfl
def tkp (t : By) : List By → Option (List By)
 | [] => none
 | p :: ps => match une p with
  | none => none
  | some k => (keysOf ps).map ((t ++ k) :: ·)
end Sp
theorem tkp_cons (t p : Sp.By) (ps : List Sp.By) : Sp.tkp t (p :: ps) = match Sp.une p with
  | none => none
  | some k => (Sp.keysOf ps).map ((t ++ k) :: ·) := rfl
theorem keysOf_cons (p : Sp.By) (ps : List Sp.By) : Sp.keysOf (p :: ps) = match Sp.une p with
  | none => none
  | some k => (Sp.keysOf ps).map (k :: ·) := rfl
theorem tkp_keys : ∀ ps : List Sp.By, ps ≠ [] → Sp.tkp [] ps = Sp.keysOf ps
 | [], h => absurd rfl h
 | p :: ps, _ => by
  rw [tkp_cons, keysOf_cons]
  cases Sp.une p <;> rfl
theorem pcs_47 (r : Sp.By) : Sp.pcs (47 :: r) = [] :: Sp.pcs r := by
 conv => lhs; unfold Sp.pcs
 rw [if_pos rfl]
theorem pcs_no {c : UInt8} (h : c ≠ 47) (r : Sp.By) : ∃ p ps, Sp.pcs r = p :: ps ∧ Sp.pcs (c :: r) = (c :: p) :: ps := by
 cases hp : Sp.pcs r with
 | nil => exact absurd hp (pcs_ne r)
 | cons p ps =>
  refine ⟨p, ps, rfl, ?_⟩
  conv => lhs; unfold Sp.pcs
  rw [if_neg h, hp]
theorem une_skip {c : UInt8} (h : c ≠ 126) (r : Sp.By) : Sp.une (c :: r) = (Sp.une r).map (c :: ·) := by rw [Sp.une_eq, if_neg h]
theorem tkz_pcs : ∀ (n : Nat) (l t : Sp.By), l.length ≤ n → Sp.tkz t l = Sp.tkp t (Sp.pcs l)
 | _, [], t, _ => by simp [Sp.tkz, Sp.pcs, Sp.tkp, Sp.une, Sp.keysOf]
 | 0, _ :: _, _, h => by simp at h
 | n + 1, c :: r, t, h => by
  simp only [List.length_cons] at h
  rw [Sp.tkz_eq]
  by_cases h47 : c = 47
  ·subst h47
   rw [if_pos rfl, pcs_47, tkz_pcs n r [] (by omega), tkp_keys _ (pcs_ne r)]
   simp [Sp.tkp, Sp.une]
  ·rw [if_neg h47]
   by_cases h126 : c = 126
   ·subst h126
    rw [if_pos rfl]
    obtain ⟨p, ps, hp, hq⟩ := pcs_no h47 r
    rw [hq]
    match r, hp, h with
    | [], hp, _ =>
     injection hp with hp _
     subst hp
     simp [Sp.tkp, Sp.une]
    | b :: q, hp, h =>
     simp only [List.length_cons] at h
     by_cases hb47 : b = 47
     ·subst hb47
      rw [pcs_47] at hp
      injection hp with hp _
      subst hp
      simp [Sp.tkp, Sp.une]
     ·obtain ⟨p2, ps2, hp2, hq2⟩ := pcs_no hb47 q
      rw [hq2] at hp
      injection hp with hp hps
      subst hp; subst hps
      by_cases h48 : b = 48
      ·subst h48
       simp only
       rw [tkz_pcs n q _ (by omega), hp2]
       rw [tkp_cons, tkp_cons, Sp.une_eq, if_pos rfl]
       simp only
       cases Sp.une p2 <;> simp
      ·by_cases h49 : b = 49
       ·subst h49
        simp only
        rw [tkz_pcs n q _ (by omega), hp2]
        rw [tkp_cons, tkp_cons, Sp.une_eq, if_pos rfl]
        simp only
        cases Sp.une p2 <;> simp
       ·have e : Sp.une (126 :: b :: p2) = none := by
         rw [Sp.une_eq, if_pos rfl]
         split
         ·rename_i e; injection e with e _; exact absurd e h48
         ·rename_i e; injection e with e _; exact absurd e h49
         ·rfl
        rw [tkp_cons, e]
        split
        ·rename_i e; injection e with e _; exact absurd e h48
        ·rename_i e; injection e with e _; exact absurd e h49
        ·rfl
   ·rw [if_neg h126]
    obtain ⟨p, ps, hp, hq⟩ := pcs_no h47 r
    rw [hq, tkz_pcs n r _ (by omega), hp]
    rw [tkp_cons, tkp_cons, une_skip h126]
    cases Sp.une p <;> simp
theorem toks_tkz (l : Sp.By) : Sp.toks l = match l with
  | [] => some []
  | c :: r => if Sp.u8 (c :: r) = true then (if c = 47 then Sp.tkz [] r else none) else none := by
 cases l with
 | nil => simp [Sp.toks, Lib.validD_nil, Sp.pcs, Sp.keysOf]
 | cons c r =>
  simp only
  unfold Sp.toks
  rw [u8_valid _ _ (Nat.le_refl _)]
  split
  ·by_cases h : c = 47
   ·subst h
    rw [if_pos rfl, pcs_47, tkz_pcs _ r [] (Nat.le_refl _), tkp_keys _ (pcs_ne r)]
   ·rw [if_neg h]
    obtain ⟨p, ps, hp, hq⟩ := pcs_no h r
    rw [hq]
  ·rfl
theorem grt_ixf (l : Sp.By) (hd : l.all (Sp.dgs.contains ·) = true) : ∀ (a : Nat) (b : Int), b = min (a : Int) 1000000000 → Sp.grt l b = min (Sp.ixf a l : Int) 1000000000 := by
 induction l with
 | nil => intro a b h; exact h
 | cons c r ih =>
  intro a b h
  rw [List.all_cons, Bool.and_eq_true] at hd
  obtain ⟨c1, c2⟩ := Sp.dgs_iff c hd.1
  have hs : Sp.ixf a (c :: r) = Sp.ixf (a * 10 + (c.toNat - 48)) r := rfl
  rw [Sp.grt, hs]
  exact ih hd.2 _ _ (by omega)
theorem go_up : ∀ (f g : Nat) (o : Sp.O), Sp.goO f o → f ≤ g → Sp.nrm g o = Sp.nrm f o
 | 0, _, _, h, _ => h.elim
 | f + 1, 0, _, _, hg => by omega
 | f + 1, g + 1, o, h, hg => by
  rcases h with ⟨k, _, rfl⟩ | ⟨n, rfl, _⟩ | ⟨s, rfl⟩ | ⟨es, rfl, h⟩ | ⟨es, rfl, _, h⟩
  ·rfl
  ·rfl
  ·rfl
  ·show Sp.vArr (es.map (Sp.nrm g)) = Sp.vArr (es.map (Sp.nrm f))
   rw [List.map_congr_left fun e he => go_up f g e (h e he) (by omega)]
  ·show Sp.puts (Sp.vObj []) ((Sp.lits es).map fun p => (p.1, Sp.nrm g p.2)) = Sp.puts (Sp.vObj []) ((Sp.lits es).map fun p => (p.1, Sp.nrm f p.2))
   congr 1
   apply List.map_congr_left
   intro p hp
   unfold Sp.lits at hp
   obtain ⟨q, hq, rfl⟩ := List.mem_map.1 hp
   show (Lit.string q.1, Sp.nrm g q.2) = (Lit.string q.1, Sp.nrm f q.2)
   rw [go_up f g q.2 (h q hq) (by omega)]
theorem obj_ents (f : Nat) (es : Sp.Ms) (hnd : (es.map (·.1)).Nodup) : ∃ es', Sp.nrm (f + 1) (Sp.oObj es) = Sp.vObj es' ∧ es'.Perm (es.map fun p => (Lit.string p.1, Sp.nrm f p.2)) ∧ es'.Pairwise (fun p q => p.1 ≠ q.1) := by
 have hpw : ((Sp.lits es).map fun p => (p.1, Sp.nrm f p.2)).Pairwise (fun p q => p.1 ≠ q.1) := by
  unfold Sp.lits
  rw [List.pairwise_map, List.pairwise_map]
  have h2 : es.Pairwise (fun a b => a.1 ≠ b.1) := List.pairwise_map.1 hnd
  exact h2.imp fun h e => h (Lit.string.inj e)
 obtain ⟨L, hL⟩ : ∃ L : List (Lit × Sp.V), L = (Sp.lits es).map fun p => (p.1, Sp.nrm f p.2) := ⟨_, rfl⟩
 rw [← hL] at hpw
 obtain ⟨E', e1, e2⟩ := puts_perm L [] hpw
 rw [List.nil_append] at e2
 refine ⟨E', by rw [hL] at e1; exact e1, ?_, e2.symm.pairwise hpw (fun hab => Ne.symm hab)⟩
 refine e2.trans (List.Perm.of_eq ?_)
 rw [hL]
 unfold Sp.lits
 rw [List.map_map]; rfl
def Sp.mem (k : Sp.By) : Sp.Ms → Option Sp.O
 | [] => none
 | p :: r => if p.1 = k then some p.2 else Sp.mem k r
theorem mem_some {k : Sp.By} {o : Sp.O} : ∀ {es : Sp.Ms}, Sp.mem k es = some o → (k, o) ∈ es
 | [], h => by cases h
 | p :: r, h => by
  unfold Sp.mem at h
  split at h
  ·rename_i e
   injection h with h
   subst e; subst h
   exact List.mem_cons_self ..
  ·exact List.mem_cons_of_mem _ (mem_some h)
theorem mem_none {k : Sp.By} : ∀ {es : Sp.Ms}, Sp.mem k es = none → ∀ p ∈ es, p.1 ≠ k
 | [], _, p, hp => by cases hp
 | q :: r, h, p, hp => by
  unfold Sp.mem at h
  split at h
  ·cases h
  ·rename_i e
   rcases List.mem_cons.1 hp with rfl | hp
   ·exact e
   ·exact mem_none h p hp
def Sp.ochild (o : Sp.O) (t : Sp.By) : Except Nat Sp.O := match o with
 | .map es => (match Sp.mem t (es.map fun p => (strOf p.1, p.2)) with
  | some x => .ok x
  | none => .error 11)
 | .slice es _ => (match Sp.idx t with
  | none => .error 12
  | some i => match es[i]? with
   | some e => .ok e
   | none => .error 11)
 | _ => .error 11
def Sp.ofind (o : Sp.O) : List Sp.By → Except Nat Sp.O
 | [] => .ok o
 | t :: r => match Sp.ochild o t with
  | .ok e => Sp.ofind e r
  | .error c => .error c
theorem ochild_obj (es : Sp.Ms) (t : Sp.By) : Sp.ochild (Sp.oObj es) t = match Sp.mem t es with | some x => .ok x | none => .error 11 := by
 unfold Sp.ochild Sp.oObj Sp.lits
 simp only
 rw [List.map_map]
 have : es.map ((fun p : Lit × Sp.O => (strOf p.1, p.2)) ∘ fun p => (Lit.string p.1, p.2)) = es := by
  conv => rhs; rw [← List.map_id es]
  rfl
 rw [this]
theorem nrm_child {f : Nat} {o : Sp.O} {t : Sp.By} (h : Sp.goO (f + 1) o) :
  (∃ y, Sp.ochild o t = .ok y ∧ Sp.goO f y ∧ Sp.child (Sp.nrm (f + 1) o) t = .ok (Sp.nrm f y)) ∨ (∃ c, Sp.ochild o t = .error c ∧ Sp.child (Sp.nrm (f + 1) o) t = .error c) := by
 rcases h with ⟨k, _, rfl⟩ | ⟨n, rfl, _⟩ | ⟨s, rfl⟩ | ⟨es, rfl, h⟩ | ⟨es, rfl, hnd, h⟩
 ·exact Or.inr ⟨11, rfl, rfl⟩
 ·exact Or.inr ⟨11, rfl, rfl⟩
 ·exact Or.inr ⟨11, rfl, rfl⟩
 ·have e : Sp.nrm (f + 1) (Sp.oArr es) = Sp.vArr (es.map (Sp.nrm f)) := rfl
  rw [e]
  unfold Sp.ochild Sp.child Sp.oArr Sp.vArr
  simp only
  cases Sp.idx t with
  | none => exact Or.inr ⟨12, rfl, rfl⟩
  | some i =>
   simp only [List.getElem?_map]
   cases hx : es[i]? with
   | none => exact Or.inr ⟨11, rfl, rfl⟩
   | some y => exact Or.inl ⟨y, rfl, h y (List.mem_of_getElem? hx), rfl⟩
 ·obtain ⟨es', e1, e2, e3⟩ := obj_ents f es hnd
  rw [e1, ochild_obj]
  have hks : ∀ p ∈ es', ∃ s, p.1 = .string s := fun p hp => by
   obtain ⟨q, _, rfl⟩ := List.mem_map.1 (e2.mem_iff.1 hp)
   exact ⟨q.1, rfl⟩
  unfold Sp.child Sp.vObj
  simp only
  cases hm : Sp.mem t es with
  | some y =>
   have hy := mem_some hm
   have hin : (Lit.string t, Sp.nrm f y) ∈ es' := e2.mem_iff.2 (List.mem_map.2 ⟨(t, y), hy, rfl⟩)
   have hh : Maps.has (.map es' : Sp.V) (.string t) = true := List.any_eq_true.2 ⟨_, hin, WideAt.sameKey_self trivial⟩
   rw [if_pos hh, WideAt.atKey_mem .nil (show WideAt.IsKeyLit (Lit.string t) from trivial) e3 hin]
   exact Or.inl ⟨y, rfl, h _ hy, rfl⟩
  | none =>
   have hh : ¬ Maps.has (.map es' : Sp.V) (.string t) = true := fun hh => by
    obtain ⟨p, hp, hs⟩ := List.any_eq_true.1 (show es'.any (fun p => p.1.sameKey (.string t)) = true from hh)
    have e := WideAt.sameKey_eq hs
    obtain ⟨q, hq, rfl⟩ := List.mem_map.1 (e2.mem_iff.1 hp)
    exact mem_none hm q hq (Lit.string.inj e)
   rw [if_neg hh]
   exact Or.inr ⟨11, rfl, rfl⟩
theorem nrm_find : ∀ (l : List Sp.By) (f : Nat) (o : Sp.O), Sp.goO f o →
  (∃ y f', Sp.ofind o l = .ok y ∧ f' + l.length = f ∧ Sp.goO f' y ∧ Sp.find (Sp.nrm f o) l = .ok (Sp.nrm f' y)) ∨ (∃ c, (c = 11 ∨ c = 12) ∧ Sp.ofind o l = .error c ∧ Sp.find (Sp.nrm f o) l = .error c)
 | [], f, o, h => Or.inl ⟨o, f, rfl, rfl, h, rfl⟩
 | t :: r, 0, o, h => h.elim
 | t :: r, f + 1, o, h => by
  rcases nrm_child (t := t) h with ⟨y, h1, h2, h3⟩ | ⟨c, h1, h2⟩
  ·have e1 : Sp.ofind o (t :: r) = Sp.ofind y r := by
    show (match Sp.ochild o t with | .ok e => Sp.ofind e r | .error c => .error c) = _
    rw [h1]
   have e2 : Sp.find (Sp.nrm (f + 1) o) (t :: r) = Sp.find (Sp.nrm f y) r := by
    show (match Sp.child (Sp.nrm (f + 1) o) t with | .ok e => Sp.find e r | .error c => .error c) = _
    rw [h3]
   rw [e1, e2]
   rcases nrm_find r f y h2 with ⟨z, f', a, b, c, d⟩ | h
   ·exact Or.inl ⟨z, f', a, by simp only [List.length_cons]; omega, c, d⟩
   ·exact Or.inr h
  ·refine Or.inr ⟨c, child_err h2, ?_, ?_⟩
   ·show (match Sp.ochild o t with | .ok e => Sp.ofind e r | .error c => .error c) = _
    rw [h1]
   ·show (match Sp.child (Sp.nrm (f + 1) o) t with | .ok e => Sp.find e r | .error c => .error c) = _
    rw [h2]
end Go.Proofs.YtdpomdelmdofmaaGreatDoor

namespace Go.Proofs.YtdpomdelmdofmaaGreatDoor
open Go.RowKit
def u8s (l : Sp.By) : List Value := l.map fun c => .int .u8 (c.toNat : Nat)
theorem u8s_len (l : Sp.By) : (u8s l).length = l.length := by simp [u8s]
theorem u8_info : (Tryz.prog.info? 5).map (fun i => (i.zero, i.size, i.bytes)) = some (some (.int .u8 0), 1, 1) := by kernel_rfl
set_option maxRecDepth 100000 in
theorem conv_row {w : World} {B n : Nat} {tv : Value} {l : Sp.By} (h : w.ownsRow B 5 1 tv n (u8s l)) (hn : n = l.length) {w' : World} (hk : ∀ g, tv.ownBlock = some g → w'.heap[g]? = w.heap[g]?) :
  (convert 117 9 tv).run Tryz.prog w' = .ok (.string ⟨l.toArray⟩) w' := by
 subst hn
 by_cases h0 : l.length = 0
 ·obtain rfl : l = [] := List.eq_nil_of_length_eq_zero h0
  rcases h.2 with ⟨e, _⟩ | ⟨g, cap, cur, e, _⟩
  ·subst e
   exact run_convert_bytes_nil _ 117 5 Tryz.underlying117 Tryz.underlying5 0 0 9 Tryz.underlying9
  ·subst e
   exact run_convert_bytes_arg _ 117 5 Tryz.underlying117 Tryz.underlying5 g 0 0 cap [] rfl (fun i hi => by omega) 9 Tryz.underlying9
 ·obtain ⟨g, cap, rfl, _, _, hg, hc⟩ := owns_cell1 h (by omega)
  have hkg := hk g rfl
  have := run_convert_bytes_arg (P := Tryz.prog) w' 117 5 Tryz.underlying117 Tryz.underlying5 g 0 l.length cap (l.map fun c => ((c.toNat : Nat) : Int)) (by simp) (fun i hi => by
   rw [Nat.zero_add, World.cell?_of_block (w := w) hkg, hc i (by rw [u8s_len]; exact hi)]
   simp [u8s, hi]) 9 Tryz.underlying9
  rw [this]
  congr 2
  unfold strOfNums
  rw [List.map_map, show ((fun n : Int => UInt8.ofNat n.toNat) ∘ fun c : UInt8 => ((c.toNat : Nat) : Int)) = id from funext fun c => by simp, List.map_id]
def TokR (w : World) (v : Value) (l : List Sp.By) : Prop :=
 (l = [] ∧ ∃ a c, v = .slice a 0 c) ∨ (0 < l.length ∧ ∃ g off cap, v = .slice (some ⟨g, off, none⟩) l.length cap ∧ l.length ≤ cap ∧ cap ≤ maxLen ∧ g < w.heap.size ∧ ∀ k (hk : k < l.length), w.cell? ⟨g, off + k, none⟩ = some (.string ⟨l[k].toArray⟩))
theorem TokR.bel {w w' : World} {v : Value} {l : List Sp.By} (h : TokR w v l) (hb : Below w.heap.size w w') : TokR w' v l := by
 rcases h with h | ⟨hp, g, off, cap, rfl, h1, h2, hg, hc⟩
 ·exact Or.inl h
 ·exact Or.inr ⟨hp, g, off, cap, rfl, h1, h2, Nat.lt_of_lt_of_le hg hb.size, fun k hk => (hb.cell (p := ⟨g, off + k, none⟩) hg).trans (hc k hk)⟩
theorem tokR_own {w : World} {B : Nat} {v : Value} {l : List Sp.By} (h : w.ownsRow B 9 1 v l.length (strs l)) : TokR w v l := by
 by_cases h0 : l.length = 0
 ·obtain rfl : l = [] := List.eq_nil_of_length_eq_zero h0
  rcases h.2 with ⟨e, _⟩ | ⟨g, cap, cur, e, _⟩
  ·exact Or.inl ⟨rfl, none, 0, e⟩
  ·exact Or.inl ⟨rfl, _, cap, e⟩
 ·obtain ⟨g, cap, rfl, h1, h2, hg, hc⟩ := owns_cell1 h (by omega)
  refine Or.inr ⟨by omega, g, 0, cap, rfl, h1, h2, hg, fun k hk => ?_⟩
  rw [Nat.zero_add, hc k (by simpa [strs] using hk)]
  simp [strs]
def tokEnd (o : Option (List Sp.By)) (e : Ending) (w' : World) : Prop := match o with
 | some ks => ∃ v, e = .returned (.tuple #[v, .bool true]) ∧ TokR w' v ks
 | none => e = .returned (.tuple #[.slice none 0 0, .bool false])
def TkI (t : ByteArray) (r : Sp.By) (w : World) (lv tv : Value) (k : Nat) (wr : World) : Prop :=
 ∃ (ks : List Sp.By) (tb l' : Sp.By), AtL t k l' ∧ Sp.tkz [] r = (Sp.tkz tb l').map (ks ++ ·) ∧ wr.ownsRow w.heap.size 9 1 lv ks.length (strs ks) ∧ wr.ownsRow w.heap.size 5 1 tv tb.length (u8s tb) ∧
  (∀ g, lv.ownBlock = some g → tv.ownBlock ≠ some g) ∧ ks.length + tb.length ≤ k ∧ Below w.heap.size w wr
section
variable {t : ByteArray} {r : Sp.By} {w wr w6 : World} {lv tv : Value} {k : Nat} {ks : List Sp.By} {tb l' : Sp.By}
theorem TkI.slash {o : Obj} {g cap : Nat} (hat : AtL t k (47 :: l')) (htk : Sp.tkz [] r = (Sp.tkz tb (47 :: l')).map (ks ++ ·)) (hlv : wr.ownsRow w.heap.size 9 1 lv ks.length (strs ks)) (hkl : ks.length + tb.length ≤ k) (hbl : Below w.heap.size w wr)
  (hown : w6.ownsRow w.heap.size 9 1 (.slice (some ⟨g, 0, none⟩) (ks.length + 1) cap) (ks.length + 1) (strs ks ++ [.string ⟨tb.toArray⟩])) (hg : (wr.alloc o).grownBy w6 lv.ownBlock) : TkI t r w (.slice (some ⟨g, 0, none⟩) (ks.length + 1) cap) (.slice none 0 0) (k + 1) w6 := by
 have hsz := hbl.size
 refine ⟨ks ++ [tb], [], l', hat.next, ?_, ?_, World.ownsRow_nil _ _ _ _, (fun g _ h => by simp [Value.ownBlock] at h), (by simp; omega), ?_⟩
 ·rw [htk, Sp.tkz_eq, if_pos rfl]
  cases Sp.tkz [] l' <;> simp
 ·have e : strs (ks ++ [tb]) = strs ks ++ [.string ⟨tb.toArray⟩] := by simp [strs]
  rw [e, List.length_append, List.length_singleton]
  exact hown
 ·refine hbl.trans ⟨hg.os, hg.tape, hg.output, Nat.le_trans (show wr.heap.size ≤ (wr.alloc o).heap.size by simp) hg.size, fun j hj => ?_⟩
  refine (hg.block j (by simp; omega) ?_).trans (Below.heap_alloc wr o j (by omega))
  intro h
  have := (owns_lt hlv j h.symm).2
  omega
theorem TkI.byte {o : Obj} {g cap n : Nat} {x : UInt8} {l2 : Sp.By} (hat : AtL t (k + n) l2) (hn : 1 ≤ n) (htk : Sp.tkz [] r = (Sp.tkz (tb ++ [x]) l2).map (ks ++ ·)) (hlv : wr.ownsRow w.heap.size 9 1 lv ks.length (strs ks)) (htv : wr.ownsRow w.heap.size 5 1 tv tb.length (u8s tb))
  (hne : ∀ g, lv.ownBlock = some g → tv.ownBlock ≠ some g) (hkl : ks.length + tb.length ≤ k) (hbl : Below w.heap.size w wr)
  (hown : w6.ownsRow w.heap.size 5 1 (.slice (some ⟨g, 0, none⟩) (tb.length + 1) cap) (tb.length + 1) (u8s tb ++ [.int .u8 (x.toNat : Nat)])) (hg : (wr.alloc o).grownBy w6 tv.ownBlock) (hat3 : tv.ownBlock = some g ∨ g = wr.heap.size + 1) :
  TkI t r w lv (.slice (some ⟨g, 0, none⟩) (tb.length + 1) cap) (k + n) w6 := by
 have hsz := hbl.size
 refine ⟨ks, tb ++ [x], l2, hat, htk, ?_, ?_, ?_, (by simp; omega), ?_⟩
 ·refine owns_kept hlv fun g' hg' => ?_
  have hlt := (owns_lt hlv g' hg').1
  exact (hg.block g' (by simp; omega) (fun h => hne g' hg' h.symm)).trans (Below.heap_alloc wr o g' (by omega))
 ·have e : u8s (tb ++ [x]) = u8s tb ++ [.int .u8 (x.toNat : Nat)] := by simp [u8s]
  rw [e, List.length_append, List.length_singleton]
  exact hown
 ·intro g' hg' h
  have hlt := (owns_lt hlv g' hg').1
  have e : g = g' := by simpa [Value.ownBlock] using h
  subst e
  rcases hat3 with h3 | h3
  ·exact hne g hg' h3
  ·omega
 ·refine hbl.trans ⟨hg.os, hg.tape, hg.output, Nat.le_trans (show wr.heap.size ≤ (wr.alloc o).heap.size by simp) hg.size, fun j hj => ?_⟩
  refine (hg.block j (by simp; omega) ?_).trans (Below.heap_alloc wr o j (by omega))
  intro h
  have := (owns_lt htv j h.symm).2
  omega
end
theorem rTokens_nil (w : World) : Calls Tryz.prog 68 #[.string ⟨#[]⟩] w fun e w' => tokEnd (some []) e w' ∧ Below w.heap.size w w' := by
 have HU := hide (rUtf8_anyL ⟨#[]⟩ (by decide) w)
 go_enter Tryz.func68, Tryz.ntmps68
 go_wp2_with (fail)
 refine (unhide HU).mono ?_
 rintro e w1 ⟨rfl, hb⟩
 go_wp2_with (fail)
 go_ret2
 exact ⟨⟨_, rfl, Or.inl ⟨rfl, none, 0, rfl⟩⟩, hb⟩
set_option maxRecDepth 100000 in
set_option maxHeartbeats 16000000 in
theorem rTokens_cons {t : ByteArray} {c : UInt8} {r : Sp.By} (ht : AtL t 0 (c :: r)) (w : World) : Calls Tryz.prog 68 #[.string t] w fun e w' => tokEnd (Sp.toks (c :: r)) e w' ∧ Below w.heap.size w w' := by
 have hdl : t.data.toList = c :: r := by simpa using ht.eq
 have HU := hide (rUtf8_anyL t ht.small w)
 rw [hdl] at HU
 have hE := emp_f (X := t) (k := r.length) (by have := ht.len; simp at this; omega)
 have hlt := ht.lt
 have hby : t[0]'hlt = c := ht.byte
 obtain ⟨R, hR⟩ : ∃ R, R = Sp.toks (c :: r) := ⟨_, rfl⟩
 have hR2 := hR
 rw [toks_tkz] at hR2
 simp only at hR2
 rw [← hR]
 have HT := hide ht
 have HDL := hide hdl
 have HR := hide hR2
 clear ht hdl hR hR2
 go_enter Tryz.func68, Tryz.ntmps68
 go_wp2_with (fail)
 refine (unhide HU).mono ?_
 rintro e w1 ⟨rfl, hb⟩
 have HB := hide hb
 clear hb HU
 cases hu : Sp.u8 (c :: r) with
 | false =>
  have HF := hide (show R = none by rw [unhide HR, if_neg (by rw [hu]; decide)])
  clear hu
  go_wp2_with (fail)
  go_ret2
  exact ⟨by rw [unhide HF]; rfl, unhide HB⟩
 | true =>
  by_cases h47 : c = 47
  ·have HF := hide (show R = Sp.tkz [] r by rw [unhide HR, if_pos hu, if_pos h47])
   subst h47
   clear hu HR
   have hI : TkI t r w (.slice none 0 0) (.slice none 0 0) 1 w1 := by
    refine ⟨[], [], r, ?_, ?_, World.ownsRow_nil _ _ _ _, World.ownsRow_nil _ _ _ _, (fun g hg => by simp [Value.ownBlock] at hg), (by simp), unhide HB⟩
    ·have := (unhide HT).next; simpa using this
    ·cases Sp.tkz [] r <;> simp
   have HI := hide hI
   clear hI
   obtain ⟨i0, hi0, hz0, hz1, hz2⟩ := info_parts u8_info
   obtain ⟨j0, hj0, jz0, jz1, jz2⟩ := info_parts o_str
   have hsm := (unhide HT).small
   go_wp2_with (fail)
   clear hby hE
   go_loopw [5, 6, 7] (fun lv tv i wr => ∃ (k : Nat) (lv' tv' : Value), lv' = lv ∧ tv' = tv ∧ i = .int .i64 k ∧ Hid (TkI t r w lv' tv' k wr)) (fun _ _ i _ => t.size - (intOf i).toNat)
   case atStart => exact ⟨1, _, _, rfl, rfl, rfl, HI⟩
   case round =>
    obtain ⟨k, lv, tv, rfl, rfl, rfl, hI⟩ := hrel
    obtain ⟨ks, tb, l', hat, htk, hlv, htv, hne, hkl, hbl⟩ := unhide hI
    have hln := hat.len
    have hle := hat.le
    have hcv := fun n => conv_row htv rfl (w' := wr.drewN n) (fun _ _ => rfl)
    have hcv0 := conv_row htv rfl (w' := wr) (fun _ _ => rfl)
    have hszr := hbl.size
    have HLV := hide hlv
    have HTV := hide htv
    have HAT := hide hat
    have HTK := hide htk
    have HNE := hide hne
    have HBL := hide hbl
    clear hI
    cases l' with
    | nil =>
     have e1 : ¬ k < t.size := by have := hat.nil; omega
     have HF2 := hide (show R = some (ks ++ [tb]) by rw [unhide HF, htk]; rfl)
     clear hlv htv hat htk hne hbl
     go_wp2_with (at_builtin; refine wpList_append_lies _ rfl _ _ _ rfl w.heap.size 9 j0 _ 1 16 Tryz.underlying59 hj0 jz0 jz1 jz2 rfl (by decide) lv ks.length (strs ks) rfl (World.ownsRow.alloc (unhide HLV) _) ⟨wr.heap.size, 0, none⟩ 1 1 [.string ⟨tb.toArray⟩] rfl rfl (World.news_of_block (cs := #[.string ⟨tb.toArray⟩]) (t := 9) (fr := (0, 0)) (heap_alloc_new wr _)) (by simp [Value.oneCell']) (by decide) (by unfold maxLen; omega) (by omega) (by simp; omega) (wr.heap.size + 1) (by simp) ?_; intro g cap w6 hown3 hgrow hat3 hlt3; have HOWN3 := hide hown3; have HGROW := hide hgrow; clear hown3 hgrow hat3)
     have hb6 : Below w.heap.size w w6 := by
      have hg := unhide HGROW
      refine (unhide HBL).trans ⟨hg.os, hg.tape, hg.output, Nat.le_trans (by simp) hg.size, fun j hj => ?_⟩
      refine (hg.block j (by simp; omega) ?_).trans (Below.heap_alloc wr _ j (by omega))
      intro h
      have := (owns_lt (unhide HLV) j h.symm).2
      omega
     have hown4 : w6.ownsRow w.heap.size 9 1 (.slice (some ⟨g, 0, none⟩) (ks.length + 1) cap) (ks ++ [tb]).length (strs (ks ++ [tb])) := by
      have e : strs (ks ++ [tb]) = strs ks ++ [.string ⟨tb.toArray⟩] := by simp [strs]
      rw [e, List.length_append, List.length_singleton]
      exact unhide HOWN3
     go_ret2
     exact ⟨by rw [unhide HF2]; exact ⟨_, rfl, tokR_own hown4⟩, hb6⟩
    | cons d l' =>
     have e1 := hat.lt
     have hb : t[k]'e1 = d := hat.byte
     by_cases h47 : d = 47
     ·subst h47
      clear hlv htv hat htk hne hbl hln
      go_wp2_with (at_builtin; refine wpList_append_lies _ rfl _ _ _ rfl w.heap.size 9 j0 _ 1 16 Tryz.underlying59 hj0 jz0 jz1 jz2 rfl (by decide) lv ks.length (strs ks) rfl (World.ownsRow.alloc (unhide HLV) _) ⟨wr.heap.size, 0, none⟩ 1 1 [.string ⟨tb.toArray⟩] rfl rfl (World.news_of_block (cs := #[.string ⟨tb.toArray⟩]) (t := 9) (fr := (0, 0)) (heap_alloc_new wr _)) (by simp [Value.oneCell']) (by decide) (by unfold maxLen; omega) (by omega) (by simp; omega) (wr.heap.size + 1) (by simp) ?_; intro g cap w6 hown3 hgrow hat3 hlt3; have HOWN3 := hide hown3; have HGROW := hide hgrow; clear hown3 hgrow hat3)
      exact ⟨⟨k + 1, _, _, rfl, rfl, by go_num, TkI.slash (unhide HAT) (unhide HTK) (unhide HLV) hkl (unhide HBL) (unhide HOWN3) (unhide HGROW)⟩, by simp only [intOf]; omega⟩
     ·have f47 : ((d.toNat : Int) == 47) = false := by
       rw [beq_eq_false_iff_ne]; intro h; exact h47 (UInt8.toNat_inj.1 (show d.toNat = 47 by omega))
      by_cases h126 : d = 126
      ·subst h126
       cases l' with
       | nil =>
        have e2 : ¬ (k : Int) + 1 < (t.size : Int) := by simp at hln; omega
        have HF2 := hide (show R = none by rw [unhide HF, htk]; rfl)
        clear hlv htv hat htk hne hbl hln h47
        go_wp2_with (fail)
        go_ret2
        exact ⟨by rw [unhide HF2]; rfl, unhide HBL⟩
       | cons x q =>
        have e2 := hat.next.lt
        have hb2 : t[k + 1]'e2 = x := hat.next.byte
        have e3 : (k : Int) + 1 < (t.size : Int) := by omega
        by_cases hx0 : x = 48
        ·subst hx0
         clear hlv htv hat htk hne hbl hln h47
         go_wp2_with (at_builtin; refine wpList_append_lies _ rfl _ _ _ rfl w.heap.size 5 i0 _ 1 1 Tryz.underlying117 hi0 hz0 hz1 hz2 rfl (by decide) tv tb.length (u8s tb) rfl (World.ownsRow.alloc (unhide HTV) _) ⟨wr.heap.size, 0, none⟩ 1 1 [.int .u8 126] rfl rfl (World.news_of_block (cs := #[.int .u8 126]) (t := 5) (fr := (0, 0)) (heap_alloc_new wr _)) (by simp [Value.oneCell']) (by decide) (by unfold maxLen; omega) (by omega) (by simp; omega) (wr.heap.size + 1) (by simp) ?_; intro g cap w6 hown3 hgrow hat3 hlt3; have HOWN3 := hide hown3; have HGROW := hide hgrow; have HAT3 := hide hat3; clear hown3 hgrow hat3)
         have hat2 : AtL t (k + 2) q := (unhide HAT).next.next
         have hI2 := TkI.byte (x := 126) (n := 2) hat2 (by omega) ((unhide HTK).trans (by rw [Sp.tkz_eq, if_neg (by decide), if_pos rfl]; rfl)) (unhide HLV) (unhide HTV) (unhide HNE) hkl (unhide HBL) (unhide HOWN3) (unhide HGROW) (unhide HAT3)
         exact ⟨⟨k + 2, _, _, rfl, rfl, by go_num, hI2⟩, by simp only [intOf]; omega⟩
        ·have g48 : ((x.toNat : Int) == 48) = false := by
          rw [beq_eq_false_iff_ne]; intro h; exact hx0 (UInt8.toNat_inj.1 (show x.toNat = 48 by omega))
         by_cases hx1 : x = 49
         ·subst hx1
          clear hlv htv hat htk hne hbl hln h47 hx0
          go_wp2_with (at_builtin; refine wpList_append_lies _ rfl _ _ _ rfl w.heap.size 5 i0 _ 1 1 Tryz.underlying117 hi0 hz0 hz1 hz2 rfl (by decide) tv tb.length (u8s tb) rfl (World.ownsRow.alloc (unhide HTV) _) ⟨wr.heap.size, 0, none⟩ 1 1 [.int .u8 47] rfl rfl (World.news_of_block (cs := #[.int .u8 47]) (t := 5) (fr := (0, 0)) (heap_alloc_new wr _)) (by simp [Value.oneCell']) (by decide) (by unfold maxLen; omega) (by omega) (by simp; omega) (wr.heap.size + 1) (by simp) ?_; intro g cap w6 hown3 hgrow hat3 hlt3; have HOWN3 := hide hown3; have HGROW := hide hgrow; have HAT3 := hide hat3; clear hown3 hgrow hat3)
          have hat2 : AtL t (k + 2) q := (unhide HAT).next.next
          have hI2 := TkI.byte (x := 47) (n := 2) hat2 (by omega) ((unhide HTK).trans (by rw [Sp.tkz_eq, if_neg (by decide), if_pos rfl]; rfl)) (unhide HLV) (unhide HTV) (unhide HNE) hkl (unhide HBL) (unhide HOWN3) (unhide HGROW) (unhide HAT3)
          exact ⟨⟨k + 2, _, _, rfl, rfl, by go_num, hI2⟩, by simp only [intOf]; omega⟩
         ·have g49 : ((x.toNat : Int) == 49) = false := by
           rw [beq_eq_false_iff_ne]; intro h; exact hx1 (UInt8.toNat_inj.1 (show x.toNat = 49 by omega))
          have HF2 := hide (show R = none by
           rw [unhide HF, htk, Sp.tkz_eq, if_neg (by decide), if_pos rfl]
           split
           ·rename_i e; injection e with e _; exact absurd e hx0
           ·rename_i e; injection e with e _; exact absurd e hx1
           ·rfl)
          clear hlv htv hat htk hne hbl hln h47 hx0 hx1
          go_wp2_with (fail)
          go_ret2
          exact ⟨by rw [unhide HF2]; rfl, unhide HBL⟩
      ·have f126 : ((d.toNat : Int) == 126) = false := by
        rw [beq_eq_false_iff_ne]; intro h; exact h126 (UInt8.toNat_inj.1 (show d.toNat = 126 by omega))
       have HTK2 := hide ((unhide HTK).trans (show _ = (Sp.tkz (tb ++ [d]) l').map (ks ++ ·) by rw [Sp.tkz_eq, if_neg h47, if_neg h126]))
       have HAT2 := hide (unhide HAT).next
       clear hlv htv hat htk hne hbl hln h47 h126
       go_wp2_with (at_builtin; refine wpList_append_lies _ rfl _ _ _ rfl w.heap.size 5 i0 _ 1 1 Tryz.underlying117 hi0 hz0 hz1 hz2 rfl (by decide) tv tb.length (u8s tb) rfl (World.ownsRow.alloc (unhide HTV) _) ⟨wr.heap.size, 0, none⟩ 1 1 [.int .u8 (d.toNat : Nat)] rfl rfl (World.news_of_block (cs := #[.int .u8 (d.toNat : Nat)]) (t := 5) (fr := (0, 0)) (heap_alloc_new wr _)) (by simp [Value.oneCell']) (by decide) (by unfold maxLen; omega) (by omega) (by simp; omega) (wr.heap.size + 1) (by simp) ?_; intro g cap w6 hown3 hgrow hat3 hlt3; have HOWN3 := hide hown3; have HGROW := hide hgrow; have HAT3 := hide hat3; clear hown3 hgrow hat3)
       have hI2 := TkI.byte (x := d) (n := 1) (unhide HAT2) (by omega) (unhide HTK2) (unhide HLV) (unhide HTV) (unhide HNE) hkl (unhide HBL) (unhide HOWN3) (unhide HGROW) (unhide HAT3)
       exact ⟨⟨k + 1, _, _, rfl, rfl, by go_num, hI2⟩, by simp only [intOf]; omega⟩
  ·have HF := hide (show R = none by rw [unhide HR, if_pos hu, if_neg h47])
   have f47 : ((c.toNat : Int) == 47) = false := by
    rw [beq_eq_false_iff_ne]; intro h; exact h47 (UInt8.toNat_inj.1 (show c.toNat = 47 by omega))
   clear hu HR
   go_wp2_with (fail)
   go_ret2
   exact ⟨by rw [unhide HF]; rfl, unhide HB⟩
end Go.Proofs.YtdpomdelmdofmaaGreatDoor

namespace Go.Proofs.YtdpomdelmdofmaaGreatDoor
open Go.RowKit
def Sp.ixI (t : Sp.By) : Int := match Sp.idx t with
 | none => -1
 | some i => min (i : Int) 1000000000
theorem dgs_isD (c : UInt8) : Sp.dgs.contains c = Sp.isD c := by
 rw [Bool.eq_iff_iff]
 constructor
 ·intro h
  rw [isD_iff]
  exact Sp.dgs_iff c h
 ·intro h
  rw [isD_iff] at h
  have hb : ∀ n : Fin 256, 48 ≤ n.val ∧ n.val ≤ 57 → Sp.dgs.contains (UInt8.ofNat n.val) = true := by decide +kernel
  have := hb ⟨c.toNat, c.toNat_lt⟩ h
  simpa using this
theorem ixI_none {t : Sp.By} (h : Sp.idx t = none) : Sp.ixI t = -1 := by unfold Sp.ixI; rw [h]
theorem ixI_some {t : Sp.By} (h : ¬ (t = [] ∨ (1 < t.length ∧ t[0]? = some 48) ∨ t.all (Sp.dgs.contains ·) = false)) : Sp.ixI t = Sp.grt t 0 := by
 unfold Sp.ixI
 rw [Sp.idx_some h]
 have hd : t.all (Sp.dgs.contains ·) = true := by
  cases e : t.all (Sp.dgs.contains ·)
  ·exact absurd (Or.inr (Or.inr e)) h
  ·rfl
 rw [grt_ixf t hd 0 0 (by omega)]
 simp only
 omega
set_option maxHeartbeats 4000000 in
theorem rIndex_nil (w : World) : Calls Tryz.prog 96 #[.string ⟨#[]⟩] w fun e w' => e = .returned (.int .i64 (-1)) ∧ Below w.heap.size w w' := by
 go_enter Tryz.func96, Tryz.ntmps96
 go_wp2_with (fail)
 go_ret
 exact ⟨rfl, Below.refl _ _⟩
theorem all_drop (d : UInt8) (l' : Sp.By) : (d :: l').all (Sp.dgs.contains ·) = (Sp.isD d && l'.all (Sp.dgs.contains ·)) := by
 rw [List.all_cons, dgs_isD]
set_option maxRecDepth 100000 in
set_option maxHeartbeats 8000000 in
theorem rIndex_go {X : ByteArray} {l : Sp.By} (ha : AtL X 0 l) (hne : l ≠ []) (h0 : ¬ (1 < l.length ∧ l[0]? = some 48)) (w : World) : Calls Tryz.prog 96 #[.string X] w fun e w' => e = .returned (.int .i64 (Sp.ixI l)) ∧ Below w.heap.size w w' := by
 cases l with
 | nil => exact absurd rfl hne
 | cons c r =>
  have hdl : X.data.toList = c :: r := by simpa using ha.eq
  have hE := emp_f (X := X) (k := r.length) (by have := ha.len; simp at this; omega)
  have hlt := ha.lt
  have hby : X[0]'hlt = c := ha.byte
  have hsm := ha.small
  have hG := hide (fun (hd : ∀ c ∈ X.data.toList, Sp.isD c = true) => rGreat_anyL X hsm hd w)
  obtain ⟨R, hR⟩ : ∃ R, R = Sp.ixI (c :: r) := ⟨_, rfl⟩
  have HYES := hide (show (c :: r).all (Sp.dgs.contains ·) = true → R = Sp.grt X.data.toList 0 ∧ ∀ c ∈ X.data.toList, Sp.isD c = true from fun h => by
   refine ⟨?_, ?_⟩
   ·rw [hR, ixI_some (by
     rintro (h1 | h1 | h1)
     ·exact hne h1
     ·exact h0 h1
     ·rw [h] at h1; cases h1), hdl]
   ·intro d hd
    rw [hdl] at hd
    rw [← dgs_isD]
    exact List.all_eq_true.1 h d hd)
  have HNO := hide (show (c :: r).all (Sp.dgs.contains ·) = false → R = -1 from fun h => by rw [hR, ixI_none (Sp.idx_none (Or.inr (Or.inr h)))])
  have HA := hide ha
  rw [← hR]
  clear ha hne hR
  have hrest : ∀ (f48 : Bool) (hf : ((X[0].toNat : Int) == 48) = f48) (hz : f48 = true → X = ⟨#[48]⟩), Calls Tryz.prog 96 #[.string X] w fun e w' => e = .returned (.int .i64 R) ∧ Below w.heap.size w w' := by
   intro f48 hf hz
   cases f48 with
   | true =>
    obtain rfl := hz rfl
    have hR0 := unhide HYES (by
     have : (c :: r) = [48] := by rw [← hdl]
     rw [this]; decide)
    have HG := hide ((unhide hG) hR0.2)
    have HR0 := hide hR0.1
    clear hf hz hE hby hdl hG hR0 HYES HNO HA h0
    go_enter Tryz.func96, Tryz.ntmps96
    go_wp2_with (fail)
    refine wp_loop_rounds 2 ?_
    rw [rounds_succ]
    go_wp2_with (fail)
    rw [rounds_succ]
    go_wp2_with (fail)
    refine (unhide HG).mono ?_
    rintro e w2 ⟨rfl, rfl⟩
    go_wp2_with (fail)
    go_ret
    exact ⟨by rw [unhide HR0]; rfl, Below.refl _ _⟩
   | false =>
    clear hz h0 hdl hby
    go_enter Tryz.func96, Tryz.ntmps96
    go_wp2_with (fail)
    clear hf hE
    go_loopw [3] (fun i wr => ∃ (k : Nat) (l' : Sp.By), i = .int .i64 k ∧ Hid (AtL X k l') ∧ Hid ((c :: r).all (Sp.dgs.contains ·) = l'.all (Sp.dgs.contains ·)) ∧ wr = w) (fun i _ => X.size - (intOf i).toNat)
    case atStart => exact ⟨0, c :: r, rfl, HA, rfl, rfl⟩
    case round =>
     obtain ⟨k, l', rfl, HK, HAL, rfl⟩ := hrel
     cases l' with
     | nil =>
      have e1 : ¬ k < X.size := by have := (unhide HK).nil; omega
      have hy := unhide HYES (by rw [unhide HAL]; rfl)
      have HG := hide ((unhide hG) hy.2)
      have HR0 := hide hy.1
      clear hG hy
      go_wp2_with (fail)
      refine (unhide HG).mono ?_
      rintro e w2 ⟨rfl, rfl⟩
      go_wp2_with (fail)
      go_ret
      exact ⟨by rw [unhide HR0]; rfl, Below.refl _ _⟩
     | cons d l' =>
      have e1 := (unhide HK).lt
      have hb : X[k]'e1 = d := (unhide HK).byte
      have HNX := hide (unhide HK).next
      have hall := all_drop d l'
      cases hd : Sp.isD d with
      | true =>
       rw [hd, Bool.true_and] at hall
       have HAL2 := hide ((unhide HAL).trans hall)
       have hd2 := (isD_iff d).1 hd
       rw [← hb] at hd2
       have f1 : decide ((X[k].toNat : Int) < 48) = false := decide_eq_false (by omega)
       have f2 : decide ((57 : Int) < (X[k].toNat : Int)) = false := decide_eq_false (by omega)
       clear hd hall hb hd2
       go_wp2_with (fail)
       exact ⟨⟨k + 1, l', by go_num, HNX, HAL2, trivial⟩, by simp only [intOf]; omega⟩
      | false =>
       rw [hd, Bool.false_and] at hall
       have HF := hide (unhide HNO ((unhide HAL).trans hall))
       have hd2 : ¬ (48 ≤ d.toNat ∧ d.toNat ≤ 57) := fun h => by rw [(isD_iff d).2 h] at hd; cases hd
       rw [← hb] at hd2
       clear hd hall hb
       by_cases g1 : X[k].toNat < 48
       ·have f1 : decide ((X[k].toNat : Int) < 48) = true := decide_eq_true (by omega)
        clear g1 hd2
        go_wp2_with (fail)
        go_ret
        exact ⟨by rw [unhide HF]; rfl, Below.refl _ _⟩
       ·have f1 : decide ((X[k].toNat : Int) < 48) = false := decide_eq_false (by omega)
        have f2 : decide ((57 : Int) < (X[k].toNat : Int)) = true := decide_eq_true (by omega)
        clear g1 hd2
        go_wp2_with (fail)
        go_ret
        exact ⟨by rw [unhide HF]; rfl, Below.refl _ _⟩
  by_cases h48 : c = 48
  ·refine hrest true (by rw [hby, h48]; rfl) fun _ => ?_
   have hr : r = [] := by
    cases r with
    | nil => rfl
    | cons b q => exact absurd ⟨by simp, by rw [h48]; rfl⟩ h0
   subst hr; subst h48
   exact ba_of hdl
  ·exact hrest false (by rw [hby, beq_eq_false_iff_ne]; intro h; exact h48 (UInt8.toNat_inj.1 (show c.toNat = 48 by omega))) (fun h => by cases h)
theorem rIndex_any (t : Sp.By) (hn : t.length ≤ 1048576) (w : World) : Calls Tryz.prog 96 #[.string ⟨t.toArray⟩] w fun e w' => e = .returned (.int .i64 (Sp.ixI t)) ∧ Below w.heap.size w w' := by
 match t, hn with
 | [], _ => exact rIndex_nil w
 | [c], hn => exact rIndex_go (l := [c]) ⟨by rw [bs_size]; exact hn, by simp, by simp⟩ (by simp) (by simp) w
 | c :: b :: q, hn =>
  by_cases h48 : c = 48
  ·subst h48
   have e : Sp.ixI (48 :: b :: q) = -1 := ixI_none (Sp.idx_none (Or.inr (Or.inl ⟨by simp, rfl⟩)))
   rw [e]
   go_enter Tryz.func96, Tryz.ntmps96
   go_wp2_with (fail)
   go_ret
   exact ⟨rfl, Below.refl _ _⟩
  ·exact rIndex_go (l := c :: b :: q) ⟨by rw [bs_size]; exact hn, by simp, by simp⟩ (by simp) (by rintro ⟨_, h⟩; simp at h; exact h48 h) w
end Go.Proofs.YtdpomdelmdofmaaGreatDoor
