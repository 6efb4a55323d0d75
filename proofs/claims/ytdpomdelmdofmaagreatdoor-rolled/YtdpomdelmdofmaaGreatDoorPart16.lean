/-
  Plain facts on the functions of Sp: what was read, written out, reads as it was, with blanks round it or not.
-/
import Derived.Test.YtdpomdelmdofmaaGreatDoorPart15
import Derived.Lib.ValidU
namespace Go.Proofs.YtdpomdelmdofmaaGreatDoor
open Go.Maps
theorem ok_lift {d x lv:Int} {fl:Sp.Fl} {e:Int} (hlv:lv ≤ d) (h:Sp.OkF d x fl) (he:e ≤ x):Sp.OkF d x (fl.1,(max fl.2.1 lv,e)):=by
 obtain ⟨h1,h2,h3⟩:=h
 exact ⟨h1,by simp only; omega,he⟩
theorem before_asymm {p q:Lit × Sp.V} (hp:∃ s,p.1 = .string s) (hq:∃ s,q.1 = .string s) (h:p.1.before q.1 = true):q.1.before p.1 = false:=by
 obtain ⟨s,hs⟩:=hp
 obtain ⟨t,ht⟩:=hq
 rw [hs,ht] at h ⊢
 cases hb:(Lit.string t).before (Lit.string s) with
 | false=>rfl
 | true =>
  have:=Go.WideShapes.bytes_trans s t s h hb
  rw [WideAt.bytes_irrefl] at this; cases this
theorem put_next {es:List (Lit × Sp.V)} (hp:es.Pairwise (fun p q=>p.1.before q.1 = true)) (hk:∀ p ∈ es,∃ s,p.1 = .string s) {i:Nat} (hi:i < es.length) {k:Sp.By} (hki:es[i].1 = .string k) :
  DataW.put (Sp.vObj (es.take i)) (.string k) es[i].2 = Sp.vObj (es.take (i + 1)) ∧ Maps.has (Sp.vObj (es.take i)) (.string k) = false:=by
 have hb:∀ p ∈ es.take i,p.1.before es[i].1 = true:=by
  intro p hpm
  obtain ⟨j,hj,e⟩:=List.getElem_of_mem hpm
  rw [List.length_take] at hj
  rw [List.getElem_take] at e
  rw [← e]
  exact List.pairwise_iff_getElem.1 hp j i (by omega) hi (by omega)
 have hks:∀ p ∈ es.take i,∃ s,p.1 = .string s:=fun p h=>hk p (List.mem_of_mem_take h)
 have hns:∀ p ∈ es.take i,p.1.sameKey (.string k) = false:=by
  intro p hpm
  have h1:=hb p hpm
  obtain ⟨s,hs⟩:=hks p hpm
  rw [hki,hs] at h1
  rw [hs]
  show (s == k) = false
  rw [beq_eq_false_iff_ne]
  rintro rfl
  rw [show (Lit.string s).before (Lit.string s) = bytesBefore s s from rfl,WideAt.bytes_irrefl] at h1
  cases h1
 have hfil:((es.take i).filter fun p=>!p.1.sameKey (.string k)) = es.take i:=List.filter_eq_self.2 fun p hpm=>by rw [hns p hpm]; rfl
 constructor
 ·simp only [Sp.vObj,DataW.put,hfil]
  rw [insert_last (fun p hpm=>by
   have:=before_asymm (p:=p) (q:=es[i]) (hks p hpm) ⟨k,hki⟩ (hb p hpm)
   rw [hki] at this
   exact this),List.take_succ_eq_append_getElem hi]
  congr 2
  rw [← hki]
 ·simp only [Sp.vObj,Maps.has]
  rw [List.any_eq_false]
  intro p hpm
  rw [hns p hpm]; decide
theorem val_can {d x:Int} (hx:x ≤ 1000000) (f:Nat):∀ (lv:Int) (v:Sp.V),Sp.gd d x f lv v → ∀ (fl:Sp.Fl) (r:Sp.By),Sp.Nd r → ∃ fl',Sp.val f lv (Sp.can f v ++ r) fl = some (v,r,fl') ∧ (Sp.OkF d x fl → Sp.OkF d x fl'):=by
 induction f with
 | zero=>intro lv v h; cases h
 | succ f ih =>
  intro lv v h fl r hr
  obtain ⟨hlv,⟨k,hk,rfl⟩ | ⟨s,hs,rfl⟩ | ⟨n,hn,hn1,hn2,rfl⟩ | ⟨es,hes,rfl⟩ | ⟨es,hp,hes,rfl⟩⟩:=h
  ·refine ⟨(fl.1,(max fl.2.1 lv,fl.2.2)),?_,fun ho=>ok_lift hlv ho ho.2.2⟩
   rw [Sp.can_word]
   match k,hk with
   | 0,_=>rfl
   | 1,_=>rfl
   | 2,_=>rfl
  ·refine ⟨(fl.1,(max fl.2.1 lv,fl.2.2)),?_,fun ho=>ok_lift hlv ho ho.2.2⟩
   rw [Sp.can_str]
   have hq:=quo_quoT hs r
   have hpk:Sp.pk (Sp.quoT s ++ r) = 34:=rfl
   unfold Sp.val
   rw [hpk,if_neg (by decide),if_neg (by decide),if_pos rfl,hq]
  ·refine ⟨(fl.1,(max fl.2.1 lv,max (max fl.2.2 n.2.2) (-n.2.2))),?_,fun ho=>ok_lift hlv ho (by have:=ho.2.2; omega)⟩
   rw [Sp.can_num]
   have hq:=num_numT hn ⟨by omega,by omega⟩ r hr
   obtain ⟨c,t,e,hc⟩:=numT_hd hn
   have hpk:Sp.pk (Sp.numT n ++ r) = c.toNat:=by rw [e]; rfl
   have hcc:c.toNat = 45 ∨ (48 ≤ c.toNat ∧ c.toNat ≤ 57):=by
    rcases hc with rfl | hc
    ·exact Or.inl rfl
    ·unfold Sp.isD at hc; simp at hc; exact Or.inr hc
   unfold Sp.val
   rw [hpk,if_neg (by omega),if_neg (by omega),if_neg (by omega),if_pos hcc,hq]
  ·have hj:=lstAll_join (σ:=List Sp.V × Sp.Fl) 91 93 (Or.inl rfl) (Sp.elem (Sp.val f (lv + 1))) (fun i s=>s.1 = es.take i ∧ (Sp.OkF d x fl → Sp.OkF d x s.2)) r (es.map (Sp.can f)) ([],(fl.1,(max fl.2.1 lv,fl.2.2))) (by
    rintro i hi ⟨a,fl1⟩ rest ⟨ha,hf⟩ hrest
    rw [List.length_map] at hi
    simp only at ha hf
    subst ha
    rw [List.getElem_map]
    obtain ⟨fl2,h1,h2⟩:=ih (lv + 1) es[i] (hes _ (List.getElem_mem hi)) fl1 rest hrest
    unfold Sp.elem
    simp only
    rw [h1]
    exact ⟨_,rfl,(List.take_succ_eq_append_getElem hi).symm,fun ho=>h2 (hf ho)⟩) (by
    intro y hy
    obtain ⟨e,he,rfl⟩:=List.mem_map.1 hy
    exact gd_hd (hes e he)) ⟨by simp,fun ho=>ok_lift hlv ho ho.2.2⟩
   obtain ⟨⟨es',fl'⟩,h1,h2,h3⟩:=hj
   rw [List.length_map,List.take_length] at h2
   simp only at h2 h3
   subst h2
   refine ⟨fl',?_,h3⟩
   rw [Sp.can_arr]
   have e1:91 :: (Sp.joinC (es'.map (Sp.can f)) ++ [93]) ++ r = 91 :: (Sp.joinC (es'.map (Sp.can f)) ++ 93 :: r):=by simp
   rw [e1]
   unfold Sp.val
   rw [show Sp.pk (91 :: (Sp.joinC (es'.map (Sp.can f)) ++ 93 :: r)) = 91 from rfl,if_neg (by decide),if_pos rfl,h1]
  ·have hk:∀ p ∈ es,∃ s,p.1 = .string s:=fun p hpm=>let ⟨⟨s,hs,_⟩,_⟩:=hes p hpm; ⟨s,hs⟩
   have hj:=lstAll_join (σ:=Sp.V × Sp.Fl) 123 125 (Or.inr rfl) (Sp.memb (Sp.val f (lv + 1))) (fun i s=>s.1 = Sp.vObj (es.take i) ∧ (Sp.OkF d x fl → Sp.OkF d x s.2)) r (es.map (Sp.entT f)) (Sp.vObj [],(fl.1,(max fl.2.1 lv,fl.2.2))) (by
    rintro i hi ⟨a,fl1⟩ rest ⟨ha,hf⟩ hrest
    rw [List.length_map] at hi
    simp only at ha hf
    subst ha
    rw [List.getElem_map]
    obtain ⟨⟨k,hki,hut⟩,hg⟩:=hes es[i] (List.getElem_mem hi)
    obtain ⟨fl2,h1,h2⟩:=ih (lv + 1) es[i].2 hg fl1 rest hrest
    obtain ⟨q1,q2⟩:=put_next hp hk hi hki
    have e1:Sp.entT f es[i] ++ rest = Sp.quoT k ++ (58 :: (Sp.can f es[i].2 ++ rest)):=by
     unfold Sp.entT
     rw [hki]
     simp [strOf]
    rw [e1]
    unfold Sp.memb
    rw [quo_quoT hut]
    simp only
    rw [show Sp.skB (58 :: (Sp.can f es[i].2 ++ rest)) = 58 :: (Sp.can f es[i].2 ++ rest) from rfl,if_pos (by rfl),List.tail_cons,(gd_hd hg).skB,h1]
    simp only
    rw [q1,q2,Bool.or_false]
    exact ⟨_,rfl,rfl,fun ho=>h2 (hf ho)⟩) (by
    intro y hy
    obtain ⟨e,he,rfl⟩:=List.mem_map.1 hy
    exact ⟨34,_,rfl,by decide,by decide,by decide⟩) ⟨rfl,fun ho=>ok_lift hlv ho ho.2.2⟩
   obtain ⟨⟨v',fl'⟩,h1,h2,h3⟩:=hj
   rw [List.length_map,List.take_length] at h2
   simp only at h2 h3
   subst h2
   refine ⟨fl',?_,h3⟩
   rw [obj_text hp hk]
   have e1:123 :: (Sp.joinC (es.map (Sp.entT f)) ++ [125]) ++ r = 123 :: (Sp.joinC (es.map (Sp.entT f)) ++ 125 :: r):=by simp
   rw [e1]
   unfold Sp.val
   rw [show Sp.pk (123 :: (Sp.joinC (es.map (Sp.entT f)) ++ 125 :: r)) = 123 from rfl,if_pos rfl,h1]
theorem read_gd {t:Sp.By} {d x:Int} {v:Sp.V} (h:Sp.readTo t d x = (0,some v)):Sp.gd d x top 1 v:=by
 unfold Sp.readTo at h
 split at h
 ·injection h with h1 h2; cases h2
 ·split at h
  ·injection h with h1 h2; cases h2
  ·rename_i v2 r fl hv
   split at h
   ·split at h
    ·injection h with h1 h2; cases h2
    ·rename_i k1
     split at h
     ·injection h with h1 h2; cases h2
     ·rename_i k2
      split at h
      ·injection h with h1 h2; cases h2
      ·rename_i k3
       injection h with h1 h2
       injection h2 with h2
       subst h2
       exact (val_gd d x _ _ _ _ _ _ _ hv ⟨by simpa using k1,by omega,by omega⟩).2
   ·injection h with h1 h2; cases h2
theorem reread {d x:Int} {v:Sp.V} (hg:Sp.gd d x top 1 v) (hx0:0 ≤ x) (hx:x ≤ 1000000) (a b:Sp.By) (ha:∀ l,Sp.skB (a ++ l) = Sp.skB l) (hb:Sp.skB b = []) (hnd:Sp.Nd b) (hl:(a ++ (Sp.can top v ++ b)).length ≤ 2000) :
  Sp.readTo (a ++ (Sp.can top v ++ b)) d x = (0,some v):=by
 have hd0:1 ≤ d:=by
  have hgg:∀ f,Sp.gd d x f 1 v → 1 ≤ d:=by
   intro f h
   cases f with
   | zero=>cases h
   | succ f=>exact h.1
  exact hgg top hg
 obtain ⟨fl',h1,h2⟩:=val_can hx top 1 v hg (false,(0,0)) b hnd
 obtain ⟨k1,k2,k3⟩:=h2 ⟨rfl,by simp only; omega,hx0⟩
 rw [readTo_some (by omega) (by rw [ha,(gd_hd hg).skB]; exact h1),hb,if_pos (show ([]:Sp.By).isEmpty = true from rfl),k1,if_neg (by decide),if_neg (by omega),if_neg (by omega)]
end Go.Proofs.YtdpomdelmdofmaaGreatDoor

namespace Go.Proofs.YtdpomdelmdofmaaGreatDoor
open Go.RowKit Go.Maps
namespace Sp
def dgs:By:=[48,49,50,51,52,53,54,55,56,57]
def ixf (acc:Nat) (l:By):Nat:=l.foldl (fun a c=>a * 10 + (c.toNat - 48)) acc
def idx (t:By):Option Nat :=
 if t = [] ∨ (1 < t.length ∧ t[0]? = some 48) ∨ t.all (dgs.contains ·) = false then none else some (min (ixf 0 t) 9223372036854775807)
theorem idx_none {t:By} (h:t = [] ∨ (1 < t.length ∧ t[0]? = some 48) ∨ t.all (dgs.contains ·) = false):idx t = none:=by unfold idx; rw [if_pos h]
theorem idx_some {t:By} (h:¬ (t = [] ∨ (1 < t.length ∧ t[0]? = some 48) ∨ t.all (dgs.contains ·) = false)):idx t = some (min (ixf 0 t) 9223372036854775807):=by unfold idx; rw [if_neg h]
theorem dgs_iff (b:UInt8) (h:dgs.contains b = true):48 ≤ b.toNat ∧ b.toNat ≤ 57:=by
 simp only [dgs,List.contains_eq_mem,List.mem_cons,List.not_mem_nil,or_false,decide_eq_true_eq] at h
 rcases h with rfl | rfl | rfl | rfl | rfl | rfl | rfl | rfl | rfl | rfl <;> decide
end Sp
namespace Sp
def child (d:V) (t:By):Except Nat V:=match d with
 | .map es=>if Maps.has (.map es:V) (.string t) = true then .ok ((DataW.map es).atKey (.string t) .nil) else .error 11
 | .slice es _=>match idx t with
  | none=>.error 12
  | some i=>match es[i]? with
   | some e=>.ok e
   | none=>.error 11
 | _=>.error 11
end Sp
namespace Sp
def find (d:V):List By → Except Nat V
 | []=>.ok d
 | t :: r=>match child d t with
  | .ok e=>find e r
  | .error c=>.error c
end Sp
namespace Sp
def une:By → Option By
 | []=>some []
 | c :: r=>if c = 126 then (match r with
  | 48 :: q=>(une q).map (126 :: ·)
  | 49 :: q=>(une q).map (47 :: ·)
  | _=>none)
  else (une r).map (c :: ·)
theorem une_eq (c:UInt8) (r:By):une (c :: r) = if c = 126 then (match r with
  | 48 :: q=>(une q).map (126 :: ·)
  | 49 :: q=>(une q).map (47 :: ·)
  | _=>none)
  else (une r).map (c :: ·):=by
 match r with
 | []=>rfl
 | b :: q =>
  by_cases h0:b = 48
  ·subst h0; rfl
  ·by_cases h1:b = 49
   ·subst h1; rfl
   ·conv=>lhs; unfold une
    rfl
def ahd (l:By):By:=l.takeWhile (fun c=>c != 126)
end Sp
namespace Sp
def pcs:By → List By
 | []=>[[]]
 | c :: r=>if c = 47 then [] :: pcs r else match pcs r with
  | p :: ps=>(c :: p) :: ps
  | []=>[[c]]
def ahs (l:By):By:=l.takeWhile (fun c=>c != 47)
def keysOf:List By → Option (List By)
 | []=>some []
 | t :: r=>match une t with
  | none=>none
  | some k=>(keysOf r).map (k :: ·)
def toks (l:By):Option (List By):=if Lib.validD l = true then (match pcs l with
 | [] :: r=>keysOf r
 | _=>none) else none
end Sp
noncomputable def veq (a b:Sp.V):Bool:=@decide (a = b) (Classical.propDecidable _)
theorem veq_t {a b:Sp.V} (h:a = b):veq a b = true:=by unfold veq; exact @decide_eq_true _ (Classical.propDecidable _) h
theorem veq_f {a b:Sp.V} (h:a ≠ b):veq a b = false:=by unfold veq; exact @decide_eq_false _ (Classical.propDecidable _) h
end Go.Proofs.YtdpomdelmdofmaaGreatDoor

namespace Go.Proofs.YtdpomdelmdofmaaGreatDoor
open Go.RowKit Go.Maps
namespace Sp
def pos (d:V) (t:By):Option Nat:=match d with
 | .map es=>es.findIdx? (fun p=>p.1.sameKey (.string t))
 | .slice es _=>match idx t with
  | none=>none
  | some i=>if i < es.length then some i else none
 | _=>none
def vkids (d:V):List V:=match d with
 | .map es=>es.map Prod.snd
 | .slice es _=>es
 | _=>[]
def posn:V → List By → Option (List Nat)
 | _,[]=>some []
 | d,t :: r=>match pos d t with
  | none=>none
  | some i=>match (vkids d)[i]? with
   | none=>none
   | some e=>(posn e r).map (i :: ·)
def vsub:List Nat → V → Option V
 | [],d=>some d
 | i :: r,d=>match (vkids d)[i]? with
  | none=>none
  | some e=>vsub r e
def slot (n:Nat) (t:By):Except Nat Nat :=
 if t = [45] then .ok n else match idx t with
  | none=>.error 12
  | some i=>if n < i then .error 11 else .ok i
def lins {α:Type} (i:Nat) (c:α) (l:List α):List α:=l.take i ++ c :: l.drop i
def ldel {α:Type} (i:Nat) (l:List α):List α:=l.take i ++ l.drop (i + 1)
def mput {α:Type} (k:Lit) (c:DataW α) (es:List (Lit × DataW α)):List (Lit × DataW α):=DataW.insert (k,c) (es.filter fun p=>!p.1.sameKey k)
def mdel {α:Type} (k:Lit) (es:List (Lit × DataW α)):List (Lit × DataW α):=es.filter fun p=>!p.1.sameKey k
def ved (F:List V → List V) (G:List (Lit × V) → List (Lit × V)) (d:V):V:=match d with
 | .slice es y=>.slice (F es) y
 | .map es=>.map (G es)
 | d=>d
def insV (i:Nat) (k:By) (x:V):V → V:=ved (lins i x) (mput (.string k) x)
def remV (i:Nat) (k:By):V → V:=ved (ldel i) (mdel (.string k))
def setV (i:Nat) (k:By) (x:V):V → V:=ved (fun es=>es.set i x) (mput (.string k) x)
def vkid (i:Nat) (x:V) (d:V):V:=match d with
 | .slice es y=>.slice (es.set i x) y
 | .map es=>.map (es.modify i fun p=>(p.1,x))
 | d=>d
def vput:List Nat → V → V → V
 | [],x,_=>x
 | i :: r,x,d=>match (vkids d)[i]? with
  | some e=>vkid i (vput r x e) d
  | none=>d
def dmax:List Int → Int
 | []=>0
 | x :: r=>max x (dmax r)
def dep:Nat → V → Int
 | 0,_=>0
 | f + 1,d=>match d with
  | .slice es _=>1 + dmax (es.map (dep f))
  | .map es=>1 + dmax (es.map fun p=>dep f p.2)
  | _=>1
end Sp
end Go.Proofs.YtdpomdelmdofmaaGreatDoor

namespace Go.Proofs.YtdpomdelmdofmaaGreatDoor
open Go.RowKit Go.Maps
namespace Sp
abbrev Opn:=Nat × List By × V
abbrev Inv:=Option (List Opn)
abbrev Doc:=Option (V × Inv)
abbrev St:=Int × By × By
abbrev Ans:=Nat × Nat × By
abbrev Op2:=Nat × List By × List By × V
def add_:By:=[97,100,100]
def remove_:By:=[114,101,109,111,118,101]
def replace_:By:=[114,101,112,108,97,99,101]
def move_:By:=[109,111,118,101]
def copy_:By:=[99,111,112,121]
def test_:By:=[116,101,115,116]
def op_:By:=[111,112]
def path_:By:=[112,97,116,104]
def from_:By:=[102,114,111,109]
def value_:By:=[118,97,108,117,101]
def pMem (d:V) (k:By):Option V:=match d with
 | .map es=>if Maps.has (.map es:V) (.string k) = true then some ((DataW.map es).atKey (.string k) .nil) else none
 | _=>none
def pStrOf:Option V → Option By
 | some (.lit (.string s))=>some s
 | _=>none
def pPtrOf (d:Option V):Option (List By):=match pStrOf d with
 | some s=>toks s
 | none=>none
def kindOf (nm:By) (hv hf:Bool):Option Nat :=
 if nm = remove_ then some 1
 else if nm = add_ then (if hv then some 0 else none)
 else if nm = replace_ then (if hv then some 2 else none)
 else if nm = test_ then (if hv then some 5 else none)
 else if nm = move_ then (if hf then some 3 else none)
 else if nm = copy_ then (if hf then some 4 else none)
 else none
def pItem (d:V):Option Op2:=match pPtrOf (pMem d path_) with
 | none=>none
 | some p=>match kindOf ((pStrOf (pMem d op_)).getD []) (pMem d value_).isSome (pPtrOf (pMem d from_)).isSome with
  | none=>none
  | some k=>some (k,p,(pPtrOf (pMem d from_)).getD [],(pMem d value_).getD .nil)
def pItems:Nat → List V → Except Nat (List Op2)
 | _,[]=>.ok []
 | i,d :: r=>match pItem d with
  | none=>.error i
  | some o=>match pItems (i + 1) r with
   | .ok l=>.ok (o :: l)
   | .error c=>.error c
def pread (d:V):Except Nat (List Op2):=match d with
 | .slice es _=>pItems 0 es
 | _=>.error 0
def way (d:V) (s:List By):List Nat:=(posn d s).getD []
def noB:By:=[]
def addAt (d:V) (s:List By) (t:By) (n x:V):Except Nat (V × List Opn):=match n with
 | .map es=>if Maps.has (.map es:V) (.string t) = true then .ok (vput (way d s) (setV 0 t x (.map es)) d,[(2,s ++ [t],(DataW.map es).atKey (.string t) .nil)])
   else .ok (vput (way d s) (insV 0 t x (.map es)) d,[(1,s ++ [t],.nil)])
 | .slice es y=>match slot es.length t with
  | .error c=>.error c
  | .ok i=>.ok (vput (way d s) (insV i noB x (.slice es y)) d,[(1,s ++ [Lib.itoa (i:Int)],.nil)])
 | _=>.error 11
def pSplit (p:List By):Option (List By × By):=match p.getLast? with
 | none=>none
 | some t=>some (p.dropLast,t)
def dadd (d:V) (p:List By) (x:V):Except Nat (V × List Opn):=match pSplit p with
 | none=>.ok (x,[(2,[],d)])
 | some (s,t)=>match find d s with
  | .error c=>.error c
  | .ok n=>addAt d s t n x
def drem (d:V) (p:List By):Except Nat (V × List Opn):=match pSplit p with
 | none=>.error 11
 | some (s,t)=>match find d s with
  | .error c=>.error c
  | .ok n=>match child n t with
   | .error c=>.error c
   | .ok e=>.ok (vput (way d s) (remV ((idx t).getD 0) t n) d,[(0,p,e)])
def drep (d:V) (p:List By) (x:V):Except Nat (V × List Opn):=match pSplit p with
 | none=>.ok (x,[(2,[],d)])
 | some (s,t)=>match find d s with
  | .error c=>.error c
  | .ok n=>match child n t with
   | .error c=>.error c
   | .ok e=>.ok (vput (way d s) (setV ((idx t).getD 0) t x n) d,[(2,p,e)])
def leads (p q:List By):Bool:=decide (q.length < p.length) && (p.take q.length == q)
def dmove (d:V) (q p:List By):Except Nat (V × List Opn):=match find d q with
 | .error c=>.error c
 | .ok e=>if q = p then .ok (d,[]) else if leads p q then .error 13 else match drem d q with
  | .error c=>.error c
  | .ok (d1,j1)=>match dadd d1 p e with
   | .error c=>.error c
   | .ok (d2,j2)=>.ok (d2,j1 ++ j2)
def dcopy (d:V) (q p:List By):Except Nat (V × List Opn):=match find d q with
 | .error c=>.error c
 | .ok e=>dadd d p e
noncomputable def dtest (d:V) (p:List By) (x:V):Except Nat (V × List Opn):=match find d p with
 | .error c=>.error c
 | .ok e=>if veq e x = true then .ok (d,[]) else .error 14
noncomputable def do1 (d:V) (o:Op2):Except Nat (V × List Opn) :=
 if o.1 = 0 then dadd d o.2.1 o.2.2.2 else if o.1 = 1 then drem d o.2.1 else if o.1 = 2 then drep d o.2.1 o.2.2.2
 else if o.1 = 3 then dmove d o.2.2.1 o.2.1 else if o.1 = 4 then dcopy d o.2.2.1 o.2.1 else dtest d o.2.1 o.2.2.2
noncomputable def meas (dp:Int) (d:V):Nat:=if dp < dep top d then 7 else if 20000 < (can top d).length then 4 else 0
noncomputable def dops (dp:Int):Nat → V → List Opn → List Op2 → Except (Nat × Nat) (V × List Opn)
 | _,d,j,[]=>.ok (d,j)
 | i,d,j,o :: r=>match do1 d o with
  | .error c=>.error (c,i)
  | .ok (d',j')=>if meas dp d' = 0 then dops dp (i + 1) d' (j ++ j') r else .error (meas dp d',i)
def escT1 (c:UInt8):By:=if c = 126 then [126,48] else if c = 47 then [126,49] else [c]
def tokT (t:By):By:=t.flatMap escT1
def ptxt (p:List By):By:=p.flatMap fun t=>47 :: tokT t
def opName (k:Nat):By:=if k = 0 then add_ else if k = 1 then remove_ else replace_
def elemV (o:Opn):V:=if o.1 = 1 then vObj [(.string op_,vStr (opName o.1)),(.string path_,vStr (ptxt o.2.1))]
 else vObj [(.string op_,vStr (opName o.1)),(.string path_,vStr (ptxt o.2.1)),(.string value_,o.2.2)]
def ptext (l:List Opn):By:=can top (vArr (l.map elemV))
end Sp
end Go.Proofs.YtdpomdelmdofmaaGreatDoor
