/-
  Walk of unescape.
-/
import Derived.Test.YtdpomdelmdofmaaGreatDoorPart38
import Derived.Test.YtdpomdelmdofmaaGreatDoorPart40
import Derived.Lib.SplitLaws
namespace Go.Proofs.YtdpomdelmdofmaaGreatDoor
open Go.RowKit
theorem Mx.kept {w w':World} (h:Mx w) (hb:Below w.heap.size w w'):Mx w':=by
 obtain ⟨m,h⟩:=h
 exact ⟨m,(hb.cell (p:=⟨6,0,none⟩) (Lib.lt_of_cell h)).trans h⟩
theorem cut_any (l:Sp.By) (w:World) (h:l.length ≤ 1048576) (hm:Mx w) :
  Calls Tryz.prog 145 #[.string ⟨l.toArray⟩,.string ⟨#[126]⟩] w fun e w'=>e = .returned (.tuple #[.string ⟨(Lib.cut l [126]).1.toArray⟩,.string ⟨(Lib.cut l [126]).2.1.toArray⟩,.bool (Lib.cut l [126]).2.2]) ∧ ∃ n,w' = w.drewN n:=by
 obtain ⟨m,hm⟩:=hm
 exact Tryz.strings_Cut ⟨l.toArray⟩ ⟨#[126]⟩ m w (by rw [bs_size]; omega) hm
theorem ba_of {x:ByteArray} {l:Sp.By} (h:x.data.toList = l):x = ⟨l.toArray⟩:=by
 cases x with
 | mk d=>simp at h; subst h; simp
theorem ext_drop (l:Sp.By) (k:Nat):(⟨l.toArray⟩:ByteArray).extract k l.length = ⟨(l.drop k).toArray⟩:=by
 apply ba_of
 by_cases hk:k ≤ l.length
 ·have h1:=ext_list ⟨l.toArray⟩ k (l.length - k)
  rw [show k + (l.length - k) = l.length by omega] at h1
  rw [h1]
  show (l.drop k).take (l.length - k) = l.drop k
  exact List.take_of_length_le (by simp)
 ·rw [List.drop_eq_nil_of_le (by omega)]
  apply List.eq_nil_of_length_eq_zero
  simp
  omega
def uneEnd (o:Option Sp.By) (e:Ending):Prop:=match o with
 | some s=>e = .returned (.tuple #[.string ⟨s.toArray⟩,.bool true])
 | none=>e = .returned (.tuple #[.string ⟨#[]⟩,.bool false])
set_option maxRecDepth 100000 in
set_option maxHeartbeats 8000000 in
theorem unescape_any {l:Sp.By} {w:World} (hn:l.length ≤ 1048576) (hT:PTab w) (hm:Mx w) :
  Calls Tryz.prog 110 #[.string ⟨l.toArray⟩] w fun e w'=>uneEnd (Sp.une l) e ∧ Below w.heap.size w w':=by
 have hba:=(Below.refl w.heap.size w).alloc (Nat.le_refl _) (.cells #[.pointer none,.slice none 0 0] 119)
 have h0:Bu w.heap.size w.heap.size [] (w.alloc (.cells #[.pointer none,.slice none 0 0] 119)):=Or.inl ⟨Nat.le_refl _,.slice none 0 0,by show (w.heap.push _)[w.heap.size]? = _; simp,World.ownsRow_nil _ _ _ _,by simp [Value.ownBlock]⟩
 have HT:=hide hT
 have HM:=hide hm
 have HBA:=hide hba
 have H0:=hide h0
 have HN:=hide hn
 clear hT hm hba h0 hn
 go_enter Tryz.func110,Tryz.ntmps110
 go_wp2_with (fail)
 go_loopw [0] (fun a wr=>∃ l' acc,a = .string ⟨l'.toArray⟩ ∧ Hid (Bu w.heap.size w.heap.size acc wr) ∧ Hid (Below w.heap.size w wr) ∧ Hid (Sp.une l = (Sp.une l').map (acc ++ ·)) ∧ acc.length + l'.length ≤ l.length)
  (fun a _=>match a with | .string s=>s.size | _=>0)
 case atStart=>exact ⟨l,[],rfl,H0,HBA,by show Sp.une l = _; cases Sp.une l <;> rfl,by simp⟩
 case round =>
  obtain ⟨l',acc,rfl,HBU,HB,HE,hlen⟩:=hrel
  have hn:=unhide HN
  have hcut:=hide (cut_any l' wr (by omega) ((unhide HM).kept (unhide HB)))
  have hsz:=(unhide HB).size
  rcases idx_126 l' with ⟨h1,h2⟩ | ⟨h1,r,h2⟩
  ·rw [cut_no h1] at hcut
   have HV:=hide (show Sp.une l = some (acc ++ l') by rw [unhide HE,une_no h2]; rfl)
   clear h1 h2
   go_wp2_with (fail)
   refine (unhide hcut).mono ?_
   rintro e w2 ⟨rfl,q,rfl⟩
   go_wp2_with (fail)
   refine (wStr l' (Bu_below (unhide HBU) (below_drN (Below.refl _ _) q)) (by omega) (by show w.heap.size ≤ wr.heap.size; exact hsz)).mono ?_
   rintro e w3 ⟨rfl,hbu3,hf3⟩
   have hb3:=(below_drN (unhide HB) q).trans hf3.low
   go_wp2_with (fail)
   refine (Tryz.Builder_String_any w.heap.size w.heap.size _ w3 hbu3 (by have:=hb3.size; omega)).mono ?_
   rintro e w4 ⟨rfl,hb4⟩
   go_wp2_with (fail)
   go_ret2
   exact ⟨by rw [unhide HV]; simp [uneEnd],hb3.trans hb4⟩
  ·rw [cut_yes h1 h2] at hcut
   have hal:=ahd_le l'
   have hue:=une_plain (126 :: r) (ahd_mem l')
   rw [← h2,une_esc] at hue
   have hl2:(Sp.ahd l').length + (r.length + 1) = l'.length:=by
    have:=congrArg List.length h2
    simp only [List.length_append,List.length_cons] at this
    omega
   have HUE:=hide hue
   have H2:=hide h2
   generalize Sp.ahd l' = p at *
   clear hue h1 h2
   go_wp2_with (fail)
   refine (unhide hcut).mono ?_
   rintro e w2 ⟨rfl,q,rfl⟩
   go_wp2_with (fail)
   refine (wStr p (Bu_below (unhide HBU) (below_drN (Below.refl _ _) q)) (by omega) (by show w.heap.size ≤ wr.heap.size; exact hsz)).mono ?_
   rintro e w3 ⟨rfl,hbu3,hf3⟩
   have HB3:=hide ((below_drN (unhide HB) q).trans hf3.low)
   have HBU3:=hide hbu3
   have hx:(⟨l'.toArray⟩:ByteArray).extract p.length l'.length = ⟨(126 :: r).toArray⟩:=by
    rw [ext_drop,unhide H2]; simp
   have hszX:(⟨l'.toArray⟩:ByteArray).size = l'.length:=bs_size _
   have hle:(p.length:Int) ≤ ((⟨l'.toArray⟩:ByteArray).size:Int):=by rw [hszX]; omega
   clear hbu3 hf3
   go_wp2_with (fail)
   refine (pescape_any (126 :: r) w3 ((unhide HT).kept (unhide HB3))).mono ?_
   rintro e w4 ⟨rfl,hb4⟩
   have HB4:=hide ((unhide HB3).trans (hb4.mono (unhide HB3).size))
   have HBU4:=hide (Bu_below (unhide HBU3) hb4)
   clear hb4
   cases hpe:Sp.pes (126 :: r) with
   | none =>
    have HV:=hide (show Sp.une l = none by
     have h9:=unhide HUE
     rw [hpe] at h9
     rw [unhide HE,h9]; rfl)
    clear hpe
    unfold pesV
    go_wp2_with (fail)
    go_ret2
    exact ⟨by rw [unhide HV]; rfl,unhide HB4⟩
   | some c =>
    have HV:=hide (show Sp.une l = (Sp.une ((126 :: r).drop 2)).map (acc ++ p ++ [c] ++ ·) by
     have h9:=unhide HUE
     rw [hpe] at h9
     rw [unhide HE,h9]
     cases Sp.une ((126 :: r).drop 2) <;> simp)
    have hr1:1 ≤ r.length:=by
     cases r with
     | nil=>cases hpe
     | cons _ _=>simp
    have hx2:(⟨(126 :: r).toArray⟩:ByteArray).extract 2 (126 :: r).length = ⟨((126 :: r).drop 2).toArray⟩:=ext_drop _ _
    have hs2:(⟨(126 :: r).toArray⟩:ByteArray).size = r.length + 1:=by rw [bs_size]; rfl
    clear hpe hx
    unfold pesV
    go_wp2_with (fail)
    refine (wByte c _ rfl (unhide HBU4) (by simp only [List.length_append]; omega) (unhide HB4).size).mono ?_
    rintro e w5 ⟨rfl,hbu5,hf5⟩
    have HBU5:=hide hbu5
    have HB5:=hide ((unhide HB4).trans hf5.low)
    have hle2:(2:Int) ≤ ((⟨(126 :: r).toArray⟩:ByteArray).size:Int):=by rw [hs2]; omega
    clear hbu5 hf5
    go_wp2_with (fail)
    rw [show ((⟨(126 :: r).toArray⟩:ByteArray).extract 2 (r.length + 1)) = ⟨((126 :: r).drop 2).toArray⟩ from hx2]
    refine ⟨⟨(126 :: r).drop 2,acc ++ p ++ [c],rfl,HBU5,HB5,HV,?_⟩,?_⟩
    ·simp only [List.length_append,List.length_drop,List.length_cons,List.length_nil]; omega
    ·show (⟨((126 :: r).drop 2).toArray⟩:ByteArray).size < (⟨l'.toArray⟩:ByteArray).size
     rw [bs_size,bs_size]
     simp only [List.length_drop,List.length_cons]; omega
end Go.Proofs.YtdpomdelmdofmaaGreatDoor

namespace Go.Proofs.YtdpomdelmdofmaaGreatDoor
open Go.RowKit
theorem pcs_ne (l:Sp.By):Sp.pcs l ≠ []:=by
 cases l with
 | nil=>intro h; cases h
 | cons c r =>
  unfold Sp.pcs
  split
  ·intro h; cases h
  ·split <;> (intro h; cases h)
theorem idx_47:∀ l:Sp.By,(Lib.index l [47] = -1 ∧ l.count 47 = 0 ∧ Sp.pcs l = [l]) ∨ (Lib.index l [47] = (Sp.ahs l).length ∧ ∃ r,l = Sp.ahs l ++ 47 :: r ∧ l.count 47 = r.count 47 + 1 ∧ Sp.pcs l = Sp.ahs l :: Sp.pcs r)
 | []=>Or.inl ⟨rfl,rfl,rfl⟩
 | b :: l=>by
  by_cases hb:b = 47
  ·subst hb
   exact Or.inr ⟨by simp [Lib.index,Sp.ahs],l,by simp [Sp.ahs],by simp,by simp [Sp.ahs,Sp.pcs]⟩
  ·have h1:Sp.ahs (b :: l) = b :: Sp.ahs l:=by simp [Sp.ahs,hb]
   have h2:Lib.index (b :: l) [47] = if Lib.index l [47] == -1 then -1 else Lib.index l [47] + 1:=by
    have:([47]:List UInt8).isPrefixOf (b :: l) = false:=by
     simp only [List.isPrefixOf]
     simp [Ne.symm hb]
    simp only [Lib.index,this]
    rfl
   have h3:(b :: l).count 47 = l.count 47:=by rw [List.count_cons]; simp [hb]
   have h4:Sp.pcs (b :: l) = match Sp.pcs l with | p :: ps=>(b :: p) :: ps | []=>[[b]]:=by
    conv=>lhs; unfold Sp.pcs
    rw [if_neg hb]
    cases Sp.pcs l <;> rfl
   rw [h1,h2,h3,h4]
   rcases idx_47 l with ⟨e1,e2,e3⟩ | ⟨e1,r,e2,e3,e4⟩
   ·rw [e1,e2,e3]; exact Or.inl ⟨rfl,rfl,rfl⟩
   ·refine Or.inr ⟨?_,r,by rw [List.cons_append,← e2],e3,by rw [e4]⟩
    rw [e1,if_neg (by simp)]
    simp
theorem splitK_succ (sep:Sp.By) (k:Nat) (l:Sp.By):Lib.splitK sep 0 (k + 1) l = if Lib.index l sep == -1 then [l] else l.take ((Lib.index l sep).toNat + 0) :: Lib.splitK sep 0 k (l.drop ((Lib.index l sep).toNat + sep.length)):=rfl
theorem split_pcs:∀ (n:Nat) (l:Sp.By),l.length ≤ n → Lib.splitK [47] 0 (l.count 47) l = Sp.pcs l
 | n,l,hn=>by
  rcases idx_47 l with ⟨e1,e2,e3⟩ | ⟨e1,r,e2,e3,e4⟩
  ·rw [e2,e3]; rfl
  ·have hr:r.length < l.length:=by
    have:=congrArg List.length e2
    simp only [List.length_append,List.length_cons] at this
    omega
   rw [e3,e4]
   match n with
   | 0=>omega
   | n + 1 =>
    rw [← split_pcs n r (by omega)]
    rw [splitK_succ,e1,if_neg (by simp)]
    simp only [Int.toNat_natCast,Nat.add_zero]
    have t1:l.take (Sp.ahs l).length = Sp.ahs l:=by
     have h1:(Sp.ahs l ++ 47 :: r).take (Sp.ahs l).length = Sp.ahs l:=List.take_left' rfl
     rw [← e2] at h1; exact h1
    have t2:l.drop ((Sp.ahs l).length + [(47:UInt8)].length) = r:=by
     have h1:(Sp.ahs l ++ 47 :: r).drop ((Sp.ahs l).length + 1) = r:=by
      rw [← List.drop_drop,List.drop_left' rfl]; rfl
     rw [← e2] at h1; exact h1
    rw [t1,t2]
end Go.Proofs.YtdpomdelmdofmaaGreatDoor

namespace Go.Proofs.YtdpomdelmdofmaaGreatDoor
open Go.RowKit
theorem valid_any (l:Sp.By) (w:World) (h:l.length ≤ 1048576) (hT:Laid w) :
  Calls Tryz.prog 108 #[.string ⟨l.toArray⟩] w fun e w'=>e = .returned (.bool (Lib.validD l)) ∧ Below w.heap.size w w' :=
 Any.utf8_ValidString Tryz.lays196 ⟨l.toArray⟩ w (by rw [bs_size]; omega) hT.utf8
def strs (ps:List Sp.By):List Value:=ps.map fun p=>.string ⟨p.toArray⟩
theorem cnt_47 (l:Sp.By):Lib.countB ⟨l.toArray⟩ ⟨#[47]⟩ = l.count 47:=Lib.count_one 47 l
theorem split_strs (l:Sp.By):(Lib.splitB ⟨#[47]⟩ 0 (l.count 47) ⟨l.toArray⟩).map Value.string = strs (Sp.pcs l):=by
 have h:=Lib.splitB_data ⟨#[47]⟩ 0 (l.count 47) ⟨l.toArray⟩
 have h2:(Lib.splitB ⟨#[47]⟩ 0 (l.count 47) ⟨l.toArray⟩).map (·.data.toList) = Sp.pcs l:=h.trans (split_pcs l.length l (Nat.le_refl _))
 unfold strs
 rw [← h2,List.map_map]
 apply List.map_congr_left
 intro x _
 show Value.string x = Value.string ⟨x.data.toList.toArray⟩
 rw [← ba_of (x:=x) rfl]
theorem pcs_len (l:Sp.By):(Sp.pcs l).length = l.count 47 + 1:=by
 have h:=congrArg List.length (split_strs l)
 have h1:=Lib.splitB_all ⟨#[47]⟩ (by decide) 0 (l.count 47) ⟨l.toArray⟩ (cnt_47 l)
 rw [List.length_map] at h
 unfold strs at h
 rw [List.length_map] at h
 omega
theorem split_any (l:Sp.By) (w:World) (h:l.length ≤ 1048576) (hm:Mx w) :
  Calls Tryz.prog 109 #[.string ⟨l.toArray⟩,.string ⟨#[47]⟩] w fun e w'=>e = .returned (.slice (some ⟨w.heap.size,0,none⟩) (Sp.pcs l).length (Sp.pcs l).length) ∧ w' = w.alloc (.cells (strs (Sp.pcs l)).toArray 9):=by
 obtain ⟨m,hm⟩:=hm
 have c:=Any.strings_Split Tryz.lays146 (by kernel_rfl) ⟨l.toArray⟩ ⟨#[47]⟩ m w (by rw [bs_size]; omega) hm (by decide)
 rw [cnt_47,split_strs,← pcs_len] at c
 exact c
end Go.Proofs.YtdpomdelmdofmaaGreatDoor

namespace Go.Proofs.YtdpomdelmdofmaaGreatDoor
open Go.RowKit
def SRow (w:World) (g:Nat) (ps:List Sp.By):Prop:=w.heap[g]? = some (.cells (strs ps).toArray 9 (0,0))
theorem SRow.cell {w:World} {g:Nat} {ps:List Sp.By} (h:SRow w g ps) (k:Nat) (hk:k < ps.length):w.cell? ⟨g,k,none⟩ = some (.string ⟨ps[k].toArray⟩):=by
 simp [World.cell?,show w.heap[g]? = _ from h,strs,hk]
theorem SRow.lt {w:World} {g:Nat} {ps:List Sp.By} (h:SRow w g ps):g < w.heap.size:=(Array.getElem?_eq_some_iff.1 h).1
theorem SRow.bel {w w':World} {g:Nat} {ps:List Sp.By} (h:SRow w g ps) (hb:Below w.heap.size w w'):SRow w' g ps:=(hb.block g h.lt).trans h
theorem SRow.fz {w:World} {g:Nat} {ps:List Sp.By} (h:SRow w g ps) (k:Nat):w.frozen? ⟨g,k,none⟩ = false:=by
 simp [World.frozen?,show w.heap[g]? = _ from h]
theorem set_mid {α:Type} (v b:α) (c:List α):∀ a:List α,(a ++ b :: c).set a.length v = a ++ v :: c
 | []=>rfl
 | x :: a=>by
  show x :: (a ++ b :: c).set a.length v = _
  rw [set_mid v b c a]; rfl
theorem SRow.set {w:World} {g:Nat} {ks rest:List Sp.By} {t s:Sp.By} (h:SRow w g ([] :: (ks ++ t :: rest))):SRow (w.setCell ⟨g,1 + ks.length,none⟩ (.string ⟨s.toArray⟩)) g ([] :: ((ks ++ [s]) ++ rest)):=by
 have e:(strs ([] :: (ks ++ t :: rest))).toArray.setIfInBounds (1 + ks.length) (.string ⟨s.toArray⟩) = (strs ([] :: ((ks ++ [s]) ++ rest))).toArray:=by
  rw [List.setIfInBounds_toArray]
  congr 1
  unfold strs
  rw [Nat.add_comm,List.map_cons,List.set_cons_succ,List.map_cons,List.map_append,List.map_cons,List.append_assoc,List.map_append]
  congr 1
  have:=set_mid (Value.string ⟨s.toArray⟩) (Value.string ⟨t.toArray⟩) (rest.map fun p=>Value.string ⟨p.toArray⟩) (ks.map fun p=>Value.string ⟨p.toArray⟩)
  rw [List.length_map] at this
  rw [this]; rfl
 unfold SRow
 rw [← e]
 simp only [World.setCell,Array.getElem?_modify]
 rw [if_pos trivial,show w.heap[g]? = _ from h]; rfl
theorem keysOf_step {t:Sp.By} {rest:List Sp.By}:Sp.keysOf (t :: rest) = match Sp.une t with | none=>none | some k=>(Sp.keysOf rest).map (k :: ·):=rfl
theorem pcs_le:∀ (l:Sp.By),∀ t ∈ Sp.pcs l,t.length ≤ l.length
 | [],t,h=>by
  have:t = []:=by simpa [Sp.pcs] using h
  rw [this]; exact Nat.le_refl _
 | c :: r,t,h=>by
  unfold Sp.pcs at h
  split at h
  ·rcases List.mem_cons.1 h with e | e
   ·rw [e]; exact Nat.zero_le _
   ·exact Nat.le_succ_of_le (pcs_le r t e)
  ·split at h
   ·rename_i p ps hp
    rcases List.mem_cons.1 h with e | e
    ·rw [e]
     exact Nat.succ_le_succ (pcs_le r p (by rw [hp]; exact List.mem_cons_self ..))
    ·exact Nat.le_succ_of_le (pcs_le r t (by rw [hp]; exact List.mem_cons_of_mem _ e))
   ·rcases List.mem_cons.1 h with e | e
    ·rw [e]; simp
    ·cases e
def ptrEnd (o:Option (List Sp.By)) (e:Ending) (w':World):Prop:=match o with
 | some ks=>∃ v,e = .returned (.tuple #[v,.bool true]) ∧ Toks w' v ks
 | none=>e = .returned (.tuple #[.slice none 0 0,.bool false])
def ptrNew (lo:Nat) (o:Option (List Sp.By)) (e:Ending) (w':World):Prop:=match o with
 | some ks=>∃ v,e = .returned (.tuple #[v,.bool true]) ∧ Toks w' v ks ∧ ∀ g,v.ownBlock = some g → lo ≤ g
 | none=>e = .returned (.tuple #[.slice none 0 0,.bool false])
set_option maxRecDepth 100000 in
set_option maxHeartbeats 8000000 in
theorem pRead_new {l:Sp.By} {w:World} (hn:l.length ≤ 1048576) (hT:Laid w) (hP:PTab w) (hm:Mx w) :
  Calls Tryz.prog 80 #[.string ⟨l.toArray⟩] w fun e w'=>ptrNew w.heap.size (Sp.toks l) e w' ∧ Below w.heap.size w w':=by
 have hv:=hide (valid_any l w hn hT)
 obtain ⟨R,hR⟩:∃ R,R = Sp.toks l:=⟨_,rfl⟩
 rw [← hR]
 have HR:=hide hR
 have HM:=hide hm
 have HP:=hide hP
 clear hR hm hP hT
 cases hva:Lib.validD l with
 | false =>
  have HV:=hide (show R = none by rw [unhide HR]; unfold Sp.toks; rw [hva]; rfl)
  rw [hva] at hv
  clear hva
  go_enter Tryz.func80,Tryz.ntmps80
  go_wp2_with (fail)
  refine (unhide hv).mono ?_
  rintro e w1 ⟨rfl,hb1⟩
  go_wp2_with (fail)
  go_ret2
  exact ⟨by rw [unhide HV]; rfl,hb1⟩
 | true =>
  have HV:=hide (show R = match Sp.pcs l with | [] :: r=>Sp.keysOf r | _=>none by rw [unhide HR]; unfold Sp.toks; rw [hva]; rfl)
  rw [hva] at hv
  clear hva
  go_enter Tryz.func80,Tryz.ntmps80
  go_wp2_with (fail)
  refine (unhide hv).mono ?_
  rintro e w1 ⟨rfl,hb1⟩
  have HB1:=hide hb1
  have hsp:=hide (split_any l w1 hn ((unhide HM).kept hb1))
  clear hb1 hv
  go_wp2_with (fail)
  refine (unhide hsp).mono ?_
  rintro e w2 ⟨rfl,rfl⟩
  have HN:=hide (pcs_len l)
  have hcl:l.count 47 ≤ l.length:=List.count_le_length
  have h0:SRow (w1.alloc (.cells (strs (Sp.pcs l)).toArray 9)) w1.heap.size (Sp.pcs l):=by
   show (w1.heap.push _)[w1.heap.size]? = _; simp
  have hba:=(unhide HB1).alloc (unhide HB1).size (.cells (strs (Sp.pcs l)).toArray 9)
  have hgs:w1.heap.size < (w1.alloc (.cells (strs (Sp.pcs l)).toArray 9)).heap.size:=by simp
  have HBA:=hide hba
  have hG:=(unhide HB1).size
  clear hba
  have HTP:=hide (pcs_le l)
  cases hpc:Sp.pcs l with
  | nil=>exact absurd hpc (pcs_ne l)
  | cons t0 tks =>
   rw [hpc] at h0 HV HBA HN HTP
   have hlen:tks.length ≤ 1048576:=by have:=unhide HN; simp only [List.length_cons] at this; omega
   generalize w1.alloc (.cells (strs (t0 :: tks)).toArray 9) = w2 at *
   have c0:=h0.cell 0 (by simp)
   simp only [List.getElem_cons_zero] at c0
   have H0:=hide h0
   clear hpc h0 hsp
   cases t0 with
   | cons a q =>
    have HN1:=hide (show R = none from unhide HV)
    go_wp2_with (fail)
    go_ret2
    exact ⟨by rw [unhide HN1]; rfl,unhide HBA⟩
   | nil =>
    have HV1:=hide (show R = Sp.keysOf tks from unhide HV)
    have HTL:=hide (show ∀ t ∈ tks,t.length ≤ 1048576 from fun t ht=>Nat.le_trans (unhide HTP t (List.mem_cons_of_mem _ ht)) hn)
    clear HV
    simp only [List.length_cons]
    by_cases h00:tks = []
    ·have HN2:=hide (show R = some [] by rw [unhide HV1,h00]; rfl)
     subst h00
     simp only [List.length_nil]
     go_wp2_with (fail)
     refine wp_loop_rounds 1 ?_
     rw [rounds_succ]
     go_wp2_with (fail)
     go_ret2
     exact ⟨by rw [unhide HN2]; exact ⟨_,rfl,Or.inl ⟨rfl,_,_,rfl,by unfold maxLen; omega⟩,fun g h=>by cases h; exact hG⟩,unhide HBA⟩
    ·obtain ⟨N,hN⟩:∃ N,N = tks.length:=⟨_,rfl⟩
     have hpos:0 < N:=by rw [hN]; exact List.length_pos_iff.2 h00
     have HNN:=hide hN
     rw [← hN]
     have hn1:(N:Int) ≤ 1048576:=by omega
     have hn2:(1:Int) ≤ (N:Int) + 1:=by omega
     clear hN hlen HN h00
     go_wp2_with (fail)
     go_loopw [23] (fun i wr=>∃ (ks rest:List Sp.By),i = .int .i64 ks.length ∧ ks.length + rest.length = N ∧ Hid (SRow wr w1.heap.size ([] :: (ks ++ rest))) ∧ Hid (Below w.heap.size w wr) ∧ Hid (Sp.keysOf tks = (Sp.keysOf rest).map (ks ++ ·)) ∧ Hid (∀ t ∈ rest,t.length ≤ 1048576))
      (fun i _=>N - (intOf i).toNat)
     case atStart=>exact ⟨[],tks,rfl,by have:=unhide HNN; simp; omega,H0,HBA,by show Sp.keysOf tks = _; cases Sp.keysOf tks <;> rfl,HTL⟩
     case round =>
      obtain ⟨ks,rest,rfl,hkr,HSR,HB,HE,HT2⟩:=hrel
      cases rest with
      | nil =>
       have hkN:ks.length = N:=by simpa using hkr
       have HOUT:=hide (show ∀ cap,N ≤ cap → cap ≤ maxLen → ptrNew w.heap.size R (.returned (.tuple #[.slice (some ⟨w1.heap.size,1,none⟩) N cap,.bool true])) wr from fun cap hca hcm=>by
        rw [unhide HV1,unhide HE]
        refine ⟨_,rfl,Or.inr ⟨_,1,cap,?_,?_,hcm,(unhide HSR).lt,fun k hk=>?_⟩,fun g h=>(by cases h; exact hG)⟩
        ·simp [hkN]
        ·simp; omega
        ·have hk2:k < ks.length:=by simpa using hk
         have h9:=(unhide HSR).cell (1 + k) (by simp; omega)
         rw [h9]
         simp [Nat.add_comm 1 k])
       have hlt2:¬ ((ks.length:Nat):Int) < (N:Int):=by omega
       go_wp2_with (fail)
       go_ret2
       exact ⟨unhide HOUT _ (by omega) (by unfold maxLen; omega),unhide HB⟩
      | cons t r =>
       have hlt2:((ks.length:Nat):Int) < (N:Int):=by simp only [List.length_cons] at hkr; omega
       have c1:wr.cell? ⟨w1.heap.size,1 + ks.length,none⟩ = some (.string ⟨t.toArray⟩):=by
        rw [(unhide HSR).cell (1 + ks.length) (by simp; omega)]
        simp [Nat.add_comm 1 ks.length]
       have hcall:=hide (unescape_any (l:=t) (unhide HT2 t (by simp)) ((unhide HP).kept (unhide HB)) ((unhide HM).kept (unhide HB)))
       clear c0
       go_wp2_with (fail)
       refine (unhide hcall).mono ?_
       rintro e w3 ⟨hue,hb3⟩
       have HB3:=hide ((unhide HB).trans (hb3.mono (unhide HB).size))
       have HSR3:=hide ((unhide HSR).bel hb3)
       clear hb3 hcall c1
       cases hun:Sp.une t with
       | none =>
        rw [hun] at hue
        have hue2:e = .returned (.tuple #[.string ⟨#[]⟩,.bool false]):=hue
        subst hue2
        have HN2:=hide (show R = none by rw [unhide HV1,unhide HE,keysOf_step,hun]; rfl)
        clear hue hun
        go_wp2_with (fail)
        go_ret2
        exact ⟨by rw [unhide HN2]; rfl,unhide HB3⟩
       | some s =>
        rw [hun] at hue
        have hue2:e = .returned (.tuple #[.string ⟨s.toArray⟩,.bool true]):=hue
        subst hue2
        have HE3:=hide (show Sp.keysOf tks = (Sp.keysOf r).map ((ks ++ [s]) ++ ·) by
         rw [unhide HE,keysOf_step,hun]
         cases Sp.keysOf r <;> simp)
        have fz:=(unhide HSR3).fz (1 + ks.length)
        have c3:w3.cell? ⟨w1.heap.size,1 + ks.length,none⟩ = some (.string ⟨t.toArray⟩):=by
         rw [(unhide HSR3).cell (1 + ks.length) (by simp; omega)]
         simp [Nat.add_comm 1 ks.length]
        clear hue hun
        go_wp2_with (fail)
        refine ⟨⟨ks ++ [s],r,by simp,?_,(unhide HSR3).set,(unhide HB3).setCell (p:=⟨w1.heap.size,1 + ks.length,none⟩) hG _,HE3,fun t' ht'=>unhide HT2 t' (by simp [ht'])⟩,?_⟩
        ·simp only [List.length_append,List.length_cons,List.length_nil] at hkr ⊢; omega
        ·simp only [List.length_cons] at hkr; simp only [intOf]; omega
theorem pRead_any {l:Sp.By} {w:World} (hn:l.length ≤ 1048576) (hT:Laid w) (hP:PTab w) (hm:Mx w) :
  Calls Tryz.prog 80 #[.string ⟨l.toArray⟩] w fun e w'=>ptrEnd (Sp.toks l) e w' ∧ Below w.heap.size w w':=by
 refine (pRead_new hn hT hP hm).mono ?_
 rintro e w' ⟨h,hb⟩
 refine ⟨?_,hb⟩
 cases ho:Sp.toks l with
 | none=>rw [ho] at h; exact h
 | some ks =>
  rw [ho] at h
  obtain ⟨v,h1,h2,_⟩:=h
  exact ⟨v,h1,h2⟩
end Go.Proofs.YtdpomdelmdofmaaGreatDoor
