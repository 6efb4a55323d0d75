/-
  Walk of Child.
-/
import Derived.Test.YtdpomdelmdofmaaGreatDoorPart20
import Derived.Test.YtdpomdelmdofmaaGreatDoorPart01
namespace Go.Proofs.YtdpomdelmdofmaaGreatDoor
open Go.RowKit Go.Maps
def RepE (F:Nat → Prop) (w:World) (v:Value) (d:Sp.V):Prop:=∃ f,Rep f F w v d
def Out (F:Nat → Prop) (r:Except Nat Sp.V) (e:Ending) (w':World):Prop:=match r with
 | .ok d=>∃ v,e = .returned (.tuple #[v,.int .i64 0]) ∧ RepE F w' v d
 | .error c=>e = .returned (.tuple #[.pointer none,.int .i64 c])
theorem tkey (s:Sp.By) (h:s.length ≤ 1048576):keyOf Tryz.prog 9 (.string ⟨s.toArray⟩) = some (.string s):=by
 have:=Go.WideMaps.keyOf_string_mk Tryz.underlying9 (s:=⟨s.toArray⟩) (by rw [bs_size]; unfold maxLen; omega)
 simpa using this
section
variable {w:World} {b:Nat} {F:Nat → Prop} {t:Sp.By}
set_option maxHeartbeats 4000000 in
theorem child_leaf {k:Nat} (hk:k < 5) {n:Sp.Nm} {s:Sp.By} {sl mp:Value} (h:VB w b k n s sl mp) :
  Calls Tryz.prog 111 #[.pointer (some ⟨b,0,none⟩),.string ⟨t.toArray⟩] w fun e w'=>e = .returned (.tuple #[.pointer none,.int .i64 11]) ∧ Below w.heap.size w w':=by
 have c0:=h.c0
 clear h
 have e5:((k:Int) == 5) = false:=by rw [beq_eq_false_iff_ne]; omega
 have e6:((k:Int) == 6) = false:=by rw [beq_eq_false_iff_ne]; omega
 go_enter Tryz.func111,Tryz.ntmps111
 go_wp2_with (fail)
 go_ret2
 exact ⟨rfl,Below.refl _ _⟩
set_option maxRecDepth 100000 in
set_option maxHeartbeats 8000000 in
theorem child_obj {f:Nat} {m n:Nat} {D:List (Lit × DataW Value)} {es:List (Lit × Sp.V)} (ht:t.length ≤ 1048576) (h:VB w b 6 n0 [] (.slice none 0 0) (.map (some m))) (ho:w.ownsMap Tryz.prog 9 RV m n (.map D)) (hp:Pt (Rep f F w) D es) :
  Calls Tryz.prog 111 #[.pointer (some ⟨b,0,none⟩),.string ⟨t.toArray⟩] w fun e w'=>Out F (Sp.child (Sp.vObj es) t) e w' ∧ Below w.heap.size w w':=by
 have hml:=hide mlaw
 have hmz:=hide (fun w=>mzero w)
 have c0:=h.c0
 have c6:=h.c6
 have hkl:=hide (tkey t ht)
 have HH:=hp.has (.string t)
 obtain ⟨R,hR⟩:∃ R,R = Sp.child (Sp.vObj es) t:=⟨_,rfl⟩
 rw [← hR]
 unfold Sp.child Sp.vObj at hR
 simp only at hR
 cases hh:Maps.has (.map D:DataW Value) (.string t) with
 | false =>
  rw [hh] at HH
  rw [← HH,if_neg (by decide)] at hR
  have HOUT:=hide (show Out F R (.returned (.tuple #[.pointer none,.int .i64 11])) w by rw [hR]; rfl)
  have HO:=hide ho
  have HHH:=hide hh
  clear hp h hR ho hh HH
  go_enter Tryz.func111,Tryz.ntmps111
  go_wp2_with (first | (at_lookup; refine wpList_lookup_own_ok _ rfl _ _ 109 rfl 9 80 (unhide hml) Tryz.underlying109 RV (unhide hmz _) (.held (.pointer none)) [] rfl m n (.map D) rfl (unhide HO) _ _ rfl (unhide hkl) ?_; intro v2 ps2 hv2; rw [unhide HHH]))
  go_ret2
  exact ⟨unhide HOUT,Below.refl _ _⟩
 | true =>
  rw [hh] at HH
  rw [← HH,if_pos rfl] at hR
  obtain ⟨x,e4,hrep⟩:=hp.at (.string t) hh
  have HOUT:=hide (show Out F R (.returned (.tuple #[x,.int .i64 0])) w by rw [hR]; exact ⟨_,rfl,_,hrep⟩)
  have HO:=hide ho
  have HHH:=hide hh
  clear hp h hR ho hh HH
  go_enter Tryz.func111,Tryz.ntmps111
  go_wp2_with (first | (at_lookup; refine wpList_lookup_own_ok _ rfl _ _ 109 rfl 9 80 (unhide hml) Tryz.underlying109 RV (unhide hmz _) (.held (.pointer none)) [] rfl m n (.map D) rfl (unhide HO) _ _ rfl (unhide hkl) ?_; intro v2 ps2 hv2; rw [unhide HHH]; obtain ⟨rfl,_⟩:=rv_held hv2 (e4 _)))
  go_ret2
  exact ⟨unhide HOUT,Below.refl _ _⟩
theorem child_arr_none {es:List Sp.V} (h:Sp.idx t = none):Sp.child (Sp.vArr es) t = .error 12:=by unfold Sp.child Sp.vArr; simp only [h]
theorem child_arr_in {es:List Sp.V} {i:Nat} (h:Sp.idx t = some i) (hi:i < es.length):Sp.child (Sp.vArr es) t = .ok es[i]:=by unfold Sp.child Sp.vArr; simp only [h,List.getElem?_eq_getElem hi]
theorem child_arr_out {es:List Sp.V} {i:Nat} (h:Sp.idx t = some i) (hi:¬ i < es.length):Sp.child (Sp.vArr es) t = .error 11:=by unfold Sp.child Sp.vArr; simp only [h,List.getElem?_eq_none (Nat.le_of_not_lt hi)]
set_option maxRecDepth 100000 in
set_option maxHeartbeats 8000000 in
theorem child_arr {f:Nat} {sl:Value} {ps:List Value} {es:List Sp.V} (ht:t.length ≤ 1048576) (hr:Rng w) (h:VB w b 5 n0 [] sl (.map none)) (ho:w.ownsRow 0 80 1 sl ps.length ps) (ha:Al (Rep f F w) ps es) :
  Calls Tryz.prog 111 #[.pointer (some ⟨b,0,none⟩),.string ⟨t.toArray⟩] w fun e w'=>Out F (Sp.child (Sp.vArr es) t) e w' ∧ Below w.heap.size w w':=by
 have c0:=h.c0
 have c5:=h.c5
 have hbl:=h.lt
 have hal:=ha.length
 have hI:=hide (Index_any t w ht hr)
 obtain ⟨N,hN⟩:∃ N,N = ps.length:=⟨_,rfl⟩
 obtain ⟨R,hR⟩:∃ R,R = Sp.child (Sp.vArr es) t:=⟨_,rfl⟩
 rw [← hR]
 have hmx:=owns_max ho
 cases hi:Sp.idx t with
 | none =>
  have HOUT:=hide (fun w'=>show Out F R (.returned (.tuple #[.pointer none,.int .i64 12])) w' by rw [hR,child_arr_none hi]; rfl)
  rw [hi] at hI
  clear ho ha h hR hal hr hi hmx c5
  go_enter Tryz.func111,Tryz.ntmps111
  go_wp2_with (fail)
  refine (unhide hI).mono ?_
  rintro e w2 ⟨rfl,hb⟩
  unfold idxV
  go_wp2_with (fail)
  go_ret2
  exact ⟨unhide HOUT _,hb⟩
 | some i =>
  rw [hi] at hI
  by_cases hin:i < ps.length
  ·obtain ⟨g,cap,rfl,a1,a2,a3,hc⟩:=owns_cell1 ho (by omega)
   have HOUT:=hide (fun w' (hb:Below w.heap.size w w')=>show Out F R (.returned (.tuple #[ps[i],.int .i64 0])) w' by
    rw [hR,child_arr_in hi (by omega)]
    exact ⟨_,rfl,f,(ha.get i hin (by omega)).bel hb⟩)
   have hci:=hc i hin
   have hn1:(N:Int) ≤ 9223372036854775807:=by unfold maxLen at hmx; omega
   have hlt:(i:Int) < (N:Int):=by omega
   generalize ps[i] = pv at *
   have HC:=hide hci
   have HC5:=hide c5
   rw [← hN] at c5 a1
   have HC5:=hide c5
   clear ho ha hR hal hr hi hmx hc hci c5
   go_enter Tryz.func111,Tryz.ntmps111
   go_wp2_with (fail)
   refine (unhide hI).mono ?_
   rintro e w2 ⟨rfl,hb⟩
   have q5:=(hb.cell (p:=⟨b,5,none⟩) hbl).trans (unhide HC5)
   have qi:=(hb.cell (p:=⟨g,i,none⟩) a3).trans (unhide HC)
   have HB:=hide hb
   clear hb hN hin h
   unfold idxV
   go_wp2_with (fail)
   go_ret2
   exact ⟨unhide HOUT _ (unhide HB),unhide HB⟩
  ·have HOUT:=hide (fun w'=>show Out F R (.returned (.tuple #[.pointer none,.int .i64 11])) w' by rw [hR,child_arr_out hi (by omega)]; rfl)
   obtain ⟨g,cap,rfl⟩:=slice_form ho
   have hlt:¬ (i:Int) < (N:Int):=by omega
   rw [← hN] at c5
   have HC5:=hide c5
   clear ho ha hR hal hr hi hmx c5
   go_enter Tryz.func111,Tryz.ntmps111
   go_wp2_with (fail)
   refine (unhide hI).mono ?_
   rintro e w2 ⟨rfl,hb⟩
   have q5:=(hb.cell (p:=⟨b,5,none⟩) hbl).trans (unhide HC5)
   have HB:=hide hb
   clear hb hN hin h
   unfold idxV
   go_wp2_with (fail)
   go_ret2
   exact ⟨unhide HOUT _,unhide HB⟩
end
theorem Child_any {F:Nat → Prop} {w:World} {v:Value} {d:Sp.V} {t:Sp.By} (ht:t.length ≤ 1048576) (hr:Rng w) (h:RepE F w v d) :
  Calls Tryz.prog 111 #[v,.string ⟨t.toArray⟩] w fun e w'=>Out F (Sp.child d t) e w' ∧ Below w.heap.size w w':=by
 obtain ⟨f,h⟩:=h
 cases f with
 | zero=>exact h.elim
 | succ f =>
  obtain ⟨p,rfl,_,h⟩:=h
  rcases h with ⟨k,hk,rfl,h⟩ | ⟨n,rfl,h,_⟩ | ⟨s,rfl,h⟩ | ⟨es,sl,ps,rfl,h,ho,_,hal⟩ | ⟨es,m,n,D,rfl,h,_,ho,hp⟩
  ·exact child_leaf (k:=k) (by omega) h
  ·exact child_leaf (k:=3) (by omega) h
  ·exact child_leaf (k:=4) (by omega) h
  ·exact child_arr ht hr h ho hal
  ·exact child_obj ht h ho hp
end Go.Proofs.YtdpomdelmdofmaaGreatDoor

namespace Go.Proofs.YtdpomdelmdofmaaGreatDoor
open Go.RowKit
def TokAt (w:World) (g o:Nat) (l:List Sp.By):Prop:=g < w.heap.size ∧ ∀ k (hk:k < l.length),w.cell? ⟨g,o + k,none⟩ = some (.string ⟨l[k].toArray⟩)
def Toks (w:World) (v:Value) (l:List Sp.By):Prop :=
 (l = [] ∧ ∃ a c,v = .slice a 0 c ∧ c ≤ maxLen) ∨ ∃ g o cap,v = .slice (some ⟨g,o,none⟩) l.length cap ∧ l.length ≤ cap ∧ cap ≤ maxLen ∧ TokAt w g o l
theorem Toks.bel {w w':World} {v:Value} {l:List Sp.By} (h:Toks w v l) (hb:Below w.heap.size w w'):Toks w' v l:=by
 rcases h with h | ⟨g,o,cap,rfl,h1,h2,hg,hc⟩
 ·exact Or.inl h
 ·exact Or.inr ⟨g,o,cap,rfl,h1,h2,Nat.lt_of_lt_of_le hg hb.size,fun k hk=>(hb.cell (p:=⟨g,o + k,none⟩) hg).trans (hc k hk)⟩
end Go.Proofs.YtdpomdelmdofmaaGreatDoor

namespace Go.Proofs.YtdpomdelmdofmaaGreatDoor
open Go.RowKit
theorem child_err {d:Sp.V} {t:Sp.By} {c:Nat} (h:Sp.child d t = .error c):c = 11 ∨ c = 12:=by
 unfold Sp.child at h
 split at h
 ·split at h
  ·cases h
  ·injection h with h; exact Or.inl h.symm
 ·split at h
  ·injection h with h; exact Or.inr h.symm
  ·split at h
   ·cases h
   ·injection h with h; exact Or.inl h.symm
 ·injection h with h; exact Or.inl h.symm
set_option maxRecDepth 100000 in
set_option maxHeartbeats 8000000 in
theorem Find_any {F:Nat → Prop} {w:World} {v pv:Value} {d:Sp.V} {l:List Sp.By} (hl:∀ t ∈ l,t.length ≤ 1048576) (hn:l.length ≤ 1048576) (hr:Rng w) (h:RepE F w v d) (hp:Toks w pv l) :
  Calls Tryz.prog 81 #[pv,v] w fun e w'=>Out F (Sp.find d l) e w' ∧ Below w.heap.size w w':=by
 rcases hp with ⟨rfl,a,c,rfl,_⟩ | ⟨g,o,cap,rfl,_,_,a1,hc⟩
 ·have HH:=hide h
  clear hl hn hr h
  go_enter Tryz.func81,Tryz.ntmps81
  go_wp2_with (fail)
  refine wp_loop_rounds 1 ?_
  rw [rounds_succ]
  go_wp2_with (fail)
  go_ret2
  exact ⟨⟨_,rfl,unhide HH⟩,Below.refl _ _⟩
 obtain ⟨N,hN⟩:∃ N,N = l.length:=⟨_,rfl⟩
 obtain ⟨R,hR⟩:∃ R,R = Sp.find d l:=⟨_,rfl⟩
 rw [← hR,← hN]
 have hn1:(N:Int) ≤ 1048576:=by omega
 have HL:=hide hl
 have HC:=hide hc
 have HR:=hide hr
 have HH:=hide h
 have HN:=hide hN
 have HRR:=hide hR
 clear hl hc hr h hN hR hn
 go_enter Tryz.func81,Tryz.ntmps81
 go_wp2_with (fail)
 go_loopw [6,14] (fun a i wr=>∃ (k:Nat) (d':Sp.V),k ≤ N ∧ i = .int .i64 k ∧ RepE F wr a d' ∧ Hid (Sp.find d l = Sp.find d' (l.drop k)) ∧ Below w.heap.size w wr) (fun _ i _=>N - (intOf i).toNat)
 case atStart=>exact ⟨0,d,by omega,rfl,unhide HH,rfl,Below.refl _ _⟩
 case round =>
  obtain ⟨k,d',hk,rfl,hrep,heq,hb⟩:=hrel
  have HB:=hide hb
  have HREP:=hide hrep
  by_cases hlt:k < N
  ·have h1:k < l.length:=by have:=unhide HN; omega
   have hdrop:l.drop k = l[k] :: l.drop (k + 1):=List.drop_eq_getElem_cons h1
   have q:=(hb.cell (p:=⟨g,o + k,none⟩) a1).trans (unhide HC k h1)
   have hcall:=hide (Child_any (F:=F) (t:=l[k]) (unhide HL _ (List.getElem_mem h1)) ((unhide HR).kept hb) hrep)
   have hlt2:(k:Int) < (N:Int):=by omega
   rw [hdrop] at heq
   have HEQ:=hide (show Sp.find d l = (match Sp.child d' l[k] with | .ok e=>Sp.find e (l.drop (k + 1)) | .error c=>.error c) from heq)
   generalize l[k] = tk at *
   clear heq hb hrep hdrop h1
   go_wp2_with (fail)
   refine (unhide hcall).mono ?_
   rintro e w2 ⟨ho,hb2⟩
   have HB2:=hide ((unhide HB).trans (hb2.mono (unhide HB).size))
   clear hb2 hcall q
   cases hch:Sp.child d' tk with
   | ok d2 =>
    rw [hch] at ho
    obtain ⟨v2,rfl,hv2⟩:=ho
    have HV2:=hide hv2
    have HE2:=hide (show Sp.find d l = Sp.find d2 (l.drop (k + 1)) by have h9:=unhide HEQ; rw [hch] at h9; exact h9)
    clear hv2 hch
    go_wp2_with (fail)
    exact ⟨⟨k + 1,d2,by omega,by go_num,unhide HV2,unhide HE2,unhide HB2⟩,by simp only [intOf]; omega⟩
   | error c =>
    rw [hch] at ho
    have ho2:e = .returned (.tuple #[.pointer none,.int .i64 c]):=ho
    subst ho2
    have HOUT:=hide (show Out F R (.returned (.tuple #[.pointer none,.int .i64 c])) w2 by
     have h9:=unhide HEQ; rw [hch] at h9; rw [unhide HRR,h9]; rfl)
    have hc12:=child_err hch
    have e1:((c:Int) == 0) = false:=by rw [beq_eq_false_iff_ne]; omega
    have e2:((c:Int) != 0) = true:=by rw [bne_iff_ne]; omega
    clear hch ho hc12
    go_wp2_with (fail)
    go_ret2
    exact ⟨unhide HOUT,unhide HB2⟩
  ·have hlt2:¬ (k:Int) < (N:Int):=by omega
   have HOUT:=hide (show ∀ a,RepE F wr a d' → Out F R (.returned (.tuple #[a,.int .i64 0])) wr from fun a ha=>by
    rw [unhide HRR,show Sp.find d l = Sp.find d' (l.drop k) from heq,List.drop_eq_nil_of_le (by have:=unhide HN; omega)]
    exact ⟨_,rfl,ha⟩)
   clear heq hb hrep
   go_wp2_with (fail)
   go_ret2
   exact ⟨unhide HOUT _ (unhide HREP),unhide HB⟩
end Go.Proofs.YtdpomdelmdofmaaGreatDoor

namespace Go.Proofs.YtdpomdelmdofmaaGreatDoor
open Go.RowKit Go.Maps
def OutG (P:World → Value → Sp.V → Prop) (r:Except Nat Sp.V) (e:Ending) (w':World):Prop:=match r with
 | .ok d=>∃ v,e = .returned (.tuple #[v,.int .i64 0]) ∧ P w' v d
 | .error c=>e = .returned (.tuple #[.pointer none,.int .i64 c])
section
variable {w:World} {b:Nat} {t:Sp.By}
set_option maxRecDepth 100000 in
set_option maxHeartbeats 8000000 in
theorem childD_obj {m n:Nat} {D:List (Lit × DataW Value)} {R:Ending → Prop} (ht:t.length ≤ 1048576) (h:VB w b 6 n0 [] (.slice none 0 0) (.map (some m))) (ho:w.ownsMap Tryz.prog 9 RV m n (.map D))
  (hno:Maps.has (.map D:DataW Value) (.string t) = false → R (.returned (.tuple #[.pointer none,.int .i64 11])))
  (hyes:Maps.has (.map D:DataW Value) (.string t) = true → ∃ x,(∀ z,(DataW.map D).atKey (.string t) z = .held x) ∧ R (.returned (.tuple #[x,.int .i64 0]))) :
  Calls Tryz.prog 111 #[.pointer (some ⟨b,0,none⟩),.string ⟨t.toArray⟩] w fun e w'=>R e ∧ Below w.heap.size w w':=by
 have hml:=hide mlaw
 have hmz:=hide (fun w=>mzero w)
 have c0:=h.c0
 have c6:=h.c6
 have hkl:=hide (tkey t ht)
 cases hh:Maps.has (.map D:DataW Value) (.string t) with
 | false =>
  have HOUT:=hide (hno hh)
  have HO:=hide ho
  have HHH:=hide hh
  clear hno hyes h ho hh
  go_enter Tryz.func111,Tryz.ntmps111
  go_wp2_with (first | (at_lookup; refine wpList_lookup_own_ok _ rfl _ _ 109 rfl 9 80 (unhide hml) Tryz.underlying109 RV (unhide hmz _) (.held (.pointer none)) [] rfl m n (.map D) rfl (unhide HO) _ _ rfl (unhide hkl) ?_; intro v2 ps2 hv2; rw [unhide HHH]))
  go_ret2
  exact ⟨unhide HOUT,Below.refl _ _⟩
 | true =>
  obtain ⟨x,e4,hR⟩:=hyes hh
  have HOUT:=hide hR
  have HO:=hide ho
  have HHH:=hide hh
  clear hno hyes h ho hh hR
  go_enter Tryz.func111,Tryz.ntmps111
  go_wp2_with (first | (at_lookup; refine wpList_lookup_own_ok _ rfl _ _ 109 rfl 9 80 (unhide hml) Tryz.underlying109 RV (unhide hmz _) (.held (.pointer none)) [] rfl m n (.map D) rfl (unhide HO) _ _ rfl (unhide hkl) ?_; intro v2 ps2 hv2; rw [unhide HHH]; obtain ⟨rfl,_⟩:=rv_held hv2 (e4 _)))
  go_ret2
  exact ⟨unhide HOUT,Below.refl _ _⟩
set_option maxRecDepth 100000 in
set_option maxHeartbeats 8000000 in
theorem childD_arr {sl:Value} {ps:List Value} {R:Ending → Prop} (ht:t.length ≤ 1048576) (hr:Rng w) (h:VB w b 5 n0 [] sl (.map none)) (ho:w.ownsRow 0 80 1 sl ps.length ps)
  (hnone:Sp.idx t = none → R (.returned (.tuple #[.pointer none,.int .i64 12])))
  (hin:∀ i (hi:i < ps.length),Sp.idx t = some i → R (.returned (.tuple #[ps[i],.int .i64 0])))
  (hout:∀ i,Sp.idx t = some i → ps.length ≤ i → R (.returned (.tuple #[.pointer none,.int .i64 11]))) :
  Calls Tryz.prog 111 #[.pointer (some ⟨b,0,none⟩),.string ⟨t.toArray⟩] w fun e w'=>R e ∧ Below w.heap.size w w':=by
 have c0:=h.c0
 have c5:=h.c5
 have hbl:=h.lt
 have hI:=hide (Index_any t w ht hr)
 obtain ⟨N,hN⟩:∃ N,N = ps.length:=⟨_,rfl⟩
 have hmx:=owns_max ho
 cases hi:Sp.idx t with
 | none =>
  have HOUT:=hide (hnone hi)
  rw [hi] at hI
  clear ho h hr hi hmx c5 hnone hin hout
  go_enter Tryz.func111,Tryz.ntmps111
  go_wp2_with (fail)
  refine (unhide hI).mono ?_
  rintro e w2 ⟨rfl,hb⟩
  unfold idxV
  go_wp2_with (fail)
  go_ret2
  exact ⟨unhide HOUT,hb⟩
 | some i =>
  rw [hi] at hI
  by_cases hin2:i < ps.length
  ·obtain ⟨g,cap,rfl,a1,a2,a3,hc⟩:=owns_cell1 ho (by omega)
   have HOUT:=hide (hin i hin2 hi)
   have hci:=hc i hin2
   have hn1:(N:Int) ≤ 9223372036854775807:=by unfold maxLen at hmx; omega
   have hlt:(i:Int) < (N:Int):=by omega
   clear hnone hin hout
   generalize ps[i] = pv at *
   have HC:=hide hci
   rw [← hN] at c5 a1
   have HC5:=hide c5
   clear ho hr hi hmx hc hci c5
   go_enter Tryz.func111,Tryz.ntmps111
   go_wp2_with (fail)
   refine (unhide hI).mono ?_
   rintro e w2 ⟨rfl,hb⟩
   have q5:=(hb.cell (p:=⟨b,5,none⟩) hbl).trans (unhide HC5)
   have qi:=(hb.cell (p:=⟨g,i,none⟩) a3).trans (unhide HC)
   have HB:=hide hb
   clear hb hN hin2 h
   unfold idxV
   go_wp2_with (fail)
   go_ret2
   exact ⟨unhide HOUT,unhide HB⟩
  ·have HOUT:=hide (hout i hi (by omega))
   obtain ⟨g,cap,rfl⟩:=slice_form ho
   have hlt:¬ (i:Int) < (N:Int):=by omega
   rw [← hN] at c5
   have HC5:=hide c5
   clear ho hr hi hmx c5 hnone hin hout
   go_enter Tryz.func111,Tryz.ntmps111
   go_wp2_with (fail)
   refine (unhide hI).mono ?_
   rintro e w2 ⟨rfl,hb⟩
   have q5:=(hb.cell (p:=⟨b,5,none⟩) hbl).trans (unhide HC5)
   have HB:=hide hb
   clear hb hN hin2 h
   unfold idxV
   go_wp2_with (fail)
   go_ret2
   exact ⟨unhide HOUT,unhide HB⟩
end
structure ChildG (G:List Sp.By → World → Value → Sp.V → Prop):Prop where
 call:∀ (s:List Sp.By) (w:World) (v:Value) (d:Sp.V) (t:Sp.By),t.length ≤ 1048576 → Rng w → G s w v d → Calls Tryz.prog 111 #[v,.string ⟨t.toArray⟩] w fun e w'=>OutG (G (s ++ [t])) (Sp.child d t) e w' ∧ Below w.heap.size w w'
set_option maxRecDepth 100000 in
set_option maxHeartbeats 8000000 in
theorem FindG {G:List Sp.By → World → Value → Sp.V → Prop} (hG:ChildG G) {w:World} {v pv:Value} {d:Sp.V} {l:List Sp.By} (hl:∀ t ∈ l,t.length ≤ 1048576) (hn:l.length ≤ 1048576) (hr:Rng w) (h:G [] w v d) (hp:Toks w pv l) :
  Calls Tryz.prog 81 #[pv,v] w fun e w'=>OutG (G l) (Sp.find d l) e w' ∧ Below w.heap.size w w':=by
 rcases hp with ⟨rfl,a,c,rfl,_⟩ | ⟨g,o,cap,rfl,_,_,a1,hc⟩
 ·have HH:=hide h
  clear hl hn hr h hG
  go_enter Tryz.func81,Tryz.ntmps81
  go_wp2_with (fail)
  refine wp_loop_rounds 1 ?_
  rw [rounds_succ]
  go_wp2_with (fail)
  go_ret2
  exact ⟨⟨_,rfl,unhide HH⟩,Below.refl _ _⟩
 obtain ⟨N,hN⟩:∃ N,N = l.length:=⟨_,rfl⟩
 obtain ⟨R,hR⟩:∃ R,R = Sp.find d l:=⟨_,rfl⟩
 rw [← hR,← hN]
 have hn1:(N:Int) ≤ 1048576:=by omega
 have HL:=hide hl
 have HC:=hide hc
 have HR:=hide hr
 have HH:=hide h
 have HG:=hide hG
 have HN:=hide hN
 have HRR:=hide hR
 clear hl hc hr h hN hR hn hG
 go_enter Tryz.func81,Tryz.ntmps81
 go_wp2_with (fail)
 go_loopw [6,14] (fun a i wr=>∃ (k:Nat) (d':Sp.V),k ≤ N ∧ i = .int .i64 k ∧ G (l.take k) wr a d' ∧ Hid (Sp.find d l = Sp.find d' (l.drop k)) ∧ Below w.heap.size w wr) (fun _ i _=>N - (intOf i).toNat)
 case atStart=>exact ⟨0,d,by omega,rfl,unhide HH,rfl,Below.refl _ _⟩
 case round =>
  obtain ⟨k,d',hk,rfl,hrep,heq,hb⟩:=hrel
  have HB:=hide hb
  have HREP:=hide hrep
  by_cases hlt:k < N
  ·have h1:k < l.length:=by have:=unhide HN; omega
   have hdrop:l.drop k = l[k] :: l.drop (k + 1):=List.drop_eq_getElem_cons h1
   have q:=(hb.cell (p:=⟨g,o + k,none⟩) a1).trans (unhide HC k h1)
   have hcall:=hide ((unhide HG).call _ _ _ _ l[k] (unhide HL _ (List.getElem_mem h1)) ((unhide HR).kept hb) hrep)
   have hlt2:(k:Int) < (N:Int):=by omega
   rw [hdrop] at heq
   have HT:=hide (show l.take (k + 1) = l.take k ++ [l[k]] from List.take_succ_eq_append_getElem h1)
   have HEQ:=hide (show Sp.find d l = (match Sp.child d' l[k] with | .ok e=>Sp.find e (l.drop (k + 1)) | .error c=>.error c) from heq)
   generalize l[k] = tk at *
   clear heq hb hrep hdrop h1
   go_wp2_with (fail)
   refine (unhide hcall).mono ?_
   rintro e w2 ⟨ho,hb2⟩
   have HB2:=hide ((unhide HB).trans (hb2.mono (unhide HB).size))
   clear hb2 hcall q
   cases hch:Sp.child d' tk with
   | ok d2 =>
    rw [hch] at ho
    obtain ⟨v2,rfl,hv2⟩:=ho
    have HV2:=hide (show G (l.take (k + 1)) w2 v2 d2 by rw [unhide HT]; exact hv2)
    have HE2:=hide (show Sp.find d l = Sp.find d2 (l.drop (k + 1)) by have h9:=unhide HEQ; rw [hch] at h9; exact h9)
    clear hv2 hch
    go_wp2_with (fail)
    exact ⟨⟨k + 1,d2,by omega,by go_num,unhide HV2,unhide HE2,unhide HB2⟩,by simp only [intOf]; omega⟩
   | error c =>
    rw [hch] at ho
    have ho2:e = .returned (.tuple #[.pointer none,.int .i64 c]):=ho
    subst ho2
    have HOUT:=hide (show OutG (G l) R (.returned (.tuple #[.pointer none,.int .i64 c])) w2 by
     have h9:=unhide HEQ; rw [hch] at h9; rw [unhide HRR,h9]; rfl)
    have hc12:=child_err hch
    have e1:((c:Int) == 0) = false:=by rw [beq_eq_false_iff_ne]; omega
    have e2:((c:Int) != 0) = true:=by rw [bne_iff_ne]; omega
    clear hch ho hc12
    go_wp2_with (fail)
    go_ret2
    exact ⟨unhide HOUT,unhide HB2⟩
  ·have hlt2:¬ (k:Int) < (N:Int):=by omega
   have HOUT:=hide (show ∀ a,G (l.take k) wr a d' → OutG (G l) R (.returned (.tuple #[a,.int .i64 0])) wr from fun a ha=>by
    rw [List.take_of_length_le (by have:=unhide HN; omega)] at ha
    rw [unhide HRR,show Sp.find d l = Sp.find d' (l.drop k) from heq,List.drop_eq_nil_of_le (by have:=unhide HN; omega)]
    exact ⟨_,rfl,ha⟩)
   clear heq hb hrep
   go_wp2_with (fail)
   go_ret2
   exact ⟨unhide HOUT _ (unhide HREP),unhide HB⟩
end Go.Proofs.YtdpomdelmdofmaaGreatDoor
