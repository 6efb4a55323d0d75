/-
  Walk of the reader's list, for the two items that it is called with: what an item owes stands in ItemOk.
-/
import Derived.Test.YtdpomdelmdofmaaGreatDoorMrg06
import Derived.Test.YtdpomdelmdofmaaGreatDoorMrg04
import Derived.Deep.RegionHeld3
import Derived.Deep.AppendLies
import Derived.Deep.DrawnRows
import Derived.Deep.RegionLaw
namespace Go.Proofs.YtdpomdelmdofmaaGreatDoor
section
set_option maxHeartbeats 4000000
open Go.RowKit
theorem RD.uniq {w:World} {R:Nat} {t t':ByteArray} {l l':Sp.By} {tw tw':Bool} {dp fr dp' fr':Int} (h:RD w R t l tw dp fr) (h':RD w R t' l' tw' dp' fr'):t=t'∧l=l'∧tw=tw'∧dp=dp'∧fr=fr':=by
 obtain⟨p,a,h⟩:=h
 obtain⟨p',a',h'⟩:=h'
 have e:=(show w.heap[R]? = _ from h).symm.trans (show w.heap[R]? = _ from h')
 simp at e
 obtain⟨e1,e2,e3,e4,e5⟩:=e
 subst e1
 have:p=p':=by omega
 subst this
 exact⟨rfl,a.eq.symm.trans a'.eq,e3,e4,e5⟩
structure ItemOk {σ:Type} (g:FuncId) (caps:Array Value) (R:Nat) (t:ByteArray) (N:Nat) (item:Sp.By→σ→Option (Sp.By×σ)) (I:World→Sp.By→σ→Prop) (J:World→Prop):Prop where
 rd:∀w l s,I w l s → ∃tw dp fr,RD w R t l tw dp fr
 move:∀w w' l l' s tw dp fr,I w l s→RD w R t l tw dp fr→RD w' R t l' tw dp fr→KeptX R w w'→l'.length≤l.length→I w' l' s
 out:∀w l s,I w l s→J w
 len:∀l s l' s',item l s=some (l',s')→l'.length<l.length
 call:∀w l s,I w l s→l.length<N→Calls Tryz.prog g caps w fun e w' =>
  (∃l' s',item l s=some (l',s')∧e = .returned (.bool true)∧I w' l' s')∨(item l s=none∧e = .returned (.bool false)∧J w')
def listEnd {σ:Type} (o:Option (Sp.By×σ)) (e:Ending) (w':World) (I:World→Sp.By→σ→Prop) (J:World→Prop):Prop :=
 (∃l' s',o=some (l',s')∧e = .returned (.bool true)∧I w' l' s')∨(o=none∧e = .returned (.bool false)∧J w')
theorem list_arr {σ:Type} (p0 p1 p2:Value) (op cl:UInt8) (opn cln:Int) (hopn:opn=op.toNat) (hcln:cln=cl.toNat) (R:Nat) (t:ByteArray) (N:Nat) (item:Sp.By→σ→Option (Sp.By×σ)) (I:World→Sp.By→σ→Prop) (J:World→Prop)
  (K:ItemOk 219 #[p0,p1,p2] R t N item I J) (w:World) (l:Sp.By) (s:σ) (hI:I w l s) (hN:l.length≤N) :
  Calls Tryz.prog 216 #[.pointer (some ⟨R,0,none⟩),.int .u8 opn,.int .u8 cln,.func (.func 219) #[] #[p0,p1,p2]] w fun e w'=>listEnd (Sp.lstAll op cl item l s) e w' I J:=by
 obtain⟨tw,dp,fr,hr⟩:=K.rd _ _ _ hI
 have HI:=hide hI
 have HO:=hide hopn
 have HC:=hide hcln
 clear hI hopn hcln
 by_cases k1:Sp.tk l op=true
 ·have K1:=hide k1
  have hl1:=tk_cons k1
  clear k1
  go_enter Tryz.func216,Tryz.ntmps216
  go_wp2_with (fail)
  refine (take_yes op opn (unhide HO) hr (unhide K1)).mono ?_
  rintro e w1 ⟨rfl,hr1,hk1⟩
  go_wp2_with (fail)
  refine (blanks_any hr1).mono ?_
  rintro e w2 ⟨rfl,hr2,hk2⟩
  have hsk:=Sp.skB_len l.tail
  have I2:=hide (K.move _ _ _ _ _ _ _ _ (unhide HI) hr hr2 (hk1.trans hk2) (by first|exact Nat.le_refl _|omega|(simp only[List.length_tail];omega)))
  by_cases k2:Sp.tk (Sp.skB l.tail) cl=true
  ·have K2:=hide k2
   clear k2
   go_wp2_with (fail)
   refine (take_yes cl cln (unhide HC) hr2 (unhide K2)).mono ?_
   rintro e w3 ⟨rfl,hr3,hk3⟩
   go_wp2_with (fail)
   go_ret
   refine Or.inl ⟨_,s,?_,rfl,K.move _ _ _ _ _ _ _ _ (unhide I2) hr2 hr3 hk3 (by first|exact Nat.le_refl _|omega|(simp only[List.length_tail];omega))⟩
   unfold Sp.lstAll
   rw[unhide K1,unhide K2];rfl
  ·have K2:=hide (tk_false k2)
   clear k2
   go_wp2_with (fail)
   refine (takeN cl cln (unhide HC) hr2 (unhide K2)).mono ?_
   rintro e w3 ⟨rfl,hr3,hk3⟩
   have I3:=hide (K.move _ _ _ _ _ _ _ _ (unhide I2) hr2 hr3 hk3 (by first|exact Nat.le_refl _|omega|(simp only[List.length_tail];omega)))
   have hE:Hid (Sp.lstAll op cl item l s=Sp.lst cl item ((Sp.skB l.tail).length+1) (Sp.skB l.tail) s):=by
    unfold Hid Sp.lstAll
    rw[unhide K1,unhide K2];rfl
   have hb:(Sp.skB l.tail).length<N:=by omega
   generalize Sp.skB l.tail=l2 at *
   clear hr hr1 hr2 hk1 hk2 hk3 K1 K2 HI I2 hl1 hsk hN
   go_wp2_with (fail)
   go_loopw [18] (fun _ wr=>∃ (n:Nat) (l':Sp.By) (s':σ),I wr l' s'∧l'.length<n∧l'.length<N∧Sp.lst cl item (l2.length+1) l2 s=Sp.lst cl item n l' s') (fun _ wr=>left wr R)
   case atStart=>exact⟨_,l2,s,unhide I3,Nat.lt_succ_self _,hb,rfl⟩
   case round =>
    obtain⟨n,l',s',hi,hn,hlN,he⟩:=hrel
    obtain⟨m,rfl⟩:∃m,n=m+1:=⟨n-1,by omega⟩
    obtain⟨tw,dp,fr,hr⟩:=K.rd _ _ _ hi
    have HI:=hide hi
    have HE:=hide he
    have HL:=hide hr.left
    have hsk:=Sp.skB_len l'
    clear hi he I3 hr3
    go_wp2_with (fail)
    refine (blanks_any hr).mono ?_
    rintro e w4 ⟨rfl,hr4,hk4⟩
    have I4:=hide (K.move _ _ _ _ _ _ _ _ (unhide HI) hr hr4 hk4 (by first|exact Nat.le_refl _|omega|(simp only[List.length_tail];omega)))
    go_wp2_with (fail)
    refine (K.call _ _ _ (unhide I4) (by omega)).mono ?_
    rintro e w5 hc
    rcases hc with⟨l5,s5,hit,rfl,hI5⟩|⟨hit,rfl,hJ⟩
    ·obtain⟨tw5,dp5,fr5,hr5⟩:=K.rd _ _ _ hI5
     have I5:=hide hI5
     have HIT:=hide hit
     have hl5:=K.len _ _ _ _ hit
     have hsk5:=Sp.skB_len l5
     clear hI5 hit
     go_wp2_with (fail)
     refine (blanks_any hr5).mono ?_
     rintro e w6 ⟨rfl,hr6,hk6⟩
     have I6:=hide (K.move _ _ _ _ _ _ _ _ (unhide I5) hr5 hr6 hk6 (by first|exact Nat.le_refl _|omega|(simp only[List.length_tail];omega)))
     by_cases k3:Sp.tk (Sp.skB l5) cl=true
     ·have K3:=hide k3
      clear k3
      go_wp2_with (fail)
      refine (take_yes cl cln (unhide HC) hr6 (unhide K3)).mono ?_
      rintro e w7 ⟨rfl,hr7,hk7⟩
      go_wp2_with (fail)
      go_ret
      refine Or.inl ⟨_,s5,?_,rfl,K.move _ _ _ _ _ _ _ _ (unhide I6) hr6 hr7 hk7 (by first|exact Nat.le_refl _|omega|(simp only[List.length_tail];omega))⟩
      rw[unhide hE,unhide HE,Sp.lst,unhide HIT]
      simp only
      rw[unhide K3];rfl
     ·have K3:=hide (tk_false k3)
      clear k3
      go_wp2_with (fail)
      refine (takeN cl cln (unhide HC) hr6 (unhide K3)).mono ?_
      rintro e w7 ⟨rfl,hr7,hk7⟩
      have I7:=hide (K.move _ _ _ _ _ _ _ _ (unhide I6) hr6 hr7 hk7 (by first|exact Nat.le_refl _|omega|(simp only[List.length_tail];omega)))
      by_cases k4:Sp.tk (Sp.skB l5) 44=true
      ·have K4:=hide k4
       have hl4:=tk_cons k4
       clear k4
       go_wp2_with (fail)
       refine (take_yes 44 _ rfl hr7 (unhide K4)).mono ?_
       rintro e w8 ⟨rfl,hr8,hk8⟩
       have I8:=hide (K.move _ _ _ _ _ _ _ _ (unhide I7) hr7 hr8 hk8 (by first|exact Nat.le_refl _|omega|(simp only[List.length_tail];omega)))
       go_wp2_with (fail)
       go_roundw
       case rel =>
        refine⟨m,_,s5,unhide I8,by omega,by omega,?_⟩
        rw[unhide HE,Sp.lst,unhide HIT]
        simp only
        rw[unhide K3,unhide K4];rfl
       case measure=>rw[hr8.left,unhide HL];omega
      ·have K4:=hide (tk_false k4)
       clear k4
       go_wp2_with (fail)
       refine (takeN 44 _ rfl hr7 (unhide K4)).mono ?_
       rintro e w8 ⟨rfl,hr8,hk8⟩
       go_wp2_with (fail)
       go_ret
       refine Or.inr ⟨?_,rfl,K.out _ _ _ (K.move _ _ _ _ _ _ _ _ (unhide I7) hr7 hr8 hk8 (by first|exact Nat.le_refl _|omega|(simp only[List.length_tail];omega)))⟩
       rw[unhide hE,unhide HE,Sp.lst,unhide HIT]
       simp only
       rw[unhide K3,unhide K4];rfl
    ·have HIT:=hide hit
     clear hit
     go_wp2_with (fail)
     go_ret
     refine Or.inr ⟨?_,rfl,hJ⟩
     rw[unhide hE,unhide HE,Sp.lst,unhide HIT]
 ·have K1:=hide (tk_false k1)
  clear k1
  go_enter Tryz.func216,Tryz.ntmps216
  go_wp2_with (fail)
  refine (takeN op opn (unhide HO) hr (unhide K1)).mono ?_
  rintro e w1 ⟨rfl,hr1,hk1⟩
  go_wp2_with (fail)
  go_ret
  refine Or.inr ⟨?_,rfl,K.out _ _ _ (K.move _ _ _ _ _ _ _ _ (unhide HI) hr hr1 hk1 (by first|exact Nat.le_refl _|omega|(simp only[List.length_tail];omega)))⟩
  unfold Sp.lstAll
  rw[unhide K1];rfl
theorem list_obj {σ:Type} (p0 p1 p2:Value) (op cl:UInt8) (opn cln:Int) (hopn:opn=op.toNat) (hcln:cln=cl.toNat) (R:Nat) (t:ByteArray) (N:Nat) (item:Sp.By→σ→Option (Sp.By×σ)) (I:World→Sp.By→σ→Prop) (J:World→Prop)
  (K:ItemOk 217 #[p0,p1,p2] R t N item I J) (w:World) (l:Sp.By) (s:σ) (hI:I w l s) (hN:l.length≤N) :
  Calls Tryz.prog 216 #[.pointer (some ⟨R,0,none⟩),.int .u8 opn,.int .u8 cln,.func (.func 217) #[] #[p0,p1,p2]] w fun e w'=>listEnd (Sp.lstAll op cl item l s) e w' I J:=by
 obtain⟨tw,dp,fr,hr⟩:=K.rd _ _ _ hI
 have HI:=hide hI
 have HO:=hide hopn
 have HC:=hide hcln
 clear hI hopn hcln
 by_cases k1:Sp.tk l op=true
 ·have K1:=hide k1
  have hl1:=tk_cons k1
  clear k1
  go_enter Tryz.func216,Tryz.ntmps216
  go_wp2_with (fail)
  refine (take_yes op opn (unhide HO) hr (unhide K1)).mono ?_
  rintro e w1 ⟨rfl,hr1,hk1⟩
  go_wp2_with (fail)
  refine (blanks_any hr1).mono ?_
  rintro e w2 ⟨rfl,hr2,hk2⟩
  have hsk:=Sp.skB_len l.tail
  have I2:=hide (K.move _ _ _ _ _ _ _ _ (unhide HI) hr hr2 (hk1.trans hk2) (by first|exact Nat.le_refl _|omega|(simp only[List.length_tail];omega)))
  by_cases k2:Sp.tk (Sp.skB l.tail) cl=true
  ·have K2:=hide k2
   clear k2
   go_wp2_with (fail)
   refine (take_yes cl cln (unhide HC) hr2 (unhide K2)).mono ?_
   rintro e w3 ⟨rfl,hr3,hk3⟩
   go_wp2_with (fail)
   go_ret
   refine Or.inl ⟨_,s,?_,rfl,K.move _ _ _ _ _ _ _ _ (unhide I2) hr2 hr3 hk3 (by first|exact Nat.le_refl _|omega|(simp only[List.length_tail];omega))⟩
   unfold Sp.lstAll
   rw[unhide K1,unhide K2];rfl
  ·have K2:=hide (tk_false k2)
   clear k2
   go_wp2_with (fail)
   refine (takeN cl cln (unhide HC) hr2 (unhide K2)).mono ?_
   rintro e w3 ⟨rfl,hr3,hk3⟩
   have I3:=hide (K.move _ _ _ _ _ _ _ _ (unhide I2) hr2 hr3 hk3 (by first|exact Nat.le_refl _|omega|(simp only[List.length_tail];omega)))
   have hE:Hid (Sp.lstAll op cl item l s=Sp.lst cl item ((Sp.skB l.tail).length+1) (Sp.skB l.tail) s):=by
    unfold Hid Sp.lstAll
    rw[unhide K1,unhide K2];rfl
   have hb:(Sp.skB l.tail).length<N:=by omega
   generalize Sp.skB l.tail=l2 at *
   clear hr hr1 hr2 hk1 hk2 hk3 K1 K2 HI I2 hl1 hsk hN
   go_wp2_with (fail)
   go_loopw [18] (fun _ wr=>∃ (n:Nat) (l':Sp.By) (s':σ),I wr l' s'∧l'.length<n∧l'.length<N∧Sp.lst cl item (l2.length+1) l2 s=Sp.lst cl item n l' s') (fun _ wr=>left wr R)
   case atStart=>exact⟨_,l2,s,unhide I3,Nat.lt_succ_self _,hb,rfl⟩
   case round =>
    obtain⟨n,l',s',hi,hn,hlN,he⟩:=hrel
    obtain⟨m,rfl⟩:∃m,n=m+1:=⟨n-1,by omega⟩
    obtain⟨tw,dp,fr,hr⟩:=K.rd _ _ _ hi
    have HI:=hide hi
    have HE:=hide he
    have HL:=hide hr.left
    have hsk:=Sp.skB_len l'
    clear hi he I3 hr3
    go_wp2_with (fail)
    refine (blanks_any hr).mono ?_
    rintro e w4 ⟨rfl,hr4,hk4⟩
    have I4:=hide (K.move _ _ _ _ _ _ _ _ (unhide HI) hr hr4 hk4 (by first|exact Nat.le_refl _|omega|(simp only[List.length_tail];omega)))
    go_wp2_with (fail)
    refine (K.call _ _ _ (unhide I4) (by omega)).mono ?_
    rintro e w5 hc
    rcases hc with⟨l5,s5,hit,rfl,hI5⟩|⟨hit,rfl,hJ⟩
    ·obtain⟨tw5,dp5,fr5,hr5⟩:=K.rd _ _ _ hI5
     have I5:=hide hI5
     have HIT:=hide hit
     have hl5:=K.len _ _ _ _ hit
     have hsk5:=Sp.skB_len l5
     clear hI5 hit
     go_wp2_with (fail)
     refine (blanks_any hr5).mono ?_
     rintro e w6 ⟨rfl,hr6,hk6⟩
     have I6:=hide (K.move _ _ _ _ _ _ _ _ (unhide I5) hr5 hr6 hk6 (by first|exact Nat.le_refl _|omega|(simp only[List.length_tail];omega)))
     by_cases k3:Sp.tk (Sp.skB l5) cl=true
     ·have K3:=hide k3
      clear k3
      go_wp2_with (fail)
      refine (take_yes cl cln (unhide HC) hr6 (unhide K3)).mono ?_
      rintro e w7 ⟨rfl,hr7,hk7⟩
      go_wp2_with (fail)
      go_ret
      refine Or.inl ⟨_,s5,?_,rfl,K.move _ _ _ _ _ _ _ _ (unhide I6) hr6 hr7 hk7 (by first|exact Nat.le_refl _|omega|(simp only[List.length_tail];omega))⟩
      rw[unhide hE,unhide HE,Sp.lst,unhide HIT]
      simp only
      rw[unhide K3];rfl
     ·have K3:=hide (tk_false k3)
      clear k3
      go_wp2_with (fail)
      refine (takeN cl cln (unhide HC) hr6 (unhide K3)).mono ?_
      rintro e w7 ⟨rfl,hr7,hk7⟩
      have I7:=hide (K.move _ _ _ _ _ _ _ _ (unhide I6) hr6 hr7 hk7 (by first|exact Nat.le_refl _|omega|(simp only[List.length_tail];omega)))
      by_cases k4:Sp.tk (Sp.skB l5) 44=true
      ·have K4:=hide k4
       have hl4:=tk_cons k4
       clear k4
       go_wp2_with (fail)
       refine (take_yes 44 _ rfl hr7 (unhide K4)).mono ?_
       rintro e w8 ⟨rfl,hr8,hk8⟩
       have I8:=hide (K.move _ _ _ _ _ _ _ _ (unhide I7) hr7 hr8 hk8 (by first|exact Nat.le_refl _|omega|(simp only[List.length_tail];omega)))
       go_wp2_with (fail)
       go_roundw
       case rel =>
        refine⟨m,_,s5,unhide I8,by omega,by omega,?_⟩
        rw[unhide HE,Sp.lst,unhide HIT]
        simp only
        rw[unhide K3,unhide K4];rfl
       case measure=>rw[hr8.left,unhide HL];omega
      ·have K4:=hide (tk_false k4)
       clear k4
       go_wp2_with (fail)
       refine (takeN 44 _ rfl hr7 (unhide K4)).mono ?_
       rintro e w8 ⟨rfl,hr8,hk8⟩
       go_wp2_with (fail)
       go_ret
       refine Or.inr ⟨?_,rfl,K.out _ _ _ (K.move _ _ _ _ _ _ _ _ (unhide I7) hr7 hr8 hk8 (by first|exact Nat.le_refl _|omega|(simp only[List.length_tail];omega)))⟩
       rw[unhide hE,unhide HE,Sp.lst,unhide HIT]
       simp only
       rw[unhide K3,unhide K4];rfl
    ·have HIT:=hide hit
     clear hit
     go_wp2_with (fail)
     go_ret
     refine Or.inr ⟨?_,rfl,hJ⟩
     rw[unhide hE,unhide HE,Sp.lst,unhide HIT]
 ·have K1:=hide (tk_false k1)
  clear k1
  go_enter Tryz.func216,Tryz.ntmps216
  go_wp2_with (fail)
  refine (takeN op opn (unhide HO) hr (unhide K1)).mono ?_
  rintro e w1 ⟨rfl,hr1,hk1⟩
  go_wp2_with (fail)
  go_ret
  refine Or.inr ⟨?_,rfl,K.out _ _ _ (K.move _ _ _ _ _ _ _ _ (unhide HI) hr hr1 hk1 (by first|exact Nat.le_refl _|omega|(simp only[List.length_tail];omega)))⟩
  unfold Sp.lstAll
  rw[unhide K1];rfl
end

section
open Go.RowKit
namespace Sp
abbrev A:=DataW Unit
def nd (b g:Nat) (x:A):A:=.agg [.lit (.int .i64 b),.lit (.int .i64 g),x]
def str:Nat→A→V
 | 0,_=>.nil
 | f+1,a=>match a with
  | .agg [.lit (.int _ _),.lit (.int _ _),x]=>(match x with
   | .slice al _=>vArr (al.map (str f))
   | .map es=>vObj (es.map fun p=>(p.1,str f p.2))
   | y=>y)
  | _=>.nil
def fp:Nat→A→List Nat
 | 0,_=>[]
 | f+1,a=>match a with
  | .agg [.lit (.int _ b),.lit (.int _ g),x]=>b.toNat::(match x with
   | .slice al _=>(if g=0 then [] else [g.toNat])++al.flatMap (fp f)
   | .map es=>g.toNat::es.flatMap (fun p=>fp f p.2)
   | _=>[])
  | _=>[]
theorem str_arr (f b g:Nat) (al:List A):str (f+1) (nd b g (.slice al []))=vArr (al.map (str f)):=rfl
theorem str_obj (f b g:Nat) (es:List (Lit×A)):str (f+1) (nd b g (.map es))=vObj (es.map fun p=>(p.1,str f p.2)):=rfl
theorem fp_word (f b g k:Nat):fp (f+1) (nd b g (vWord k))=[b]:=rfl
theorem fp_num (f b g:Nat) (n:Nm):fp (f+1) (nd b g (vNum n))=[b]:=rfl
theorem fp_str (f b g:Nat) (s:By):fp (f+1) (nd b g (vStr s))=[b]:=rfl
theorem fp_arr (f b g:Nat) (al:List A):fp (f+1) (nd b g (.slice al []))=b::((if g=0 then [] else [g])++al.flatMap (fp f)):=by
 show ((b:Int).toNat::((if (g:Int)=0 then [] else [(g:Int).toNat])++al.flatMap (fp f)))=_
 by_cases h:g=0
 ·subst h;rfl
 ·rw[if_neg h,if_neg (by omega)];rfl
theorem fp_obj (f b g:Nat) (es:List (Lit×A)):fp (f+1) (nd b g (.map es))=b::g::es.flatMap (fun p=>fp f p.2):=rfl
end Sp
def TRep:Nat→World→Value→Sp.A→Prop
 | 0,_,_,_=>False
 | f+1,w,v,a=>∃b g x,a=Sp.nd b g x∧v = .pointer (some ⟨b,0,none⟩) ∧
  ((∃k:Nat,k<3∧g=0∧x=Sp.vWord k∧VB w b k n0 [] (.slice none 0 0) (.map none)) ∨
   (∃n,g=0∧x=Sp.vNum n∧VB w b 3 n [] (.slice none 0 0) (.map none) ∧ -100000000≤n.2.2∧n.2.2≤100000000) ∨
   (∃s,g=0∧x=Sp.vStr s∧VB w b 4 n0 s (.slice none 0 0) (.map none)) ∨
   (∃al sl ps,x = .slice al []∧VB w b 5 n0 [] sl (.map none)∧w.ownsRow 0 80 1 sl ps.length ps∧sl.ownBlock=(if g=0 then none else some g)∧Al (TRep f w) ps al) ∨
   (∃es n D,x = .map es∧VB w b 6 n0 [] (.slice none 0 0) (.map (some g))∧w.ownsMap Tryz.prog 9 RV g n (.map D)∧Pt (TRep f w) D es))
theorem Al.mem {α β:Type} {P Q:α→β→Prop}:∀ {l:List α} {m:List β},(∀a b,b∈m→P a b→Q a b)→Al P l m→Al Q l m
 | [],[],_,_=>trivial
 | _::_,_::_,h,⟨a,b⟩=>⟨h _ _ (by simp) a,Al.mem (fun a b hb hp=>h a b (by simp[hb]) hp) b⟩
theorem Pt.mem {P Q:Value→Sp.V→Prop}:∀ {l:List (Lit×DataW Value)} {m:List (Lit×Sp.V)},(∀a p,p∈m→P a p.2→Q a p.2)→Pt P l m→Pt Q l m
 | [],[],_,_=>trivial
 | _::_,_::_,h,⟨⟨k,x,e,a⟩,b⟩=>⟨⟨k,x,e,h _ _ (by simp) a⟩,Pt.mem (fun a p hp hq=>h a p (by simp[hp]) hq) b⟩
theorem Al.mapR {α β γ:Type} {P:α→γ→Prop} {q:β→γ}:∀ {l:List α} {m:List β},Al (fun a b=>P a (q b)) l m→Al P l (m.map q)
 | [],[],_=>trivial
 | _::_,_::_,⟨a,b⟩=>⟨a,Al.mapR b⟩
theorem Pt.mapR {P:Value→Sp.V→Prop} {q:Sp.V→Sp.V}:∀ {l:List (Lit×DataW Value)} {m:List (Lit×Sp.V)},Pt (fun a b=>P a (q b)) l m→Pt P l (m.map fun p=>(p.1,q p.2))
 | [],[],_=>trivial
 | _::_,_::_,⟨⟨k,x,e,a⟩,b⟩=>⟨⟨k,x,e,a⟩,Pt.mapR b⟩
theorem own_if {sl:Value} {g k:Nat} (h:sl.ownBlock=(if g=0 then none else some g)) (hk:sl.ownBlock=some k):k=g∧g≠0:=by
 rw[h] at hk
 split at hk
 ·cases hk
 ·rename_i hg;exact⟨(Option.some.inj hk).symm,hg⟩
theorem TRep.move {w w':World}:∀ {f:Nat} {v:Value} {a:Sp.A},(∀k∈Sp.fp f a,w'.heap[k]? = w.heap[k]?)→TRep f w v a→TRep f w' v a
 | 0,_,_,_,h=>h.elim
 | f+1,v,a,hk,h=>by
  obtain⟨b,g,x,rfl,hv,h⟩:=h
  rcases h with⟨k,h1,h2,rfl,h⟩|⟨n,h2,rfl,h,hbd⟩|⟨s,h2,rfl,h⟩|⟨al,sl,ps,rfl,h,ho,hs,ha⟩|⟨es,n,D,rfl,h,ho,hp⟩
  ·exact⟨b,g,_,rfl,hv,Or.inl ⟨k,h1,h2,rfl,h.kept (hk b (by rw[Sp.fp_word];simp))⟩⟩
  ·exact⟨b,g,_,rfl,hv,Or.inr (Or.inl ⟨n,h2,rfl,h.kept (hk b (by rw[Sp.fp_num];simp)),hbd⟩)⟩
  ·exact⟨b,g,_,rfl,hv,Or.inr (Or.inr (Or.inl ⟨s,h2,rfl,h.kept (hk b (by rw[Sp.fp_str];simp))⟩))⟩
  ·rw[Sp.fp_arr] at hk
   refine⟨b,g,_,rfl,hv,Or.inr (Or.inr (Or.inr (Or.inl ⟨al,sl,ps,rfl,h.kept (hk b (by simp)),owns_kept ho fun g' hg'=>?_,hs,Al.mem (fun u c hc hu=>TRep.move (fun k hkc=>hk k ?_) hu) ha⟩)))⟩
   ·obtain⟨rfl,h0⟩:=own_if hs hg'
    exact hk _ (by simp[h0])
   ·exact List.mem_cons_of_mem _ (List.mem_append_right _ (List.mem_flatMap.2 ⟨c,hc,hkc⟩))
  ·rw[Sp.fp_obj] at hk
   refine⟨b,g,_,rfl,hv,Or.inr (Or.inr (Or.inr (Or.inr ⟨es,n,D,rfl,h.kept (hk b (by simp)),map_kept ho (hk g (by simp)),Pt.mem (fun u p hp hu=>TRep.move (fun k hkc=>hk k ?_) hu) hp⟩)))⟩
   exact List.mem_cons_of_mem _ (List.mem_cons_of_mem _ (List.mem_flatMap.2 ⟨p,hp,hkc⟩))
theorem TRep.ptr {f:Nat} {w:World} {v:Value} {a:Sp.A} (h:TRep f w v a):∃b,v = .pointer (some ⟨b,0,none⟩)∧b<w.heap.size∧b∈Sp.fp f a:=by
 cases f with
 | zero=>exact h.elim
 | succ f =>
  obtain⟨b,g,x,rfl,hv,h⟩:=h
  refine⟨b,hv,?_,?_⟩
  ·rcases h with⟨k,_,_,rfl,h⟩|⟨n,_,rfl,h,_⟩|⟨s,_,rfl,h⟩|⟨al,sl,ps,rfl,h,_⟩|⟨es,n,D,rfl,h,_⟩
   all_goals exact h.lt
  ·rcases h with⟨k,_,_,rfl,h⟩|⟨n,_,rfl,h,_⟩|⟨s,_,rfl,h⟩|⟨al,sl,ps,rfl,h,_⟩|⟨es,n,D,rfl,h,_⟩
   ·rw[Sp.fp_word];simp
   ·rw[Sp.fp_num];simp
   ·rw[Sp.fp_str];simp
   ·rw[Sp.fp_arr];simp
   ·rw[Sp.fp_obj];simp
theorem Al.right {α β:Type} {P:α→β→Prop} {b:β}:∀ {l:List α} {m:List β},Al P l m→b∈m → ∃a,P a b
 | [],[],_,h=>by cases h
 | a::_,c::_,⟨h1,h2⟩,h=>by
  rcases List.mem_cons.1 h with rfl|h
  ·exact⟨a,h1⟩
  ·exact Al.right h2 h
theorem Pt.right {P:Value→Sp.V→Prop} {p:Lit×Sp.V}:∀ {l:List (Lit×DataW Value)} {m:List (Lit×Sp.V)},Pt P l m→p∈m → ∃a,P a p.2
 | [],[],_,h=>by cases h
 | _::_,_::_,⟨⟨_,x,_,h1⟩,h2⟩,h=>by
  rcases List.mem_cons.1 h with rfl|h
  ·exact⟨x,h1⟩
  ·exact Pt.right h2 h
theorem TRep.lt {w:World}:∀ {f:Nat} {v:Value} {a:Sp.A},TRep f w v a → ∀k∈Sp.fp f a,k<w.heap.size
 | 0,_,_,h=>h.elim
 | f+1,v,a,h=>by
  intro k hk
  obtain⟨b,g,x,rfl,hv,h⟩:=h
  rcases h with⟨j,_,_,rfl,h⟩|⟨n,_,rfl,h,_⟩|⟨s,_,rfl,h⟩|⟨al,sl,ps,rfl,h,ho,hs,ha⟩|⟨es,n,D,rfl,h,ho,hp⟩
  ·rw[Sp.fp_word] at hk
   obtain rfl:k=b:=by simpa using hk
   exact h.lt
  ·rw[Sp.fp_num] at hk
   obtain rfl:k=b:=by simpa using hk
   exact h.lt
  ·rw[Sp.fp_str] at hk
   obtain rfl:k=b:=by simpa using hk
   exact h.lt
  ·rw[Sp.fp_arr] at hk
   rcases List.mem_cons.1 hk with rfl|hk
   ·exact h.lt
   ·rcases List.mem_append.1 hk with hk|hk
    ·split at hk
     ·cases hk
     ·rename_i h0
      obtain rfl:k=g:=by simpa using hk
      exact (owns_lt ho k (by rw[hs,if_neg h0])).1
    ·obtain⟨c,hc,hkc⟩:=List.mem_flatMap.1 hk
     obtain⟨u,hu⟩:=ha.right hc
     exact TRep.lt hu k hkc
  ·rw[Sp.fp_obj] at hk
   rcases List.mem_cons.1 hk with rfl|hk
   ·exact h.lt
   ·rcases List.mem_cons.1 hk with rfl|hk
    ·exact map_lt ho
    ·obtain⟨p,hpm,hkc⟩:=List.mem_flatMap.1 hk
     obtain⟨u,hu⟩:=hp.right hpm
     exact TRep.lt hu k hkc
theorem TRep.rep {F:Nat→Prop} {w:World}:∀ {f:Nat} {v:Value} {a:Sp.A},(∀k∈Sp.fp f a,F k)→TRep f w v a→Rep f F w v (Sp.str f a)
 | 0,_,_,_,h=>h.elim
 | f+1,v,a,hF,h=>by
  obtain⟨b,g,x,rfl,hv,h⟩:=h
  rcases h with⟨k,h1,h2,rfl,h⟩|⟨n,h2,rfl,h,hbd⟩|⟨s,h2,rfl,h⟩|⟨al,sl,ps,rfl,h,ho,hs,ha⟩|⟨es,n,D,rfl,h,ho,hp⟩
  ·exact⟨b,hv,hF b (by rw[Sp.fp_word];simp),Or.inl ⟨k,h1,rfl,h⟩⟩
  ·exact⟨b,hv,hF b (by rw[Sp.fp_num];simp),Or.inr (Or.inl ⟨n,rfl,h,hbd⟩)⟩
  ·exact⟨b,hv,hF b (by rw[Sp.fp_str];simp),Or.inr (Or.inr (Or.inl ⟨s,rfl,h⟩))⟩
  ·rw[Sp.fp_arr] at hF
   refine⟨b,hv,hF b (by simp),Or.inr (Or.inr (Or.inr (Or.inl ⟨al.map (Sp.str f),sl,ps,Sp.str_arr _ _ _ _,h,ho,fun g' hg'=>?_,Al.mapR (Al.mem (fun u c hc hu=>TRep.rep (fun k hkc=>hF k ?_) hu) ha)⟩)))⟩
   ·obtain⟨rfl,h0⟩:=own_if hs hg'
    exact hF _ (by simp[h0])
   ·exact List.mem_cons_of_mem _ (List.mem_append_right _ (List.mem_flatMap.2 ⟨c,hc,hkc⟩))
  ·rw[Sp.fp_obj] at hF
   refine⟨b,hv,hF b (by simp),Or.inr (Or.inr (Or.inr (Or.inr ⟨es.map (fun p=>(p.1,Sp.str f p.2)),g,n,D,Sp.str_obj _ _ _ _,h,hF g (by simp),ho,Pt.mapR (Pt.mem (fun u p hp hu=>TRep.rep (fun k hkc=>hF k ?_) hu) hp)⟩)))⟩
   exact List.mem_cons_of_mem _ (List.mem_cons_of_mem _ (List.mem_flatMap.2 ⟨p,hp,hkc⟩))
def Tr (f lo:Nat) (w:World) (v:Value) (d:Sp.V):Prop:=∃a,TRep f w v a∧Sp.str f a=d∧(Sp.fp f a).Nodup ∧ ∀k∈Sp.fp f a,lo≤k
theorem Tr.rep {f lo:Nat} {w:World} {v:Value} {d:Sp.V} (h:Tr f lo w v d):Rep f (fun k=>lo≤k) w v d:=by
 obtain⟨a,h1,rfl,_,h3⟩:=h
 exact h1.rep h3
theorem Tr.move {f lo lo':Nat} {w w':World} {v:Value} {d:Sp.V} (h:Tr f lo w v d) (hl:lo'≤lo) (hk:∀k,lo≤k→k<w.heap.size→w'.heap[k]? = w.heap[k]?):Tr f lo' w' v d:=by
 obtain⟨a,h1,h2,h3,h4⟩:=h
 exact⟨a,h1.move fun k hka=>hk k (h4 k hka) (h1.lt k hka),h2,h3,fun k hka=>Nat.le_trans hl (h4 k hka)⟩
theorem Tr.ptr {f lo:Nat} {w:World} {v:Value} {d:Sp.V} (h:Tr f lo w v d):∃b,v = .pointer (some ⟨b,0,none⟩)∧b<w.heap.size∧lo≤b:=by
 obtain⟨a,h1,_,_,h4⟩:=h
 obtain⟨b,e,hb,hm⟩:=h1.ptr
 exact⟨b,e,hb,h4 b hm⟩
theorem Tr.leafW {f lo b k:Nat} {w:World} (hb:lo≤b) (hk:k<3) (h:VB w b k n0 [] (.slice none 0 0) (.map none)):Tr (f+1) lo w (.pointer (some ⟨b,0,none⟩)) (Sp.vWord k) :=
 ⟨Sp.nd b 0 (Sp.vWord k),⟨b,0,_,rfl,rfl,Or.inl ⟨k,hk,rfl,rfl,h⟩⟩,rfl,by rw[Sp.fp_word];simp,by rw[Sp.fp_word];simpa using hb⟩
theorem Tr.leafN {f lo b:Nat} {n:Sp.Nm} {w:World} (hb:lo≤b) (h:VB w b 3 n [] (.slice none 0 0) (.map none)) (h1:-100000000≤n.2.2∧n.2.2≤100000000):Tr (f+1) lo w (.pointer (some ⟨b,0,none⟩)) (Sp.vNum n) :=
 ⟨Sp.nd b 0 (Sp.vNum n),⟨b,0,_,rfl,rfl,Or.inr (Or.inl ⟨n,rfl,rfl,h,h1⟩)⟩,rfl,by rw[Sp.fp_num];simp,by rw[Sp.fp_num];simpa using hb⟩
theorem Tr.leafS {f lo b:Nat} {s:Sp.By} {w:World} (hb:lo≤b) (h:VB w b 4 n0 s (.slice none 0 0) (.map none)):Tr (f+1) lo w (.pointer (some ⟨b,0,none⟩)) (Sp.vStr s) :=
 ⟨Sp.nd b 0 (Sp.vStr s),⟨b,0,_,rfl,rfl,Or.inr (Or.inr (Or.inl ⟨s,rfl,rfl,h⟩))⟩,rfl,by rw[Sp.fp_str];simp,by rw[Sp.fp_str];simpa using hb⟩
def TrL (f lo:Nat) (own:Option Nat) (w:World) (ps:List Value) (es:List Sp.V):Prop :=
 ∃al:List Sp.A,Al (TRep f w) ps al∧al.map (Sp.str f)=es∧(al.flatMap (Sp.fp f)).Nodup ∧ ∀k∈al.flatMap (Sp.fp f),lo≤k∧own≠some k
theorem TrL.nil (f lo:Nat) (own:Option Nat) (w:World):TrL f lo own w [] []:=⟨[],trivial,rfl,List.nodup_nil,fun k hk=>by cases hk⟩
theorem TrL.length {f lo:Nat} {own:Option Nat} {w:World} {ps:List Value} {es:List Sp.V} (h:TrL f lo own w ps es):ps.length=es.length:=by
 obtain⟨al,h1,rfl,_⟩:=h
 rw[List.length_map];exact h1.length
theorem Al.lts {f:Nat} {w:World} {ps:List Value} {al:List Sp.A} (h:Al (TRep f w) ps al):∀k∈al.flatMap (Sp.fp f),k<w.heap.size:=by
 intro k hk
 obtain⟨c,hc,hkc⟩:=List.mem_flatMap.1 hk
 obtain⟨u,hu⟩:=h.right hc
 exact hu.lt k hkc
theorem TrL.move {f lo:Nat} {own own':Option Nat} {w w':World} {ps:List Value} {es:List Sp.V} (h:TrL f lo own w ps es) (hk:∀k,lo≤k→own≠some k→k<w.heap.size→w'.heap[k]? = w.heap[k]? ∧ own'≠some k):TrL f lo own' w' ps es:=by
 obtain⟨al,h1,h2,h3,h4⟩:=h
 refine⟨al,Al.mem (fun u c hc hu=>hu.move fun k hkc=>?_) h1,h2,h3,fun k hka=>?_⟩
 ·exact⟨(h4 k hka).1,(hk k (h4 k hka).1 (h4 k hka).2 (h1.lts k hka)).2⟩
 ·have hm:k∈al.flatMap (Sp.fp f):=List.mem_flatMap.2 ⟨c,hc,hkc⟩
  exact (hk k (h4 k hm).1 (h4 k hm).2 (h1.lts k hm)).1
theorem TrL.snoc {f lo:Nat} {own own':Option Nat} {w w2 w4:World} {ps:List Value} {es:List Sp.V} {v:Value} {d:Sp.V} (h:TrL f lo own w ps es) (hv:Tr f w.heap.size w2 v d) (hlo:lo≤w.heap.size)
  (hk:∀k,lo≤k→own≠some k→k<w.heap.size→w4.heap[k]? = w.heap[k]? ∧ own'≠some k) (hkv:∀k,w.heap.size≤k→k<w2.heap.size→w4.heap[k]? = w2.heap[k]? ∧ own'≠some k):TrL f lo own' w4 (ps++[v]) (es++[d]):=by
 obtain⟨al,h1,h2,h3,h4⟩:=h
 obtain⟨a,g1,g2,g3,g4⟩:=hv
 have hl:=h1.lts
 have ha:∀k∈al.flatMap (Sp.fp f),w4.heap[k]? = w.heap[k]? ∧ own'≠some k:=fun k hm=>hk k (h4 k hm).1 (h4 k hm).2 (hl k hm)
 refine⟨al++[a],Al.snoc (g1.move fun k hm=>(hkv k (g4 k hm) (g1.lt k hm)).1) (Al.mem (fun u c hc hu=>hu.move fun k hkc=>(ha k (List.mem_flatMap.2 ⟨c,hc,hkc⟩)).1) h1),by rw[List.map_append,h2];simp[g2],?_,?_⟩
 ·rw[List.flatMap_append,List.nodup_append]
  refine⟨h3,by simpa using g3,fun x hx y hy e=>?_⟩
  have:=hl x hx
  have:=g4 y (by simpa using hy)
  omega
 ·intro k hm
  rw[List.flatMap_append] at hm
  rcases List.mem_append.1 hm with hm|hm
  ·exact⟨(h4 k hm).1,(ha k hm).2⟩
  ·have hm:k∈Sp.fp f a:=by simpa using hm
   have:=g4 k hm
   exact⟨by omega,(hkv k this (g1.lt k hm)).2⟩
theorem TrL.arr {f lo lo' b:Nat} {w:World} {sl:Value} {ps:List Value} {es:List Sp.V} (h:TrL f lo sl.ownBlock w ps es) (hb:lo'≤b) (hbl:b<lo) (hvb:VB w b 5 n0 [] sl (.map none)) (ho:w.ownsRow 0 80 1 sl ps.length ps)
  (hs:∀g,sl.ownBlock=some g→lo≤g):Tr (f+1) lo' w (.pointer (some ⟨b,0,none⟩)) (Sp.vArr es):=by
 obtain⟨al,h1,rfl,h3,h4⟩:=h
 have hbn:b ∉ al.flatMap (Sp.fp f):=fun hm=>by have:=(h4 b hm).1;omega
 cases hsl:sl.ownBlock with
 | none =>
  refine⟨Sp.nd b 0 (.slice al []),⟨b,0,_,rfl,rfl,Or.inr (Or.inr (Or.inr (Or.inl ⟨al,sl,ps,rfl,hvb,ho,hsl,h1⟩)))⟩,rfl,?_,?_⟩
  ·rw[Sp.fp_arr,if_pos rfl,List.nil_append,List.nodup_cons]
   exact⟨hbn,h3⟩
  ·intro k hk
   rw[Sp.fp_arr,if_pos rfl,List.nil_append] at hk
   rcases List.mem_cons.1 hk with rfl|hk
   ·exact hb
   ·have:=(h4 k hk).1;omega
 | some g =>
  have s1:=hs g hsl
  have s3:g≠0:=by omega
  refine⟨Sp.nd b g (.slice al []),⟨b,g,_,rfl,rfl,Or.inr (Or.inr (Or.inr (Or.inl ⟨al,sl,ps,rfl,hvb,ho,by rw[if_neg s3];exact hsl,h1⟩)))⟩,rfl,?_,?_⟩
  ·rw[Sp.fp_arr,if_neg s3,List.nodup_cons,List.singleton_append,List.nodup_cons]
   refine⟨fun hm=>?_,fun hm=>(h4 g hm).2 hsl,h3⟩
   rcases List.mem_cons.1 hm with e|hm
   ·omega
   ·exact hbn hm
  ·intro k hk
   rw[Sp.fp_arr,if_neg s3,List.singleton_append] at hk
   rcases List.mem_cons.1 hk with rfl|hk
   ·exact hb
   ·rcases List.mem_cons.1 hk with rfl|hk
    ·omega
    ·have:=(h4 k hk).1;omega
def TrM (f lo:Nat) (w:World) (D:List (Lit×DataW Value)) (es:List (Lit×Sp.V)):Prop :=
 ∃al:List (Lit×Sp.A),Pt (TRep f w) D al∧(al.map fun p=>(p.1,Sp.str f p.2))=es∧(al.flatMap fun p=>Sp.fp f p.2).Nodup ∧ ∀k∈al.flatMap fun p=>Sp.fp f p.2,lo≤k
theorem TrM.nil (f lo:Nat) (w:World):TrM f lo w [] []:=⟨[],trivial,rfl,List.nodup_nil,fun k hk=>by cases hk⟩
theorem Pt.lts {f:Nat} {w:World} {D:List (Lit×DataW Value)} {al:List (Lit×Sp.A)} (h:Pt (TRep f w) D al):∀k∈al.flatMap (fun p=>Sp.fp f p.2),k<w.heap.size:=by
 intro k hk
 obtain⟨c,hc,hkc⟩:=List.mem_flatMap.1 hk
 obtain⟨u,hu⟩:=h.right hc
 exact hu.lt k hkc
theorem TrM.move {f lo:Nat} {w w':World} {D:List (Lit×DataW Value)} {es:List (Lit×Sp.V)} (h:TrM f lo w D es) (hk:∀k,lo≤k→k<w.heap.size→w'.heap[k]? = w.heap[k]?):TrM f lo w' D es:=by
 obtain⟨al,h1,h2,h3,h4⟩:=h
 refine⟨al,Pt.mem (fun u p hp hu=>hu.move fun k hkc=>?_) h1,h2,h3,h4⟩
 have hm:k∈al.flatMap (fun p=>Sp.fp f p.2):=List.mem_flatMap.2 ⟨p,hp,hkc⟩
 exact hk k (h4 k hm) (h1.lts k hm)
theorem sub_flat {α β:Type} (g:α→List β) {l m:List α} (h:List.Sublist l m):List.Sublist (l.flatMap g) (m.flatMap g):=by
 induction h with
 | slnil=>exact List.Sublist.refl _
 | cons a _ ih=>rw[List.flatMap_cons];exact ih.trans (List.sublist_append_right _ _)
 | cons_cons a _ ih=>rw[List.flatMap_cons,List.flatMap_cons];exact List.Sublist.append (List.Sublist.refl _) ih
theorem insert_strip (f:Nat) (x:Lit×Sp.A) (l:List (Lit×Sp.A)):(DataW.insert x l).map (fun p=>(p.1,Sp.str f p.2))=DataW.insert (x.1,Sp.str f x.2) (l.map fun p=>(p.1,Sp.str f p.2)):=by
 induction l with
 | nil=>rfl
 | cons y r ih =>
  simp only[DataW.insert,List.map_cons]
  split
  ·rfl
  ·rw[List.map_cons,ih]
theorem TrM.put {f lo:Nat} {w w5 w6:World} {D:List (Lit×DataW Value)} {es:List (Lit×Sp.V)} {k:Lit} {x:Value} {d:Sp.V} (h:TrM f lo w D es) (hv:Tr f w.heap.size w5 x d) (hlo:lo≤w.heap.size)
  (hk:∀j,lo≤j→j<w.heap.size→w6.heap[j]? = w.heap[j]?) (hkv:∀j,w.heap.size≤j→j<w5.heap.size→w6.heap[j]? = w5.heap[j]?) :
  ∃D' es',DataW.put (.map D) k (.held x) = .map D'∧DataW.put (.map es:Sp.V) k d = .map es'∧TrM f lo w6 D' es':=by
 obtain⟨al,h1,rfl,h3,h4⟩:=h
 obtain⟨a,g1,rfl,g3,g4⟩:=hv
 have hl:=h1.lts
 have g6:TRep f w6 x a:=g1.move fun j hm=>hkv j (g4 j hm) (g1.lt j hm)
 have h6:Pt (TRep f w6) D al:=Pt.mem (fun u p hp hu=>hu.move fun j hj=>by
  have hm:j∈al.flatMap (fun p=>Sp.fp f p.2):=List.mem_flatMap.2 ⟨p,hp,hj⟩
  exact hk j (h4 j hm) (hl j hm)) h1
 refine⟨_,_,rfl,rfl,DataW.insert (k,a) (al.filter fun p=>!p.1.sameKey k),Pt.insert k x a g6 (Pt.filter (fun c=>!c.sameKey k) h6),?_,?_,?_⟩
 ·rw[insert_strip,List.filter_map];rfl
 ·have hp:=(Go.WideShapes.insert_perm (k,a) (al.filter fun p=>!p.1.sameKey k)).flatMap_right (fun p=>Sp.fp f p.2)
  rw[hp.nodup_iff,List.flatMap_cons,List.nodup_append]
  have hsub:List.Sublist ((al.filter fun p=>!p.1.sameKey k).flatMap fun p=>Sp.fp f p.2) (al.flatMap fun p=>Sp.fp f p.2):=sub_flat _ (List.filter_sublist (l:=al))
  refine⟨g3,h3.sublist hsub,fun u hu z hz e=>?_⟩
  have:=g4 u hu
  have:=hl z (hsub.subset hz)
  omega
 ·intro j hj
  obtain⟨p,hp,hjp⟩:=List.mem_flatMap.1 hj
  rcases List.mem_cons.1 ((Go.WideShapes.insert_perm _ _).mem_iff.1 hp) with rfl|hp
  ·exact Nat.le_trans hlo (g4 j hjp)
  ·exact h4 j (List.mem_flatMap.2 ⟨p,(List.mem_filter.1 hp).1,hjp⟩)
theorem TrM.pt {f lo:Nat} {w:World} {D:List (Lit×DataW Value)} {es:List (Lit×Sp.V)} (h:TrM f lo w D es):Pt (Rep f (fun k=>lo≤k) w) D es:=by
 obtain⟨al,h1,rfl,_,h4⟩:=h
 exact Pt.mapR (Pt.mem (fun u p hp hu=>hu.rep fun k hk=>h4 k (List.mem_flatMap.2 ⟨p,hp,hk⟩)) h1)
theorem TrM.obj {f lo lo' b m n:Nat} {w:World} {D:List (Lit×DataW Value)} {es:List (Lit×Sp.V)} (h:TrM f lo w D es) (hb:lo'≤b∧b<lo) (hm:lo'≤m∧m<lo) (hbm:b≠m)
  (hvb:VB w b 6 n0 [] (.slice none 0 0) (.map (some m))) (ho:w.ownsMap Tryz.prog 9 RV m n (.map D)):Tr (f+1) lo' w (.pointer (some ⟨b,0,none⟩)) (Sp.vObj es):=by
 obtain⟨al,h1,rfl,h3,h4⟩:=h
 refine⟨Sp.nd b m (.map al),⟨b,m,_,rfl,rfl,Or.inr (Or.inr (Or.inr (Or.inr ⟨al,n,D,rfl,hvb,ho,h1⟩)))⟩,rfl,?_,?_⟩
 ·rw[Sp.fp_obj,List.nodup_cons,List.nodup_cons]
  refine⟨fun hx=>?_,fun hx=>by have:=h4 m hx;omega,h3⟩
  rcases List.mem_cons.1 hx with e|hx
  ·exact hbm e
  ·have:=h4 b hx;omega
 ·intro k hk
  rw[Sp.fp_obj] at hk
  rcases List.mem_cons.1 hk with rfl|hk
  ·exact hb.1
  ·rcases List.mem_cons.1 hk with rfl|hk
   ·exact hm.1
   ·have:=h4 k hk;omega
end

section
open Go.RowKit
def valEnd (f:Nat) (lv:Int) (l:Sp.By) (fl:Sp.Fl) (e:Ending) (w w':World) (R:Nat) (t:ByteArray):Prop :=
 (∃d r fl' p,Sp.val f lv l fl=some (d,r,fl')∧e = .returned (.tuple #[.pointer p,.bool true])∧RD w' R t r fl'.1 fl'.2.1 fl'.2.2∧Tr f w.heap.size w' (.pointer p) d) ∨
  (Sp.val f lv l fl=none ∧ ∃p,e = .returned (.tuple #[.pointer p,.bool false]) ∧ ∃r tw dp fr,RD w' R t r tw dp fr)
def ValOk (f:Nat):Prop:=∀ (R:Nat) (t:ByteArray) (lv:Int) (l:Sp.By) (tw:Bool) (dp fr:Int) (w:World),RD w R t l tw dp fr→Laid w→NG≤R→l.length<f→0≤lv→lv+f≤5000 →
 Calls Tryz.prog 137 #[.pointer (some ⟨R,0,none⟩),.int .i64 lv] w fun e w'=>KeptX R w w'∧valEnd f lv l (tw,dp,fr) e w w' R t
structure Boxes (w0:World) (R p0 p1 p2 vb N1:Nat):Prop where
 r:R<w0.heap.size
 ng:NG≤R
 a0:w0.heap.size≤p0∧p0<N1
 a1:w0.heap.size≤p1∧p1<N1
 a2:w0.heap.size≤p2∧p2<N1
 av:w0.heap.size≤vb∧vb<N1
 d0:p0≠vb
 d1:p1≠vb
 d2:p2≠vb
structure ArrI (f R:Nat) (t:ByteArray) (lv:Int) (w0:World) (p0 p1 p2 vb N1:Nat) (w:World) (l:Sp.By) (s:List Sp.V×Sp.Fl):Prop where
 rd:RD w R t l s.2.1 s.2.2.1 s.2.2.2
 kept:KeptX R w0 w
 laid:Laid w
 b0:w.heap[p0]? = some (.cells #[.pointer (some ⟨R,0,none⟩)] 153 (0,0))
 b1:w.heap[p1]? = some (.cells #[.int .i64 lv] 3 (0,0))
 b2:w.heap[p2]? = some (.cells #[.pointer (some ⟨vb,0,none⟩)] 80 (0,0))
 sz:N1≤w.heap.size
 len:s.1.length+l.length≤2001
 el:∃sl ps,VB w vb 5 n0 [] sl (.map none)∧w.ownsRow N1 80 1 sl ps.length ps∧TrL f N1 sl.ownBlock w ps s.1
def RdJ (R:Nat) (t:ByteArray) (w0:World) (p2 vb:Nat) (w:World):Prop:=KeptX R w0 w∧(∃l tw dp fr,RD w R t l tw dp fr)∧w.heap[p2]? = some (.cells #[.pointer (some ⟨vb,0,none⟩)] 80 (0,0))
theorem b_ptr:(Tryz.prog.info? 80).map (fun i=>(i.zero,i.size,i.bytes))=some (some (.pointer none),1,8):=by kernel_rfl
theorem arr_fin {f R:Nat} {t:ByteArray} {lv:Int} {w0:World} {p0 p1 p2 vb N1:Nat} (B:Boxes w0 R p0 p1 p2 vb N1) {w w2 w3:World} {l r:Sp.By} {s:List Sp.V×Sp.Fl} (hI:ArrI f R t lv w0 p0 p1 p2 vb N1 w l s) (hk2:KeptX R w w2)
  {tw:Bool} {dp fr:Int} (hr2:RD w2 R t r tw dp fr) {sl:Value} {ps:List Value} (hvb:VB w vb 5 n0 [] sl (.map none)) (hown:w.ownsRow N1 80 1 sl ps.length ps) (hal:TrL f N1 sl.ownBlock w ps s.1)
  {p:Option Addr} {o:Obj} {g cap:Nat} (hown3:w3.ownsRow N1 80 1 (.slice (some ⟨g,0,none⟩) (ps.length+1) cap) (ps.length+1) (ps++[.pointer p])) (hgrow:(w2.alloc o).grownBy w3 sl.ownBlock) (hat:sl.ownBlock=some g∨g=w2.heap.size+1) :
  KeptX R w0 (w3.setCell ⟨vb,5,none⟩ (.slice (some ⟨g,0,none⟩) (ps.length+1) cap))∧RD (w3.setCell ⟨vb,5,none⟩ (.slice (some ⟨g,0,none⟩) (ps.length+1) cap)) R t r tw dp fr ∧
  (w3.setCell ⟨vb,5,none⟩ (.slice (some ⟨g,0,none⟩) (ps.length+1) cap)).heap[p2]? = some (.cells #[.pointer (some ⟨vb,0,none⟩)] 80 (0,0)) ∧
  ∀ (d:Sp.V) (fl:Sp.Fl),fl=(tw,dp,fr)→Tr f w.heap.size w2 (.pointer p) d→r.length<l.length→ArrI f R t lv w0 p0 p1 p2 vb N1 (w3.setCell ⟨vb,5,none⟩ (.slice (some ⟨g,0,none⟩) (ps.length+1) cap)) r (s.1++[d],fl):=by
 have bR:=B.r
 have a0:=B.a0
 have a1:=B.a1
 have a2:=B.a2
 have av:=B.av
 have d0:=B.d0
 have d1:=B.d1
 have d2:=B.d2
 have hsz:=hI.sz
 have hs2:=hk2.size
 have gs:=hgrow.size
 have hsa:(w2.alloc o).heap.size=w2.heap.size+1:=by simp
 -- blocks of w2 that are no elements' row
 have k3:∀k,k<w2.heap.size→some k≠sl.ownBlock→w3.heap[k]? = w2.heap[k]?:=fun k h1 h2=>(hgrow.block k (by omega) h2).trans (Below.heap_alloc w2 o k h1)
 have nlow:∀k,k<N1→some k≠sl.ownBlock:=fun k hk h=>by have:=(owns_lt hown k h.symm).2;omega
 have k4:∀k,k<w2.heap.size→some k≠sl.ownBlock→k≠vb→(w3.setCell ⟨vb,5,none⟩ (.slice (some ⟨g,0,none⟩) (ps.length+1) cap)).heap[k]? = w2.heap[k]?:=fun k h1 h2 h3=>(Below.heap_setCell _ _ _ _ h3).trans (k3 k h1 h2)
 have hg:N1≤g:=(owns_lt hown3 g rfl).2
 have kx:KeptX R w0 (w3.setCell ⟨vb,5,none⟩ (.slice (some ⟨g,0,none⟩) (ps.length+1) cap)):=by
  have hk:=hI.kept.trans hk2
  refine⟨hgrow.os.trans hk.os,hgrow.tape.trans hk.tape,hgrow.output.trans hk.output,?_,?_⟩
  ·have:=hk.size;simp[World.setCell];omega
  ·intro k h1 h2
   exact (k4 k (by have:=hk.size;omega) (nlow k (by omega)) (by omega)).trans (hk.block k h1 h2)
 have hrd:RD (w3.setCell ⟨vb,5,none⟩ (.slice (some ⟨g,0,none⟩) (ps.length+1) cap)) R t r tw dp fr:=by
  obtain⟨q,ha,hq⟩:=hr2
  exact⟨q,ha,(k4 R (RP.lt hq) (nlow R (by omega)) (by omega)).trans hq⟩
 have box:∀ (k:Nat) (ob:Obj),w0.heap.size≤k→k<N1→k≠vb→w.heap[k]? = some ob→(w3.setCell ⟨vb,5,none⟩ (.slice (some ⟨g,0,none⟩) (ps.length+1) cap)).heap[k]? = some ob:=fun k ob h1 h2 h3 h4 =>
  (k4 k (by omega) (nlow k h2) h3).trans ((hk2.block k (by omega) (by omega)).trans h4)
 refine⟨kx,hrd,box _ _ a2.1 a2.2 d2 hI.b2,?_⟩
 rintro d fl rfl hrep hlen
 refine⟨hrd,kx,hI.laid.below ⟨hgrow.os.trans hk2.os,hgrow.tape.trans hk2.tape,hgrow.output.trans hk2.output,by simp[World.setCell];omega,fun k hk=>(k4 k (by have:=B.ng;have:=hI.laid.ng;omega) (nlow k (by have:=B.ng;omega)) (by have:=B.ng;omega)).trans (hk2.block k (by have:=hI.laid.ng;omega) (by have:=B.ng;omega))⟩,box _ _ a0.1 a0.2 d0 hI.b0,box _ _ a1.1 a1.2 d1 hI.b1,box _ _ a2.1 a2.2 d2 hI.b2,by simp[World.setCell];omega,by have:=hI.len;simp only[List.length_append,List.length_cons,List.length_nil];omega,?_⟩
 refine⟨.slice (some ⟨g,0,none⟩) (ps.length+1) cap,ps++[.pointer p],?_,?_,?_⟩
 ·have h5:=(k3 vb (by omega) (nlow vb (by omega))).trans (hvb.kept (hk2.block vb hvb.lt (by omega)))
  simp only[VB,World.setCell,Array.getElem?_modify]
  rw[if_pos trivial,h5];rfl
 ·have:(ps++[Value.pointer p]).length=ps.length+1:=by simp
  rw[this]
  exact owns_kept hown3 (fun g' hg'=>by
   have:g'=g:=by simpa[Value.ownBlock] using hg'.symm
   subst this
   exact Below.heap_setCell _ _ _ _ (show g'≠vb by omega))
 ·refine TrL.snoc hal hrep hsz ?_ ?_
  ·intro k h0 h1 h2
   have h3:some k≠sl.ownBlock:=fun h=>h1 h.symm
   refine⟨(k4 k (by omega) h3 (by omega)).trans (hk2.block k h2 (by omega)),?_⟩
   intro h
   have hgk:g=k:=by simpa[Value.ownBlock] using h
   rcases hat with h4|h4
   ·exact h3 (by rw[h4,hgk])
   ·omega
  ·intro k h1 h2
   have h3:some k≠sl.ownBlock:=fun h=>by have:=(owns_lt hown k h.symm).1;omega
   refine⟨k4 k h2 h3 (by omega),?_⟩
   intro h
   have hgk:g=k:=by simpa[Value.ownBlock] using h
   rcases hat with h4|h4
   ·exact h3 (by rw[h4,hgk])
   ·omega
end

section
set_option maxRecDepth 100000
set_option maxHeartbeats 4000000
open Go.RowKit
theorem arr_item {f R:Nat} {t:ByteArray} {lv:Int} {w0:World} {p0 p1 p2 vb N1:Nat} (B:Boxes w0 R p0 p1 p2 vb N1) (hV:ValOk f) (hlv:0≤lv) (w:World) (l:Sp.By) (s:List Sp.V×Sp.Fl) (hI:ArrI f R t lv w0 p0 p1 p2 vb N1 w l s) (hl:l.length<f) (hb:lv+f≤4999) :
  Calls Tryz.prog 219 #[.pointer (some ⟨p0,0,none⟩),.pointer (some ⟨p1,0,none⟩),.pointer (some ⟨p2,0,none⟩)] w fun e w' =>
  (∃l' s',Sp.elem (Sp.val f (lv+1)) l s=some (l',s')∧e = .returned (.bool true)∧ArrI f R t lv w0 p0 p1 p2 vb N1 w' l' s')∨(Sp.elem (Sp.val f (lv+1)) l s=none∧e = .returned (.bool false)∧RdJ R t w0 p2 vb w'):=by
 obtain⟨i0,hi0,hz0,hz1,hz2⟩:=info_parts b_ptr
 have c0:w.cell? ⟨p0,0,none⟩=some (.pointer (some ⟨R,0,none⟩)):=by simp[World.cell?,hI.b0]
 have c1:w.cell? ⟨p1,0,none⟩=some (.int .i64 lv):=by simp[World.cell?,hI.b1]
 have hlv2:lv≤4999:=by omega
 go_enter Tryz.func219,Tryz.ntmps219
 go_wp2_with (fail)
 refine (hV R t (lv+1) l _ _ _ w hI.rd hI.laid B.ng hl (by omega) (by omega)).mono ?_
 rintro e w2 ⟨hk2,hc⟩
 clear c0 c1
 obtain⟨sl,ps,hvb,hown,hal⟩:=hI.el
 have bR:=B.r
 have a2:=B.a2
 have av:=B.av
 have d2:=B.d2
 have hsz:=hI.sz
 have hb2:w2.heap[p2]? = some (.cells #[.pointer (some ⟨vb,0,none⟩)] 80 (0,0)):=(hk2.block p2 (by omega) (by omega)).trans hI.b2
 have hvb2:=hvb.kept (hk2.block vb hvb.lt (by omega))
 have hown2:=owns_kept hown (fun g hg=>hk2.block g (owns_lt hown g hg).1 (by have:=(owns_lt hown g hg).2;omega))
 have q2:w2.cell? ⟨p2,0,none⟩=some (.pointer (some ⟨vb,0,none⟩)):=by simp[World.cell?,hb2]
 have q5:w2.cell? ⟨vb,5,none⟩=some sl:=by simp[World.cell?,show w2.heap[vb]? = _ from hvb2]
 have z5:w2.frozen? ⟨vb,5,none⟩=false:=by simp[World.frozen?,show w2.heap[vb]? = _ from hvb2]
 have hs2:=hk2.size
 have hw2:=(Array.getElem?_eq_some_iff.1 hb2).1
 have hwv:=hvb2.lt
 have n2:some p2≠sl.ownBlock:=fun h=>by have:=(owns_lt hown _ h.symm).2;omega
 have nv:some vb≠sl.ownBlock:=fun h=>by have:=(owns_lt hown _ h.symm).2;omega
 have q2':∀o,(w2.alloc o).cell? ⟨p2,0,none⟩=some (.pointer (some ⟨vb,0,none⟩)):=fun o=>by rw[World.cell?_of_block (w:=w2) (Below.heap_alloc w2 o p2 hw2)];exact q2
 have q5':∀o,(w2.alloc o).cell? ⟨vb,5,none⟩=some sl:=fun o=>by rw[World.cell?_of_block (w:=w2) (Below.heap_alloc w2 o vb hwv)];exact q5
 have z5':∀o,(w2.alloc o).frozen? ⟨vb,5,none⟩=false:=fun o=>by rw[World.frozen?_of_block (w:=w2) (Below.heap_alloc w2 o vb hwv)];exact z5
 have hpl:ps.length≤2001:=by have:=hal.length;have:=hI.len;omega
 rcases hc with⟨d,r,fl',p,hs,rfl,hr2,hrep⟩|⟨hs,p,rfl,r,tw,dp,fr,hr2⟩
 ·have HS:=hide hs
  clear hs
  go_wp2_with (fail)
  go_region_law ((refine step_append_lies _ (by rfl) _ _ _ (by rfl) N1 80 i0 _ 1 8 Tryz.underlying106 hi0 hz0 hz1 hz2 rfl (by decide) sl ps.length ps (by rfl) ((hown2.alloc _).drew) ⟨w2.heap.size,0,none⟩ 1 1 [.pointer p] (by rfl) (by rfl) (World.news_of_block (cs:=#[.pointer p]) (t:=80) (fr:=(0,0)) (heap_alloc_new w2 _)) (by simp[Value.oneCell']) (by decide) (by unfold maxLen;omega) (by omega) (by simp;omega) (w2.heap.size+1) (by simp) ?_;intro g cap w3 hown3 hgrow hat hlt;have zz:w3.frozen? ⟨vb,5,none⟩=false:=(hgrow.frozen_far ⟨vb,5,none⟩ (by simp;omega) nv).trans (z5' _);have yy:w3.cell? ⟨vb,5,none⟩=some sl:=(hgrow.cell_far ⟨vb,5,none⟩ (by simp;omega) nv).trans (q5' _);have xx:w3.cell? ⟨p2,0,none⟩=some (.pointer (some ⟨vb,0,none⟩)):=(hgrow.cell_far ⟨p2,0,none⟩ (by simp;omega) n2).trans (q2' _)))
  all_goals (
   have hf:=arr_fin B hI hk2 hr2 hvb hown hal hown3 (World.grownBy.mk hgrow.os hgrow.tape hgrow.output hgrow.size hgrow.block) hat
   have hlen:=Sp.val_len _ _ _ _ _ _ _ (unhide HS)
   go_wp2_with (fail)
   go_ret
   refine Or.inl ⟨r,(s.1++[d],fl'),?_,rfl,hf.2.2.2 d fl' rfl hrep hlen⟩
   unfold Sp.elem
   have:=unhide HS
   rw[show (s.2.1,s.2.2.1,s.2.2.2)=s.2 from rfl] at this
   rw[this])
 ·have HS:=hide hs
  clear hs
  go_wp2_with (fail)
  go_region_law ((refine step_append_lies _ (by rfl) _ _ _ (by rfl) N1 80 i0 _ 1 8 Tryz.underlying106 hi0 hz0 hz1 hz2 rfl (by decide) sl ps.length ps (by rfl) ((hown2.alloc _).drew) ⟨w2.heap.size,0,none⟩ 1 1 [.pointer p] (by rfl) (by rfl) (World.news_of_block (cs:=#[.pointer p]) (t:=80) (fr:=(0,0)) (heap_alloc_new w2 _)) (by simp[Value.oneCell']) (by decide) (by unfold maxLen;omega) (by omega) (by simp;omega) (w2.heap.size+1) (by simp) ?_;intro g cap w3 hown3 hgrow hat hlt;have zz:w3.frozen? ⟨vb,5,none⟩=false:=(hgrow.frozen_far ⟨vb,5,none⟩ (by simp;omega) nv).trans (z5' _);have yy:w3.cell? ⟨vb,5,none⟩=some sl:=(hgrow.cell_far ⟨vb,5,none⟩ (by simp;omega) nv).trans (q5' _);have xx:w3.cell? ⟨p2,0,none⟩=some (.pointer (some ⟨vb,0,none⟩)):=(hgrow.cell_far ⟨p2,0,none⟩ (by simp;omega) n2).trans (q2' _)))
  all_goals (
   have hf:=arr_fin B hI hk2 hr2 hvb hown hal hown3 (World.grownBy.mk hgrow.os hgrow.tape hgrow.output hgrow.size hgrow.block) hat
   go_wp2_with (fail)
   go_ret
   refine Or.inr ⟨?_,rfl,hf.1,⟨r,tw,dp,fr,hf.2.1⟩,hf.2.2.1⟩
   unfold Sp.elem
   have:=unhide HS
   rw[show (s.2.1,s.2.2.1,s.2.2.2)=s.2 from rfl] at this
   rw[this])
end

section
set_option maxHeartbeats 4000000
open Go.RowKit
def arrEnd (f:Nat) (lv:Int) (l:Sp.By) (fl:Sp.Fl) (e:Ending) (w w':World) (R:Nat) (t:ByteArray):Prop :=
 (∃es r fl' p,Sp.lstAll 91 93 (Sp.elem (Sp.val f (lv+1))) l ([],fl)=some (r,(es,fl'))∧e = .returned (.tuple #[.pointer p,.bool true])∧RD w' R t r fl'.1 fl'.2.1 fl'.2.2∧Tr (f+1) w.heap.size w' (.pointer p) (Sp.vArr es)) ∨
  (Sp.lstAll 91 93 (Sp.elem (Sp.val f (lv+1))) l ([],fl)=none ∧ ∃p,e = .returned (.tuple #[.pointer p,.bool false]) ∧ ∃r tw dp fr,RD w' R t r tw dp fr)
theorem elem_len (f:Nat) (lv:Int) (l:Sp.By) (s:List Sp.V×Sp.Fl) (l':Sp.By) (s':List Sp.V×Sp.Fl) (h:Sp.elem (Sp.val f lv) l s=some (l',s')):l'.length<l.length:=by
 unfold Sp.elem at h
 split at h
 ·cases h
 ·rename_i v r fl hv
  have:=Sp.val_len _ _ _ _ _ _ _ hv
  injection h with h;injection h with h1 h2;subst h1;exact this
theorem arr_ok {f R:Nat} {t:ByteArray} {lv:Int} {w0:World} {p0 p1 p2 vb N1:Nat} (B:Boxes w0 R p0 p1 p2 vb N1) (hV:ValOk f) (hlv:0≤lv) (hb:lv+f≤4999) :
  ItemOk 219 #[.pointer (some ⟨p0,0,none⟩),.pointer (some ⟨p1,0,none⟩),.pointer (some ⟨p2,0,none⟩)] R t f (Sp.elem (Sp.val f (lv+1))) (ArrI f R t lv w0 p0 p1 p2 vb N1) (RdJ R t w0 p2 vb) where
 rd:=fun w l s h=>⟨_,_,_,h.rd⟩
 move:=fun w w' l l' s tw dp fr h h1 h2 hk hl=>by
  obtain⟨_,_,e1,e2,e3⟩:=h.rd.uniq h1
  have bR:=B.r
  have hsz:=h.sz
  have a0:=B.a0
  have a1:=B.a1
  have a2:=B.a2
  have av:=B.av
  refine⟨by rw[e1,e2,e3];exact h2,h.kept.trans hk,h.laid.kept hk B.ng,(hk.block p0 (by omega) (by omega)).trans h.b0,(hk.block p1 (by omega) (by omega)).trans h.b1,(hk.block p2 (by omega) (by omega)).trans h.b2,by have:=hk.size;omega,by have:=h.len;omega,?_⟩
  obtain⟨sl,ps,hvb,hown,hal⟩:=h.el
  refine⟨sl,ps,hvb.kept (hk.block vb hvb.lt (by omega)),owns_kept hown (fun g hg=>hk.block g (owns_lt hown g hg).1 (by have:=(owns_lt hown g hg).2;omega)),hal.move fun k h3 h5 h4=>⟨hk.block k h4 (by omega),h5⟩⟩
 out:=fun w l s h=>⟨h.kept,⟨_,_,_,_,h.rd⟩,h.b2⟩
 len:=fun l s l' s' h=>elem_len _ _ _ _ _ _ h
 call:=fun w l s h hl=>arr_item B hV hlv w l s h hl hb
theorem owns_base {w:World} {B B' e n:Nat} {v:Value} {xs:List Value} (h:w.ownsRow B e 1 v n xs) (hB:B'≤B):w.ownsRow B' e 1 v n xs :=
 ⟨h.1,h.2.imp id fun ⟨g,cap,cur,a,b,c⟩=>⟨g,cap,cur,a,Nat.le_trans hB b,c⟩⟩
theorem four (w:World) (o0 o1 o2 o3:Obj):((((w.alloc o0).alloc o1).alloc o2).alloc o3).heap[w.heap.size]? = some o0∧((((w.alloc o0).alloc o1).alloc o2).alloc o3).heap[w.heap.size+1]? = some o1 ∧
  ((((w.alloc o0).alloc o1).alloc o2).alloc o3).heap[w.heap.size+1+1]? = some o2∧((((w.alloc o0).alloc o1).alloc o2).alloc o3).heap[w.heap.size+1+1+1]? = some o3:=by
 have h (k:Nat):((((w.alloc o0).alloc o1).alloc o2).alloc o3).heap[k]? = ((((w.heap.push o0).push o1).push o2).push o3)[k]?:=rfl
 rw[h,h,h,h]
 simp only[Array.getElem?_push,Array.size_push]
 refine⟨?_,?_,?_,?_⟩
 ·rw[if_neg (by omega),if_neg (by omega),if_neg (by omega),if_pos trivial]
 ·rw[if_neg (by omega),if_neg (by omega),if_pos trivial]
 ·rw[if_neg (by omega),if_pos trivial]
 ·rw[if_pos trivial]
theorem arr_rep {f R:Nat} {t:ByteArray} {lv:Int} {w0:World} {p0 p1 p2 vb N1:Nat} (B:Boxes w0 R p0 p1 p2 vb N1) {w:World} {l:Sp.By} {s:List Sp.V×Sp.Fl} (h:ArrI f R t lv w0 p0 p1 p2 vb N1 w l s) :
  Tr (f+1) w0.heap.size w (.pointer (some ⟨vb,0,none⟩)) (Sp.vArr s.1):=by
 have av:=B.av
 obtain⟨sl,ps,hvb,hown,hal⟩:=h.el
 exact hal.arr av.1 av.2 hvb (owns_base hown (Nat.zero_le _)) fun g hg=>(owns_lt hown g hg).2
theorem array_any {f R:Nat} {t:ByteArray} {lv:Int} {l:Sp.By} {tw:Bool} {dp fr:Int} {w:World} (hV:ValOk f) (h:RD w R t l tw dp fr) (hT:Laid w) (hR:NG≤R) (hl:l.length≤f) (hlv:0≤lv) (hb:lv+f≤4999) :
  Calls Tryz.prog 181 #[.pointer (some ⟨R,0,none⟩),.int .i64 lv] w fun e w'=>KeptX R w w'∧arrEnd f lv l (tw,dp,fr) e w w' R t:=by
 have hRl:=h.lt
 have h2000:l.length≤2000:=by obtain⟨p,ha,_⟩:=h;have:=ha.len;have:=ha.small;omega
 have B:Boxes w R w.heap.size (w.heap.size+1) (w.heap.size+1+1+1) (w.heap.size+1+1) (w.heap.size+4):=⟨hRl,hR,by omega,by omega,by omega,by omega,by omega,by omega,by omega⟩
 have hI:Hid (∀W,W=((((w.alloc (.cells #[.pointer (some ⟨R,0,none⟩)] 153)).alloc (.cells #[.int .i64 lv] 3)).alloc (.cells #[.int .i64 5,.bool false,.string ⟨#[]⟩,.int .i64 0,.string ⟨#[]⟩,.slice none 0 0,.map none] 111)).alloc (.cells #[.pointer (some ⟨w.heap.size+1+1,0,none⟩)] 80)) →
   ArrI f R t lv w w.heap.size (w.heap.size+1) (w.heap.size+1+1+1) (w.heap.size+1+1) (w.heap.size+4) W l ([],(tw,dp,fr))):=by
  rintro W rfl
  have hf:=four w (.cells #[.pointer (some ⟨R,0,none⟩)] 153) (.cells #[.int .i64 lv] 3) (.cells #[.int .i64 5,.bool false,.string ⟨#[]⟩,.int .i64 0,.string ⟨#[]⟩,.slice none 0 0,.map none] 111) (.cells #[.pointer (some ⟨w.heap.size+1+1,0,none⟩)] 80)
  have hk:=((((KeptX.refl R w).alloc (.cells #[.pointer (some ⟨R,0,none⟩)] 153)).alloc (.cells #[.int .i64 lv] 3)).alloc (.cells #[.int .i64 5,.bool false,.string ⟨#[]⟩,.int .i64 0,.string ⟨#[]⟩,.slice none 0 0,.map none] 111)).alloc (.cells #[.pointer (some ⟨w.heap.size+1+1,0,none⟩)] 80)
  refine⟨(((h.alloc _).alloc _).alloc _).alloc _,hk,hT.kept hk hR,hf.1,hf.2.1,hf.2.2.2,by simp,by simp;omega,.slice none 0 0,[],hf.2.2.1,World.ownsRow_nil _ _ _ _,TrL.nil _ _ _ _⟩
 have K:=arr_ok (t:=t) B hV hlv hb
 clear hT
 go_enter Tryz.func181,Tryz.ntmps181
 go_wp2_with (fail)
 refine (list_arr _ _ _ 91 93 91 93 rfl rfl R t f _ _ _ K _ l ([],(tw,dp,fr)) (unhide hI _ rfl) hl).mono ?_
 rintro e w5 hc
 rcases hc with⟨l',s',hs,rfl,hI5⟩|⟨hs,rfl,hJ⟩
 ·have HS:=hide hs
  have hb2:=hI5.b2
  have q2:w5.cell? ⟨w.heap.size+1+1+1,0,none⟩=some (.pointer (some ⟨w.heap.size+1+1,0,none⟩)):=by simp[World.cell?,hb2]
  have HI:=hide hI5
  clear hs hI5 hb2 hI
  go_wp2_with (fail)
  go_ret2
  refine⟨(unhide HI).kept,Or.inl ⟨s'.1,l',s'.2,_,unhide HS,rfl,(unhide HI).rd,arr_rep B (unhide HI)⟩⟩
 ·have HS:=hide hs
  have hb2:=hJ.2.2
  have q2:w5.cell? ⟨w.heap.size+1+1+1,0,none⟩=some (.pointer (some ⟨w.heap.size+1+1,0,none⟩)):=by simp[World.cell?,hb2]
  have HJ:=hide hJ
  clear hs hJ hb2 hI
  go_wp2_with (fail)
  go_ret2
  exact⟨(unhide HJ).1,Or.inr ⟨unhide HS,_,rfl,(unhide HJ).2.1⟩⟩
end
end Go.Proofs.YtdpomdelmdofmaaGreatDoor
