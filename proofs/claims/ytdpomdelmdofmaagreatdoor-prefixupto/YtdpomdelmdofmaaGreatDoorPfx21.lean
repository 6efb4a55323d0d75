import Derived.Test.YtdpomdelmdofmaaGreatDoorPfx20
import Derived.Laws.BytesArg
import Derived.Laws.IdiomStrings
import Derived.Lib.MapLaws
import Derived.Deep.DeepCutAuto
import Derived.Lib.SplitLaws
open Go.Lib renaming index->AI,splitK->A3,cut->A5
open List renaming length_append->AS,length_cons->AT,length_drop->A1
open Go.RowKit.Below renaming refl->A2
open Nat renaming le_refl->A4
set_option maxRecDepth 100000
set_option maxHeartbeats 8000000
namespace Go.Proofs.YtdpomdelmdofmaaGreatDoor
open Go.Proofs.Tryz Go.RowKit
def Rx:List By:=dN++dO
theorem O0{j:Nat}(hj:j<13):(Rx.getD j []).length<=8:=by
 have h:∀j:Fin 13,(Rx.getD j.val []).length<=8:=by decide
 exact h ⟨j,hj⟩
def Op(A:ByteArray)(cs:List Nat)(n:Nat):Prop:=∃A',A.data.toList=34::A'/\cM A' cs/\A.size<=1+12*n
theorem Uz(t:ByteArray)(p n:Nat):(t.extract p (p+n)).data.toList=(t.data.toList.drop p).take n:=by
 simp[List.take_drop]
theorem Mx.kept{w w':World}(h:Mx w)(hb:Below w.heap.size w w'):Mx w':=by
 obtain⟨m,h⟩:=h;exact⟨m,(hb.cell (p:=⟨6,0,none⟩) (Lib.lt_of_cell h)).trans h⟩
theorem WV(l:By)(w:World)(h:l.length<=1048576)(hm:Mx w):
  Calls Tryz.prog 145 #[.string ⟨l.toArray⟩,.string ⟨#[126]⟩] w fun e w'=>e=.returned (.tuple #[.string ⟨(A5 l [126]).1.toArray⟩,.string ⟨(A5 l [126]).2.1.toArray⟩,.bool (A5 l [126]).2.2]) /\ ∃n,w'=w.drewN n:=by
 obtain⟨m,hm⟩:=hm;exact Tryz.strings_Cut ⟨l.toArray⟩ ⟨#[126]⟩ m w (by rw[AU];omega) hm
theorem YQ{x:ByteArray}{l:By}(h:x.data.toList=l):x=⟨l.toArray⟩:=by
 cases x with
 | mk d=>simp at h;subst h;simp
theorem Nk(l:By)(k:Nat):(⟨l.toArray⟩:ByteArray).extract k l.length=⟨(l.drop k).toArray⟩:=by
 apply YQ;by_cases hk:k<=l.length
 ·have h1:=Uz ⟨l.toArray⟩ k (l.length-k);rw[show k+(l.length-k)=l.length by omega] at h1;rw[h1];show (l.drop k).take (l.length-k)=l.drop k;exact List.take_of_length_le (by simp)
 ·rw[List.drop_eq_nil_of_le (by omega)];apply List.eq_nil_of_length_eq_zero;simp;omega
def QU(o:Option By)(e:Ending):Prop:=match o with
 | some s=>e=.returned (.tuple #[.string ⟨s.toArray⟩,.bool true])
 | none=>e=.returned (.tuple #[.string ⟨#[]⟩,.bool false])
theorem Me{l:By}{w:World}(hn:l.length<=1048576)(hT:Er w)(hm:Mx w):
  Calls Tryz.prog 110 #[.string ⟨l.toArray⟩] w fun e w'=>QU (ZA l) e/\Below w.heap.size w w':=by
 have qj:=(A2 w.heap.size w).alloc (A4 _) (.cells #[.pointer none,.slice none 0 0] 119);have h0:Bu w.heap.size w.heap.size [] (w.alloc (.cells #[.pointer none,.slice none 0 0] 119)):=Or.inl ⟨A4 _,.slice none 0 0,by show (w.heap.push _)[w.heap.size]? = _;simp,World.ownsRow_nil _ _ _ _,by simp[Value.ownBlock]⟩;have HT:=Ab hT;have HM:=Ab hm;have qo:=Ab qj;have H0:=Ab h0;have HN:=Ab hn;clear hT hm qj h0 hn
 go_enter func110,ntmps110
 go_wp2_with (fail)
 go_loopw [0] (fun a wr=>∃l' q4,a=.string ⟨l'.toArray⟩/\Hid (Bu w.heap.size w.heap.size q4 wr)/\Hid (Below w.heap.size w wr)/\Hid (ZA l=(ZA l').map (q4 ++ ·))/\q4.length+l'.length<=l.length)
  (fun a _=>match a with | .string s=>s.size|_=>0)
 case atStart=>exact⟨l,[],rfl,H0,qo,by show ZA l=_;cases ZA l<;>rfl,by simp⟩
 case round=>
  obtain⟨l',q4,rfl,qk,HB,HE,qm⟩:=hrel;have hn:=Aa HN;have hcut:=Ab (WV l' wr (by omega) ((Aa HM).kept (Aa HB)));have hsz:=(Aa HB).size;rcases Pa l' with⟨h1,h2⟩|⟨h1,r,h2⟩
  ·rw[XX h1] at hcut;have HV:=Ab (show ZA l=some (q4++l') by rw[Aa HE,Xc h2];rfl);clear h1 h2
   go_wp2_with (fail);refine (Aa hcut).mono ?_
   rintro e w2 ⟨rfl,q,rfl⟩
   go_wp2_with (fail);refine (Fd l' (Bg (Aa qk) (EN (A2 _ _) q)) (by omega) (by show w.heap.size<=wr.heap.size;exact hsz)).mono ?_
   rintro e w3 ⟨rfl,q0,q7⟩;have hb3:=(EN (Aa HB) q).trans q7.low
   go_wp2_with (fail);refine (Tryz.Builder_String_any w.heap.size w.heap.size _ w3 q0 (by have:=hb3.size;omega)).mono ?_
   rintro e w4 ⟨rfl,q5⟩
   go_wp2_with (fail)
   go_ret2
   exact⟨by rw[Aa HV];simp[QU],hb3.trans q5⟩
  ·rw[WU h1 h2] at hcut;have hal:=X8 l';have qg:=G6 (126::r) (Pu l');rw[<- h2,Vy] at qg;have qr:(Z0 l').length+(r.length+1)=l'.length:=by
    have:=congrArg List.length h2;simp only[AS,AT] at this;omega
   have qh:=Ab qg;have H2:=Ab h2;generalize Z0 l'=p at *;clear qg h1 h2
   go_wp2_with (fail);refine (Aa hcut).mono ?_
   rintro e w2 ⟨rfl,q,rfl⟩
   go_wp2_with (fail);refine (Fd p (Bg (Aa qk) (EN (A2 _ _) q)) (by omega) (by show w.heap.size<=wr.heap.size;exact hsz)).mono ?_
   rintro e w3 ⟨rfl,q0,q7⟩;have q8:=Ab ((EN (Aa HB) q).trans q7.low);have qf:=Ab q0;have hx:(⟨l'.toArray⟩:ByteArray).extract p.length l'.length=⟨(126::r).toArray⟩:=by
    rw[Nk,Aa H2];simp
   have qb:(⟨l'.toArray⟩:ByteArray).size=l'.length:=AU _;have qq:(p.length:Int)<=((⟨l'.toArray⟩:ByteArray).size:Int):=by rw[qb];omega
   clear q0 q7
   go_wp2_with (fail);refine (N9 (126::r) w3 ((Aa HT).kept (Aa q8))).mono ?_
   rintro e w4 ⟨rfl,q5⟩;have qd:=Ab ((Aa q8).trans (q5.mono (Aa q8).size));have q9:=Ab (Bg (Aa qf) q5);clear q5;cases hpe:aV (126::r) with
   | none=>
    have HV:=Ab (show ZA l=none by
     have h9:=Aa qh;rw[hpe] at h9;rw[Aa HE,h9];rfl)
    clear hpe;unfold MG
    go_wp2_with (fail)
    go_ret2
    exact⟨by rw[Aa HV];rfl,Aa qd⟩
   | some c=>
    have HV:=Ab (show ZA l=(ZA ((126::r).drop 2)).map (q4++p++[c] ++ ·) by
     have h9:=Aa qh;rw[hpe] at h9;rw[Aa HE,h9];cases ZA ((126::r).drop 2)<;>simp)
    have qt:1<=r.length:=by
     cases r with
     | nil=>cases hpe
     | cons _ _=>simp
    have hx2:(⟨(126::r).toArray⟩:ByteArray).extract 2 (126::r).length=⟨((126::r).drop 2).toArray⟩:=Nk _ _;have hs2:(⟨(126::r).toArray⟩:ByteArray).size=r.length+1:=by rw[AU];rfl
    clear hpe hx;unfold MG
    go_wp2_with (fail);refine (Bo c _ rfl (Aa q9) (by simp only[AS];omega) (Aa qd).size).mono ?_
    rintro e w5 ⟨rfl,q6,qi⟩;have qe:=Ab q6;have qn:=Ab ((Aa qd).trans qi.low);have qp:(2:Int)<=((⟨(126::r).toArray⟩:ByteArray).size:Int):=by rw[hs2];omega
    clear q6 qi
    go_wp2_with (fail);rw[show ((⟨(126::r).toArray⟩:ByteArray).extract 2 (r.length+1))=⟨((126::r).drop 2).toArray⟩ from hx2]
    refine⟨⟨(126::r).drop 2,q4++p++[c],rfl,qe,qn,HV,?_⟩,?_⟩
    ·simp only[AS,A1,AT,List.length_nil];omega
    ·show (⟨((126::r).drop 2).toArray⟩:ByteArray).size<(⟨l'.toArray⟩:ByteArray).size;rw[AU,AU];simp only[A1,AT];omega
theorem Xr(l:By):ZE l≠[]:=by
 cases l with
 | nil=>intro h;cases h
 | cons c r=>
  unfold ZE
  grind
theorem R6:∀l:By,(AI l [47] = -1/\l.count 47=0/\ZE l=[l])\/(AI l [47]=(aT l).length /\ ∃r,l=aT l++47::r/\l.count 47=r.count 47+1/\ZE l=aT l::ZE r)
 | []=>Or.inl ⟨rfl,rfl,rfl⟩
 | b::l=>by
  by_cases hb:b=47
  ·subst hb;exact Or.inr ⟨by rfl,l,by rfl,by simp,by rfl⟩
  ·have h1:aT (b::l)=b::aT l:=by simp[aT,hb]
   have h2:AI (b::l) [47]=if AI l [47]==-1 then -1 else AI l [47]+1:=by
    grind [aT,ZE,AI]
   have h3:(b::l).count 47=l.count 47:=by grind
   have h4:ZE (b::l)=match ZE l with|p::ps=>(b::p)::ps|[]=>[[b]]:=by
    grind [aT,ZE,AI]
   rw[h1,h2,h3,h4];rcases R6 l with⟨e1,e2,e3⟩|⟨e1,r,e2,e3,e4⟩
   ·grind
   grind
theorem N0(q0:By)(k:Nat)(l:By):A3 q0 0 (k+1) l=if AI l q0==-1 then [l] else l.take ((AI l q0).toNat+0)::A3 q0 0 k (l.drop ((AI l q0).toNat+q0.length)):=rfl
theorem KS:∀ (n:Nat) (l:By),l.length<=n->A3 [47] 0 (l.count 47) l=ZE l
 | n,l,hn=>by
  rcases R6 l with⟨e1,e2,e3⟩|⟨e1,r,e2,e3,e4⟩
  ·rw[e2,e3];rfl
  ·have hr:r.length<l.length:=by
    grind
   rw[e3,e4]
   match n with
   | 0=>omega
   | n+1=>
    rw[<- KS n r (by omega)];rw[N0,e1,if_neg (by simp)];simp only[Int.toNat_natCast,Nat.add_zero];have t1:l.take (aT l).length=aT l:=by
     grind
    have t2:l.drop ((aT l).length+[(47:UInt8)].length)=r:=by
     have h1:(aT l++47::r).drop ((aT l).length+1)=r:=by
      rw[<- List.drop_drop,List.drop_left' rfl];rfl
     grind
    rw[t1,t2]
end Go.Proofs.YtdpomdelmdofmaaGreatDoor
