import Derived.Test.YtdpomdelmdofmaaGreatDoorRea03
import Derived.Laws.Rows
import Derived.Ground.GgzProg
import Derived.Ground.SlgmProg
import Derived.Shelf.LaysM
import Derived.Shelf.SlIter.Nil
import Derived.Shelf.Small.Strs
import Derived.Shelf.Small.Utf8
import Derived.Shelf.SortM.Plain
import Derived.Shelf.SortM.SortNone
import Derived.Shelf.Strconv.Clone
import Derived.Shelf.Strconv.Itoa0
import Derived.Shelf.Strconv.Itoa1
import Derived.Shelf.Strconv.Itoa2
import Derived.Shelf.Strings.AsciiSet
import Derived.Shelf.Strings.Builder1
import Derived.Shelf.Strings.BuilderF
import Derived.Shelf.Strings.BuilderK
import Derived.Shelf.Strings.Count
import Derived.Shelf.Strings.Cut
import Derived.Shelf.Strings.Prefix
import Derived.Shelf.Strings.Runes
import Derived.Shelf.Strings.Search1
import Derived.Shelf.Strings.Search2
import Derived.Shelf.Strings.Search3
import Derived.Shelf.Strings.Shaped
import Derived.Shelf.Strings.Trim
import Derived.Shelf.Unicode.Decode
import Derived.Shelf.Unicode.DecodeAny
import Derived.Shelf.Utf8.AppendRunePlain
open Go.Proofs.Tryz renaming prog->AI
open Go.Shelf renaming Ren->AS
open Go.Instr renaming index->AT
open Go renaming World->A1,Calls->A4
open Go.Fence renaming wide->A2
open Or renaming inr->A3,inl->A5
open Go.Lib renaming runeCells->A6,decodeGo->BY
open Go.Maps renaming size->Bs
set_option maxHeartbeats 1000000
namespace Go.Proofs.YtdpomdelmdofmaaGreatDoor
open Go.Proofs.Tryz
open Go.RowKit
theorem GS{w:A1}{R:Nat}{t:ByteArray}{l:By}{tw:Bool}{dp fr:Int}(h:RD w R t l tw dp fr):
  A4 AI 312 #[.pointer (some ⟨R,0,none⟩)] w fun e w'=>Ae R w w' /\ ∃l',RD w' R t l' tw dp fr /\
   ((∃n,Ce 4 0 l=some (n,l')/\e=.returned (.tuple #[.int .i32 n,.bool true]))\/(Ce 4 0 l=none/\e=.returned (.tuple #[.int .i32 0,.bool false]))):=by
 go_enter func312,ntmps312
 go_wp2_with (fail)
 go_loopw [4,7] (fun n i wr=>∃ (k m:Nat) (l':By),k<=4/\i=.int .i64 k/\n=.int .i32 m/\m<16 ^ k/\RD wr R t l' tw dp fr/\Ce 4 0 l=Ce (4-k) m l'/\Ae R w wr) (fun _ i _=>4-(intOf i).toNat)
 case atStart=>exact⟨0,0,l,by omega,rfl,rfl,by omega,h,rfl,Ae.refl R w⟩
 case round=>
  obtain⟨k,m,l',q8,rfl,rfl,hm,hr,he,hk⟩:=hrel;have HE:=Ab he;clear he h;by_cases hlt:k<4
  ·have h5:∃j,4-k=j+1:=⟨3-k,by omega⟩
   cases hd:Eu (eS l') with
   | none=>
    have HD:=Ab hd;clear hd
    go_wp2_with (fail);refine (Ku hr).mono ?_
    rintro e w1 ⟨rfl,q5,q0⟩
    go_wp2_with (fail);refine (WL _ _ (Kt l') (Aa HD)).mono ?_
    rintro e w2 ⟨rfl,rfl⟩
    go_wp2_with (fail)
    go_ret2
    refine⟨hk.trans q0,l',q5,A3 ⟨?_,rfl⟩⟩;obtain⟨j,hj⟩:=h5;rw[Aa HE,hj,Ce,Aa HD]
   | some d=>
    have HD:=Ab hd;have q7:=QM hd;clear hd
    go_wp2_with (fail);refine (Ku hr).mono ?_
    rintro e w1 ⟨rfl,q5,q0⟩
    go_wp2_with (fail);refine (WK _ d _ (Aa HD)).mono ?_
    rintro e w2 ⟨rfl,rfl⟩;obtain⟨q,ha,hq⟩:=q5;have c1:=hq.c1;have f1:=hq.fz 1;have hs:=ha.small;have qb:=ha.le;have HQ:=Ab hq;have q6:=Ab ha;clear hq ha hr
    go_wp2_with (fail)
    go_roundw
    case rel=>
     obtain⟨j,hj⟩:=h5;have q9:(16:Nat) ^ k<=16 ^ 3:=Nat.pow_le_pow_right (by omega) (by omega);have q4:1<=l'.length:=by
      have:=Aa HD
      grind [Ce,eS,Eu]
     refine⟨k+1,m*16+d,l'.tail,by omega,by go_num,by rw[Z5 m d (by omega) q7],by omega,⟨q+1,by simpa using (Aa q6).add 1 q4,(Aa HQ).set1 (q+1)⟩,?_,(hk.trans q0).setCell rfl _⟩;rw[Aa HE,hj,Ce,Aa HD,show 4-(k+1)=j by omega]
    case measure=>simp[intOf];omega
  ·go_wp2_with (fail)
   go_ret2
   refine⟨hk,l',hr,A5 ⟨m,?_,rfl⟩⟩;rw[Aa HE,show 4-k=0 by omega,Ce]
end Go.Proofs.YtdpomdelmdofmaaGreatDoor

set_option maxHeartbeats 1000000
namespace Go.Proofs.YtdpomdelmdofmaaGreatDoor
open Go.Proofs.Tryz
open Go.RowKit
variable{l:By}
theorem A7{c:UInt8}(h:¬ eA l c=true):eA l c=false:=by grind
theorem Ei{c:UInt8}(h:eA l c=true)(hc:jC c=true):eF l=eF l.tail/\l.tail.length<l.length:=by
 cases l with
 | nil=>simp[eA] at h
 | cons d r=>
  have:d=c:=by simpa[eA] using h
  subst this;simp[eF,hc]
theorem ZG(h1:eA l 32=false)(h2:eA l 9=false)(h3:eA l 10=false)(h4:eA l 13=false):eF l=l:=by
 cases l with
 | nil=>rfl
 | cons d r=>
  grind [eA,eF,jC]
theorem BZ{w:A1}{R:Nat}{t:ByteArray}{tw:Bool}{dp fr:Int}(h:RD w R t l tw dp fr):
  A4 AI 136 #[.pointer (some ⟨R,0,none⟩)] w fun e w'=>e=.returned (.tuple #[])/\RD w' R t (eF l) tw dp fr/\Ae R w w':=by
 go_enter func136,ntmps136
 go_wp2_with (fail)
 go_loopw [2] (fun _ wr=>∃l',RD wr R t l' tw dp fr/\eF l=eF l'/\Ae R w wr) (fun _ wr=>left wr R)
 case atStart=>exact⟨l,h,rfl,Ae.refl R w⟩
 case round=>
  obtain⟨l',hr,he,hk⟩:=hrel;have HE:=Ab he;have HL:=Ab hr.left;clear he h;by_cases k1:eA l' 32=true
  ·go_wp2_with (fail);refine (AG 32 _ rfl hr k1).mono ?_
   rintro e w' ⟨rfl,q0,q4⟩
   go_wp2_with (fail)
   go_roundw
   case rel=>exact⟨l'.tail,q0,(Aa HE).trans (Ei k1 rfl).1,hk.trans q4⟩
   case measure=>rw[q0.left,Aa HL];exact (Ei k1 rfl).2
  ·have k1:=Ab (A7 k1)
   go_wp2_with (fail);refine (Bk 32 _ rfl hr (Aa k1)).mono ?_
   rintro e w1 ⟨rfl,q8,q5⟩;have q5:=hk.trans q5;by_cases k2:eA l' 9=true
   ·go_wp2_with (fail);refine (AG 9 _ rfl q8 k2).mono ?_
    rintro e w' ⟨rfl,q0,q4⟩
    go_wp2_with (fail)
    go_roundw
    case rel=>exact⟨l'.tail,q0,(Aa HE).trans (Ei k2 rfl).1,q5.trans q4⟩
    case measure=>rw[q0.left,Aa HL];exact (Ei k2 rfl).2
   ·have k2:=Ab (A7 k2)
    go_wp2_with (fail);refine (Bk 9 _ rfl q8 (Aa k2)).mono ?_
    rintro e w2 ⟨rfl,q9,hk2⟩;have hk2:=q5.trans hk2;by_cases k3:eA l' 10=true
    ·go_wp2_with (fail);refine (AG 10 _ rfl q9 k3).mono ?_
     rintro e w' ⟨rfl,q0,q4⟩
     go_wp2_with (fail)
     go_roundw
     case rel=>exact⟨l'.tail,q0,(Aa HE).trans (Ei k3 rfl).1,hk2.trans q4⟩
     case measure=>rw[q0.left,Aa HL];exact (Ei k3 rfl).2
    ·have k3:=Ab (A7 k3)
     go_wp2_with (fail);refine (Bk 10 _ rfl q9 (Aa k3)).mono ?_
     rintro e w3 ⟨rfl,qb,q6⟩;have q6:=hk2.trans q6;by_cases k4:eA l' 13=true
     ·go_wp2_with (fail);refine (AG 13 _ rfl qb k4).mono ?_
      rintro e w' ⟨rfl,q0,q4⟩
      go_wp2_with (fail)
      go_roundw
      case rel=>exact⟨l'.tail,q0,(Aa HE).trans (Ei k4 rfl).1,q6.trans q4⟩
      case measure=>rw[q0.left,Aa HL];exact (Ei k4 rfl).2
     ·have k4:=Ab (A7 k4)
      go_wp2_with (fail);refine (Bk 13 _ rfl qb (Aa k4)).mono ?_
      rintro e w4 ⟨rfl,qd,q7⟩;have q7:=q6.trans q7
      go_wp2_with (fail);have hq:=ZG (Aa k1) (Aa k2) (Aa k3) (Aa k4)
      go_end0
      refine⟨rfl,?_,q7⟩;rw[Aa HE,hq];exact qd
end Go.Proofs.YtdpomdelmdofmaaGreatDoor

set_option maxHeartbeats 2000000
namespace Go.Proofs.YtdpomdelmdofmaaGreatDoor
open Go.Proofs.Tryz
open Go.RowKit
theorem RZ(k n:Nat)(l:By)(m:Nat)(r:By)(h:Ce k n l=some (m,r)):m<(n+1)*16 ^ k:=by
 induction k generalizing n l with
 | zero=>simp[Ce] at h;omega
 | succ k ih=>
  rw[Ce] at h;cases hd:Eu (eS l) with
  | none=>grind
  | some d=>
   rw[hd] at h;have h1:=ih _ _ h;have h2:=QM hd;have h3:(n*16+d+1)*16 ^ k<=(n+1)*16*16 ^ k:=Nat.mul_le_mul_right _ (by omega)
   grind
theorem Nz{l r:By}{m:Nat}(h:Ce 4 0 l=some (m,r)):m<65536:=by
 have:=RZ 4 0 l m r h;omega
def Yn(l:By)(e:Ending)(w':A1)(R:Nat)(t:ByteArray)(tw:Bool)(dp fr:Int):Prop:=
 (∃n l',B8 l=some (n,l')/\e=.returned (.tuple #[.int .i32 n,.bool true])/\RD w' R t l' tw dp fr) \/
  (B8 l=none /\ ∃n l',e=.returned (.tuple #[.int .i32 n,.bool false])/\RD w' R t l' tw dp fr)
theorem Rv{w:A1}{R:Nat}{t:ByteArray}{l:By}{tw:Bool}{dp fr:Int}(h:RD w R t l tw dp fr):
  A4 AI 295 #[.pointer (some ⟨R,0,none⟩)] w fun e w'=>Ae R w w'/\Yn l e w' R t tw dp fr:=by
 go_enter func295,ntmps295
 go_wp2_with (fail);refine (GS h).mono ?_
 rintro e w1 ⟨q0,l1,q4,hc⟩;rcases hc with⟨a,ha,rfl⟩|⟨hn,rfl⟩
 ·have HS:Hid (B8 l=if a<55296\/57344<=a then some (a,l1) else if 56320<=a then none
   else if eA l1 92 then (if eA l1.tail 117 then (match Ce 4 0 l1.tail.tail with
     | none=>none
     | some (b,r')=>if b<56320\/57344<=b then none else some (65536+(a-55296)*1024+(b-56320),r'))
    else none) else none):=by unfold B8;rw[ha];rfl
  have hb:=Nz ha;clear ha h;by_cases c1:a<55296
  ·have e1:decide ((a:Int)<55296)=true:=by simp;omega
   go_wp2_with (fail)
   go_ret2
   refine⟨q0,A5 ⟨a,l1,?_,rfl,q4⟩⟩
   grind [B8,eA,Hid]
  ·by_cases c2:57344<=a
   ·have e1:decide ((a:Int)<55296)=false:=by simp;omega
    have e2:decide ((57344:Int)<=(a:Int))=true:=by simp;omega
    go_wp2_with (fail)
    go_ret2
    refine⟨q0,A5 ⟨a,l1,?_,rfl,q4⟩⟩
    grind [B8,eA,Hid]
   ·have e1:decide ((a:Int)<55296)=false:=by simp;omega
    have e2:decide ((57344:Int)<=(a:Int))=false:=by simp;omega
    by_cases c3:56320<=a
    ·have e3:decide ((56320:Int)<=(a:Int))=true:=by simp;omega
     go_wp2_with (fail)
     go_ret2
     refine⟨q0,A3 ⟨?_,0,l1,rfl,q4⟩⟩
     grind [B8,eA,Hid]
    ·have e3:decide ((56320:Int)<=(a:Int))=false:=by simp;omega
     have HT:Hid (B8 l=if eA l1 92 then (if eA l1.tail 117 then (match Ce 4 0 l1.tail.tail with
       | none=>none
       | some (b,r')=>if b<56320\/57344<=b then none else some (65536+(a-55296)*1024+(b-56320),r'))
      else none) else none):=by grind
     clear HS;by_cases k1:eA l1 92=true
     ·have K1:=Ab k1;clear k1
      go_wp2_with (fail);refine (AG 92 _ rfl q4 (Aa K1)).mono ?_
      rintro e w2 ⟨rfl,q5,hk2⟩;by_cases k2:eA l1.tail 117=true
      ·have K2:=Ab k2;clear k2
       go_wp2_with (fail);refine (AG 117 _ rfl q5 (Aa K2)).mono ?_
       rintro e w3 ⟨rfl,q8,q7⟩
       go_wp2_with (fail);refine (GS q8).mono ?_
       rintro e w4 ⟨qb,l4,q6,hc⟩;have hkk:=((q0.trans hk2).trans q7).trans qb;rcases hc with⟨b,q9,rfl⟩|⟨hn,rfl⟩
       ·have qd:=Nz q9;have HU:Hid (B8 l=if b<56320\/57344<=b then none else some (65536+(a-55296)*1024+(b-56320),l4)):=by
         grind [B8,eA,Hid]
        clear HT q9;by_cases d1:b<56320
        ·have g1:decide ((b:Int)<56320)=true:=by simp;omega
         go_wp2_with (fail)
         go_ret2
         exact⟨hkk,A3 ⟨by grind [B8,eA,Hid],0,l4,rfl,q6⟩⟩
        ·have g1:decide ((b:Int)<56320)=false:=by simp;omega
         by_cases d2:57344<=b
         ·have g2:decide ((57344:Int)<=(b:Int))=true:=by simp;omega
          go_wp2_with (fail)
          go_ret2
          exact⟨hkk,A3 ⟨by grind [B8,eA,Hid],0,l4,rfl,q6⟩⟩
         ·have g2:decide ((57344:Int)<=(b:Int))=false:=by simp;omega
          have he:Hid (65536+((a:Int)-55296)*1024+(b:Int)-56320=((65536+(a-55296)*1024+(b-56320):Nat):Int)):=Ab (by omega)
          go_wp2_with (fail);rw[Aa he]
          go_ret2
          exact⟨hkk,A5 ⟨65536+(a-55296)*1024+(b-56320),l4,by grind [B8,eA,Hid],rfl,q6⟩⟩
       ·have HU:Hid (B8 l=none):=by grind
        clear HT hn
        go_wp2_with (fail)
        go_ret2
        exact⟨hkk,A3 ⟨Aa HU,0,l4,rfl,q6⟩⟩
      ·have K2:=Ab (A7 k2);clear k2
       go_wp2_with (fail);refine (Bk 117 _ rfl q5 (Aa K2)).mono ?_
       rintro e w3 ⟨rfl,q8,q7⟩
       go_wp2_with (fail)
       go_ret2
       refine⟨(q0.trans hk2).trans q7,A3 ⟨?_,0,_,rfl,q8⟩⟩
       grind [B8,eA,Hid]
     ·have K1:=Ab (A7 k1);clear k1
      go_wp2_with (fail);refine (Bk 92 _ rfl q4 (Aa K1)).mono ?_
      rintro e w2 ⟨rfl,q5,hk2⟩
      go_wp2_with (fail)
      go_ret2
      refine⟨q0.trans hk2,A3 ⟨?_,0,_,rfl,q5⟩⟩
      grind [B8,eA,Hid]
 ·have HS:Hid (B8 l=none):=by unfold Hid B8;rw[hn]
  clear hn h
  go_wp2_with (fail)
  go_ret2
  exact⟨q0,A3 ⟨Aa HS,0,l1,rfl,q4⟩⟩
end Go.Proofs.YtdpomdelmdofmaaGreatDoor

set_option maxHeartbeats 2000000
namespace Go.Proofs.YtdpomdelmdofmaaGreatDoor
open Go.Proofs.Tryz
open Go.RowKit
def OZ(j:Nat):UInt8:=(F0.getD j (0,0)).1
def R9(j:Nat):Nat:=(F0.getD j (0,0)).2
theorem aH(w:A1):(AT 335 (.agg Cp) (.int .i64 0)).run AI w=.ok (.agg #[.int .u8 34,.int .i32 34]) w:=by kernel_rfl
theorem aG(w:A1):(AT 335 (.agg Cp) (.int .i64 1)).run AI w=.ok (.agg #[.int .u8 92,.int .i32 92]) w:=by kernel_rfl
theorem aF(w:A1):(AT 335 (.agg Cp) (.int .i64 2)).run AI w=.ok (.agg #[.int .u8 47,.int .i32 47]) w:=by kernel_rfl
theorem aE(w:A1):(AT 335 (.agg Cp) (.int .i64 3)).run AI w=.ok (.agg #[.int .u8 98,.int .i32 8]) w:=by kernel_rfl
theorem aD(w:A1):(AT 335 (.agg Cp) (.int .i64 4)).run AI w=.ok (.agg #[.int .u8 102,.int .i32 12]) w:=by kernel_rfl
theorem aC(w:A1):(AT 335 (.agg Cp) (.int .i64 5)).run AI w=.ok (.agg #[.int .u8 110,.int .i32 10]) w:=by kernel_rfl
theorem aB(w:A1):(AT 335 (.agg Cp) (.int .i64 6)).run AI w=.ok (.agg #[.int .u8 114,.int .i32 13]) w:=by kernel_rfl
theorem Z9(w:A1):(AT 335 (.agg Cp) (.int .i64 7)).run AI w=.ok (.agg #[.int .u8 116,.int .i32 9]) w:=by kernel_rfl
theorem Y6(j:Nat)(hj:j<8)(w:A1):(AT 335 (.agg Cp) (.int .i64 j)).run AI w=.ok (.agg #[.int .u8 (OZ j).toNat,.int .i32 (R9 j)]) w:=by
 match j,hj with
 | 0,_=>exact aH w
 | 1,_=>exact aG w
 | 2,_=>exact aF w
 | 3,_=>exact aE w
 | 4,_=>exact aD w
 | 5,_=>exact aC w
 | 6,_=>exact aB w
 | 7,_=>exact Z9 w
theorem OY(l:By)(j:Nat)(hj:j<8):Ev l (F0.drop j)=if eA l (OZ j) then some (R9 j,l.tail) else Ev l (F0.drop (j+1)):=by
 match j,hj with
 | 0,_=>rfl
 | 1,_=>rfl
 | 2,_=>rfl
 | 3,_=>rfl
 | 4,_=>rfl
 | 5,_=>rfl
 | 6,_=>rfl
 | 7,_=>rfl
def EH(o:Option (Nat×By))(e:Ending)(w':A1)(R:Nat)(t:ByteArray)(tw:Bool)(dp fr:Int):Prop:=
 (∃n l',o=some (n,l')/\e=.returned (.tuple #[.int .i32 n,.bool true])/\RD w' R t l' tw dp fr) \/
  (o=none /\ ∃n l',e=.returned (.tuple #[.int .i32 n,.bool false])/\RD w' R t l' tw dp fr)
theorem PS{w:A1}{R:Nat}{t:ByteArray}{l:By}{tw:Bool}{dp fr:Int}(h:RD w R t l tw dp fr)(hT:Ai w)(hR:NG<=R)(k1:eA l 117=false):
  A4 AI 261 #[.pointer (some ⟨R,0,none⟩)] w fun e w'=>Ae R w w'/\EH (gZ l) e w' R t tw dp fr:=by
 have hE:Hid (gZ l=Ev l F0):=by unfold Hid gZ;grind
 have K1:=Ab k1;clear k1
 go_enter func261,ntmps261
 go_wp2_with (fail);refine (Bk 117 _ rfl h (Aa K1)).mono ?_
 rintro e w1 ⟨rfl,q7,q5⟩;obtain⟨tt,fz,q4⟩:=(hT.kept q5 hR).esc;clear h hT
 go_wp2_with (refine wpList_load_row rfl 335 _ rfl 7 rfl tt _ fz _ q4 underlying335 rfl (by kernel_rfl) ?_)
 clear q4
 go_loopw [13] (fun i wr=>∃j:Nat,j<=8/\i=.int .i64 j/\RD wr R t l tw dp fr/\Ae R w wr/\Ev l F0=Ev l (F0.drop j)) (fun i _=>8-(intOf i).toNat)
 case atStart=>grind
 case round=>
  obtain⟨j,q8,rfl,hr,hk,he⟩:=hrel;have HE:=Ab he;clear he q7 q5;by_cases hlt:j<8
  ·have q6:=Y6 j hlt
   go_wp2_with (fail);by_cases k2:eA l (OZ j)=true
   ·have K2:=Ab k2;clear k2;refine (AG (OZ j) _ rfl (hr.alloc _) (Aa K2)).mono ?_;rintro e w2 ⟨rfl,q0,hk2⟩;have d1:w2.cell? ⟨wr.heap.size,1,none⟩=some (.int .i32 (R9 j)):=by
     rw[hk2.cell (by simp) (by have:=hr.lt;simp;omega)];simp
    go_wp2_with (fail)
    go_ret2
    refine⟨(hk.alloc _).trans hk2,A5 ⟨R9 j,l.tail,?_,rfl,q0⟩⟩;rw[Aa hE,Aa HE,OY l j hlt,Aa K2];rfl
   ·have K2:=Ab (A7 k2);clear k2;refine (Bk (OZ j) _ rfl (hr.alloc _) (Aa K2)).mono ?_;rintro e w2 ⟨rfl,q0,hk2⟩
    go_wp2_with (fail)
    go_roundw
    case rel=>exact⟨j+1,by omega,by go_num,q0,(hk.alloc _).trans hk2,by rw[Aa HE,OY l j hlt,Aa K2];rfl⟩
    case measure=>simp[intOf];omega
  ·go_wp2_with (fail)
   go_ret2
   refine⟨hk,A3 ⟨?_,0,l,rfl,hr⟩⟩;rw[Aa hE,Aa HE,show j=8 by omega];rfl
theorem R8{w:A1}{R:Nat}{t:ByteArray}{l:By}{tw:Bool}{dp fr:Int}(h:RD w R t l tw dp fr)(hT:Ai w)(hR:NG<=R):
  A4 AI 261 #[.pointer (some ⟨R,0,none⟩)] w fun e w'=>Ae R w w'/\EH (gZ l) e w' R t tw dp fr:=by
 by_cases k1:eA l 117=true
 ·have hE:Hid (gZ l=B8 l.tail):=by unfold Hid gZ;grind
  have K1:=Ab k1;clear k1 hT
  go_enter func261,ntmps261
  go_wp2_with (fail);refine (AG 117 _ rfl h (Aa K1)).mono ?_
  rintro e w1 ⟨rfl,q5,q4⟩
  go_wp2_with (fail);refine (Rv q5).mono ?_
  rintro e w2 ⟨hk2,hc⟩;rcases hc with⟨n,l',hs,rfl,q0⟩|⟨hs,n,l',rfl,q0⟩
  ·have HS:=Ab hs;clear hs
   go_wp2_with (fail)
   go_ret2
   exact⟨q4.trans hk2,A5 ⟨n,l',by rw[Aa hE];exact Aa HS,rfl,q0⟩⟩
  ·have HS:=Ab hs;clear hs
   go_wp2_with (fail)
   go_ret2
   exact⟨q4.trans hk2,A3 ⟨by rw[Aa hE];exact Aa HS,n,l',rfl,q0⟩⟩
 ·exact PS h hT hR (A7 k1)
end Go.Proofs.YtdpomdelmdofmaaGreatDoor

set_option maxHeartbeats 1000000
namespace Go.Proofs
open Go.Shelf
def Tryz.lays169_ren:AS:=⟨fun|169=>79|n=>n,fun|70=>116|9=>9|0=>0|72=>119|37=>117|127=>166|3=>3|5=>5|n=>n,fun|n=>n⟩
theorem Tryz.lays169:Go.Proofs.Lays.n169 AI Tryz.lays169_ren:={
 mixed:=by kernel_rfl
 f169:=Tryz.func79.trans (congrArg some (by kernel_rfl))
 t0:=underlying0
 a0:=Tryz.isAgg0
 z0:=Tryz.sizeOf0
 v0:=Tryz.zeroValue0
 t3:=underlying3
 a3:=Tryz.isAgg3
 z3:=Tryz.sizeOf3
 v3:=Tryz.zeroValue3
 t9:=underlying9
 a9:=Tryz.isAgg9
 z9:=Tryz.sizeOf9
 v9:=Tryz.zeroValue9
 t37:=underlying117
 a37:=Tryz.isAgg117
 z37:=Tryz.sizeOf117
 v37:=Tryz.zeroValue117
 t70:=underlying116
 a70:=Tryz.isAgg116
 z70:=Tryz.sizeOf116
 v70:=Tryz.zeroValue116
 t72:=underlying119
 a72:=Tryz.isAgg119
 z72:=Tryz.sizeOf119
 v72:=Tryz.zeroValue119
 t127:=underlying166
 a127:=Tryz.isAgg166
 z127:=Tryz.sizeOf166
 v127:=Tryz.zeroValue166 }
theorem Tryz.Builder_Extra_169:Builder.Extra AI Tryz.lays169_ren:={
 sizeBuilder:=by kernel_rfl
 liesBuilder:=by kernel_rfl
 t5:=underlying5
 a5:=Tryz.isAgg5
 z5:=Tryz.sizeOf5
 v5:=Tryz.zeroValue5
 infoByte:=by kernel_rfl
 cellsByte:=by kernel_rfl
 sizeByte:=by kernel_rfl
 neB5:=by decide }
open Go.RowKit in
theorem Tryz.Builder_String_any(B b:Nat)(l:List UInt8)(w:A1)(h:Lib.IsBuilder 119 5 B b (Lib.byteCells l) w)(q0:B<=w.heap.size):
  A4 AI 79 #[.pointer (some ⟨b,0,none⟩)] w fun e w'=>e=.returned (.string ⟨l.toArray⟩)/\Below B w w':=Any.Builder_String_any Tryz.lays169 Tryz.Builder_Extra_169 B b l w h q0
def Tryz.lays161_ren:AS:=⟨fun|161=>263|231=>234|227=>236|233=>237|235=>239|228=>281|197=>230|151=>282|260=>276|152=>306|137=>314|119=>315|224=>279|225=>278|217=>277|266=>304|n=>n,fun|9=>9|4=>4|3=>3|5=>5|117=>295|116=>294|0=>0|124=>298|105=>289|21=>21|119=>207|46=>201|139=>210|138=>209|n=>n,fun|3=>1|4=>2|n=>n⟩
theorem Tryz.lays161:Go.Proofs.Lays.n161 AI Tryz.lays161_ren:={
 mixed:=by kernel_rfl
 f119:=Tryz.func315.trans (congrArg some (by kernel_rfl))
 f137:=Tryz.func314.trans (congrArg some (by kernel_rfl))
 f151:=Tryz.func282.trans (congrArg some (by kernel_rfl))
 f152:=Tryz.func306.trans (congrArg some (by kernel_rfl))
 f161:=Tryz.func263.trans (congrArg some (by kernel_rfl))
 f197:=Tryz.func230.trans (congrArg some (by kernel_rfl))
 f217:=Tryz.func277.trans (congrArg some (by kernel_rfl))
 f224:=Tryz.func279.trans (congrArg some (by kernel_rfl))
 f225:=Tryz.func278.trans (congrArg some (by kernel_rfl))
 f227:=Tryz.func236.trans (congrArg some (by kernel_rfl))
 f228:=Tryz.func281.trans (congrArg some (by kernel_rfl))
 f231:=Tryz.func234.trans (congrArg some (by kernel_rfl))
 f233:=Tryz.func237.trans (congrArg some (by kernel_rfl))
 f235:=Tryz.func239.trans (congrArg some (by kernel_rfl))
 f260:=Tryz.func276.trans (congrArg some (by kernel_rfl))
 f266:=Tryz.func304.trans (congrArg some (by kernel_rfl))
 t0:=underlying0
 a0:=Tryz.isAgg0
 z0:=Tryz.sizeOf0
 v0:=Tryz.zeroValue0
 t3:=underlying3
 a3:=Tryz.isAgg3
 z3:=Tryz.sizeOf3
 v3:=Tryz.zeroValue3
 t4:=underlying4
 a4:=Tryz.isAgg4
 z4:=Tryz.sizeOf4
 v4:=Tryz.zeroValue4
 t5:=underlying5
 a5:=Tryz.isAgg5
 z5:=Tryz.sizeOf5
 v5:=Tryz.zeroValue5
 t9:=underlying9
 a9:=Tryz.isAgg9
 z9:=Tryz.sizeOf9
 v9:=Tryz.zeroValue9
 t21:=underlying21
 a21:=Tryz.isAgg21
 z21:=Tryz.sizeOf21
 v21:=Tryz.zeroValue21
 t46:=underlying201
 a46:=Tryz.isAgg201
 z46:=Tryz.sizeOf201
 v46:=Tryz.zeroValue201
 t105:=underlying289
 a105:=Tryz.isAgg289
 z105:=Tryz.sizeOf289
 v105:=Tryz.zeroValue289
 t116:=underlying294
 a116:=Tryz.isAgg294
 z116:=Tryz.sizeOf294
 t117:=underlying295
 a117:=Tryz.isAgg295
 z117:=Tryz.sizeOf295
 v117:=Tryz.zeroValue295
 t119:=underlying207
 a119:=Tryz.isAgg207
 z119:=Tryz.sizeOf207
 t124:=underlying298
 a124:=Tryz.isAgg298
 z124:=Tryz.sizeOf298
 v124:=Tryz.zeroValue298
 t138:=underlying209
 a138:=Tryz.isAgg209
 z138:=Tryz.sizeOf209
 v138:=Tryz.zeroValue209
 t139:=underlying210
 a139:=Tryz.isAgg210
 z139:=Tryz.sizeOf210
 v139:=Tryz.zeroValue210
 g3:=by kernel_rfl
 g4:=by kernel_rfl }
open Go.RowKit in
theorem Tryz.strings_TrimLeft_one(s:ByteArray)(c:UInt8)(hc:c.toNat<128)(w:A1):
  A4 AI 263 #[.string s,.string ⟨#[c]⟩] w fun e w'=>e=.returned (.string ⟨(Lib.trimLeftB s.data.toList c).toArray⟩)/\w'=w:=Any.strings_TrimLeft_one Tryz.lays161 s c hc w
def Tryz.lays162_ren:AS:=⟨fun|162=>264|232=>235|227=>236|234=>238|236=>240|228=>281|271=>283|151=>282|120=>307|197=>230|152=>306|260=>276|137=>314|119=>315|224=>279|225=>278|217=>277|266=>304|n=>n,fun|9=>9|4=>4|3=>3|5=>5|117=>295|116=>294|0=>0|124=>298|21=>21|105=>289|46=>201|119=>207|139=>210|138=>209|n=>n,fun|3=>1|4=>2|n=>n⟩
theorem Tryz.lays162:Go.Proofs.Lays.n162 AI Tryz.lays162_ren:={
 mixed:=by kernel_rfl
 f119:=Tryz.func315.trans (congrArg some (by kernel_rfl))
 f120:=Tryz.func307.trans (congrArg some (by kernel_rfl))
 f137:=Tryz.func314.trans (congrArg some (by kernel_rfl))
 f151:=Tryz.func282.trans (congrArg some (by kernel_rfl))
 f152:=Tryz.func306.trans (congrArg some (by kernel_rfl))
 f162:=Tryz.func264.trans (congrArg some (by kernel_rfl))
 f197:=Tryz.func230.trans (congrArg some (by kernel_rfl))
 f217:=Tryz.func277.trans (congrArg some (by kernel_rfl))
 f224:=Tryz.func279.trans (congrArg some (by kernel_rfl))
 f225:=Tryz.func278.trans (congrArg some (by kernel_rfl))
 f227:=Tryz.func236.trans (congrArg some (by kernel_rfl))
 f228:=Tryz.func281.trans (congrArg some (by kernel_rfl))
 f232:=Tryz.func235.trans (congrArg some (by kernel_rfl))
 f234:=Tryz.func238.trans (congrArg some (by kernel_rfl))
 f236:=Tryz.func240.trans (congrArg some (by kernel_rfl))
 f260:=Tryz.func276.trans (congrArg some (by kernel_rfl))
 f266:=Tryz.func304.trans (congrArg some (by kernel_rfl))
 f271:=Tryz.func283.trans (congrArg some (by kernel_rfl))
 t0:=underlying0
 a0:=Tryz.isAgg0
 z0:=Tryz.sizeOf0
 v0:=Tryz.zeroValue0
 t3:=underlying3
 a3:=Tryz.isAgg3
 z3:=Tryz.sizeOf3
 v3:=Tryz.zeroValue3
 t4:=underlying4
 a4:=Tryz.isAgg4
 z4:=Tryz.sizeOf4
 v4:=Tryz.zeroValue4
 t5:=underlying5
 a5:=Tryz.isAgg5
 z5:=Tryz.sizeOf5
 v5:=Tryz.zeroValue5
 t9:=underlying9
 a9:=Tryz.isAgg9
 z9:=Tryz.sizeOf9
 v9:=Tryz.zeroValue9
 t21:=underlying21
 a21:=Tryz.isAgg21
 z21:=Tryz.sizeOf21
 v21:=Tryz.zeroValue21
 t46:=underlying201
 a46:=Tryz.isAgg201
 z46:=Tryz.sizeOf201
 v46:=Tryz.zeroValue201
 t105:=underlying289
 a105:=Tryz.isAgg289
 z105:=Tryz.sizeOf289
 v105:=Tryz.zeroValue289
 t116:=underlying294
 a116:=Tryz.isAgg294
 z116:=Tryz.sizeOf294
 t117:=underlying295
 a117:=Tryz.isAgg295
 z117:=Tryz.sizeOf295
 v117:=Tryz.zeroValue295
 t119:=underlying207
 a119:=Tryz.isAgg207
 z119:=Tryz.sizeOf207
 t124:=underlying298
 a124:=Tryz.isAgg298
 z124:=Tryz.sizeOf298
 v124:=Tryz.zeroValue298
 t138:=underlying209
 a138:=Tryz.isAgg209
 z138:=Tryz.sizeOf209
 v138:=Tryz.zeroValue209
 t139:=underlying210
 a139:=Tryz.isAgg210
 z139:=Tryz.sizeOf210
 v139:=Tryz.zeroValue210
 g3:=by kernel_rfl
 g4:=by kernel_rfl }
open Go.RowKit in
theorem Tryz.strings_TrimRight_one(s:ByteArray)(c:UInt8)(hc:c.toNat<128)(w:A1)(hs:s.size<=9223372036854775807):
  A4 AI 264 #[.string s,.string ⟨#[c]⟩] w fun e w'=>e=.returned (.string ⟨(Lib.trimRightB s.data.toList c).toArray⟩)/\w'=w:=Any.strings_TrimRight_one Tryz.lays162 s c hc w hs
def Tryz.lays242_ren:AS:=⟨fun|242=>262|278=>296|n=>n,fun|37=>117|21=>21|51=>313|4=>4|5=>5|46=>201|n=>n,fun|n=>n⟩
theorem Tryz.lays242:Go.Proofs.Lays.n242 AI Tryz.lays242_ren:={
 mixed:=by kernel_rfl
 f242:=Tryz.func262.trans (congrArg some (by kernel_rfl))
 f278:=Tryz.func296.trans (congrArg some (by kernel_rfl))
 t4:=underlying4
 a4:=Tryz.isAgg4
 z4:=Tryz.sizeOf4
 v4:=Tryz.zeroValue4
 t5:=underlying5
 a5:=Tryz.isAgg5
 z5:=Tryz.sizeOf5
 v5:=Tryz.zeroValue5
 t21:=underlying21
 a21:=Tryz.isAgg21
 z21:=Tryz.sizeOf21
 v21:=Tryz.zeroValue21
 t37:=underlying117
 a37:=Tryz.isAgg117
 z37:=Tryz.sizeOf117
 v37:=Tryz.zeroValue117
 t46:=underlying201
 a46:=Tryz.isAgg201
 z46:=Tryz.sizeOf201
 v46:=Tryz.zeroValue201
 t51:=underlying313
 a51:=Tryz.isAgg313
 z51:=Tryz.sizeOf313
 v51:=Tryz.zeroValue313 }
open Go.RowKit in
theorem Tryz.utf8_AppendRune_plain(B:Nat)(v:Value)(n:Nat)(xs:List Value)(r:Int)(q6:-2147483648<=r)(q7:r<=2147483647)(w:A1)(q4:w.ownsRow B 5 1 v n xs)(q0:n+4<=140737488355328)(q5:B<=w.heap.size):
  A4 AI 262 #[v,.int .i32 r] w fun e w'=>∃v',e=.returned v'/\w'.ownsRow B 5 1 v' (n+(A6 r).length) (xs++A6 r) /\ ∃o,(w.alloc o).grownBy w' v.ownBlock:=Any.utf8_AppendRune_plain Tryz.lays242 (by kernel_rfl) B v n xs r q6 q7 w q4 q0 q5
def Tryz.laysM171_ren:AS:=⟨fun|171=>94|243=>131|246=>173|283=>212|284=>213|285=>214|286=>215|129=>257|317=>256|318=>258|319=>259|320=>260|337=>293|338=>294|n=>n,fun|3=>3|9=>9|2=>2|4=>4|171=>274|0=>0|53=>252|37=>117|5=>5|173=>277|212=>312|51=>313|20=>20|213=>314|46=>201|232=>352|233=>353|n=>n,fun|17=>5|18=>10|19=>11|n=>n⟩
theorem Tryz.laysM171:Go.Proofs.LaysM.n171 AI Tryz.laysM171_ren:={
 mixed:=by kernel_rfl
 f129:=Tryz.func257.trans (congrArg some (by kernel_rfl))
 f171:=Tryz.func94.trans (congrArg some (by kernel_rfl))
 f243:=Tryz.func131.trans (congrArg some (by kernel_rfl))
 f246:=Tryz.func173.trans (congrArg some (by kernel_rfl))
 f283:=Tryz.func212.trans (congrArg some (by kernel_rfl))
 f284:=Tryz.func213.trans (congrArg some (by kernel_rfl))
 f285:=Tryz.func214.trans (congrArg some (by kernel_rfl))
 f286:=Tryz.func215.trans (congrArg some (by kernel_rfl))
 f317:=Tryz.func256.trans (congrArg some (by kernel_rfl))
 f318:=Tryz.func258.trans (congrArg some (by kernel_rfl))
 f319:=Tryz.func259.trans (congrArg some (by kernel_rfl))
 f320:=Tryz.func260.trans (congrArg some (by kernel_rfl))
 f337:=Tryz.func293.trans (congrArg some (by kernel_rfl))
 f338:=Tryz.func294.trans (congrArg some (by kernel_rfl))
 t0:=underlying0
 a0:=Tryz.isAgg0
 z0:=Tryz.sizeOf0
 v0:=Tryz.zeroValue0
 t2:=underlying2
 a2:=Tryz.isAgg2
 z2:=Tryz.sizeOf2
 v2:=Tryz.zeroValue2
 t3:=underlying3
 a3:=Tryz.isAgg3
 z3:=Tryz.sizeOf3
 v3:=Tryz.zeroValue3
 t4:=underlying4
 a4:=Tryz.isAgg4
 z4:=Tryz.sizeOf4
 v4:=Tryz.zeroValue4
 t5:=underlying5
 a5:=Tryz.isAgg5
 z5:=Tryz.sizeOf5
 v5:=Tryz.zeroValue5
 t9:=underlying9
 a9:=Tryz.isAgg9
 z9:=Tryz.sizeOf9
 v9:=Tryz.zeroValue9
 t20:=underlying20
 a20:=Tryz.isAgg20
 z20:=Tryz.sizeOf20
 v20:=Tryz.zeroValue20
 t37:=underlying117
 a37:=Tryz.isAgg117
 z37:=Tryz.sizeOf117
 v37:=Tryz.zeroValue117
 t46:=underlying201
 a46:=Tryz.isAgg201
 z46:=Tryz.sizeOf201
 v46:=Tryz.zeroValue201
 t51:=underlying313
 a51:=Tryz.isAgg313
 z51:=Tryz.sizeOf313
 v51:=Tryz.zeroValue313
 t53:=underlying252
 a53:=Tryz.isAgg252
 z53:=Tryz.sizeOf252
 v53:=Tryz.zeroValue252
 t171:=underlying274
 a171:=Tryz.isAgg274
 z171:=Tryz.sizeOf274
 v171:=Tryz.zeroValue274
 t173:=underlying277
 a173:=Tryz.isAgg277
 z173:=Tryz.sizeOf277
 v173:=Tryz.zeroValue277
 t212:=underlying312
 a212:=Tryz.isAgg312
 z212:=Tryz.sizeOf312
 v212:=Tryz.zeroValue312
 t213:=underlying314
 a213:=Tryz.isAgg314
 z213:=Tryz.sizeOf314
 t232:=underlying352
 a232:=Tryz.isAgg352
 z232:=Tryz.sizeOf352
 v232:=Tryz.zeroValue352
 t233:=underlying353
 a233:=Tryz.isAgg353
 z233:=Tryz.sizeOf353
 v233:=Tryz.zeroValue353
 g17:=by kernel_rfl
 g18:=by kernel_rfl
 g19:=by kernel_rfl
 i0:=by kernel_rfl
 i2:=by kernel_rfl
 i3:=by kernel_rfl
 i4:=by kernel_rfl
 i5:=by kernel_rfl
 i9:=by kernel_rfl
 i20:=by kernel_rfl
 i37:=by kernel_rfl
 i46:=by kernel_rfl
 i51:=by kernel_rfl
 i53:=by kernel_rfl
 i171:=by kernel_rfl
 i173:=by kernel_rfl
 i212:=by kernel_rfl
 i232:=by kernel_rfl
 i233:=by kernel_rfl
 m17:=by kernel_rfl
 m18:=by kernel_rfl
 m19:=by kernel_rfl }
open Go.RowKit Go.Sort Go.Lib in
theorem Tryz.strconv_Itoa(n:Int)(h0:-9223372036854775808<=n)(h1:n<=9223372036854775807)(w:A1)(q0:Lib.TabIs AI w "internal/strconv.uint64pow10" .u64 Lib.pow10Tab):
  A4 AI 94 #[.int .i64 n] w fun e w'=>e=.returned (.string ⟨(Lib.itoa n).toArray⟩) /\ ∃k os,w'=grow (w.drewN k) os:=Any.strconv_Itoa Tryz.laysM171 n h0 h1 w q0
def Tryz.laysM316_ren:AS:=⟨fun|316=>297|n=>n,fun|9=>9|3=>3|4=>4|37=>117|0=>0|127=>166|5=>5|n=>n,fun|n=>n⟩
theorem Tryz.laysM316:Go.Proofs.LaysM.n316 AI Tryz.laysM316_ren:={
 mixed:=by kernel_rfl
 f316:=Tryz.func297.trans (congrArg some (by kernel_rfl))
 t0:=underlying0
 a0:=Tryz.isAgg0
 z0:=Tryz.sizeOf0
 v0:=Tryz.zeroValue0
 t3:=underlying3
 a3:=Tryz.isAgg3
 z3:=Tryz.sizeOf3
 v3:=Tryz.zeroValue3
 t4:=underlying4
 a4:=Tryz.isAgg4
 z4:=Tryz.sizeOf4
 v4:=Tryz.zeroValue4
 t9:=underlying9
 a9:=Tryz.isAgg9
 z9:=Tryz.sizeOf9
 v9:=Tryz.zeroValue9
 t37:=underlying117
 a37:=Tryz.isAgg117
 z37:=Tryz.sizeOf117
 v37:=Tryz.zeroValue117
 t127:=underlying166
 a127:=Tryz.isAgg166
 z127:=Tryz.sizeOf166
 v127:=Tryz.zeroValue166
 t5:=underlying5
 a5:=Tryz.isAgg5
 z5:=Tryz.sizeOf5
 v5:=Tryz.zeroValue5
 i0:=by kernel_rfl
 i3:=by kernel_rfl
 i4:=by kernel_rfl
 i5:=by kernel_rfl
 i9:=by kernel_rfl
 i37:=by kernel_rfl
 i127:=by kernel_rfl }
open Go.RowKit in
theorem Tryz.stringslite_Clone(s:ByteArray)(w:A1)(q0:s.size<=281474976710656):
  A4 AI 297 #[.string s] w fun e w'=>e=.returned (.string s)/\Below w.heap.size w w':=Any.stringslite_Clone Tryz.laysM316 s w q0
def Tryz.lays99_ren:AS:=⟨fun|99=>194|206=>233|n=>n,fun|9=>9|4=>4|3=>3|n=>n,fun|n=>n⟩
theorem Tryz.lays99:Go.Proofs.Lays.n99 AI Tryz.lays99_ren:={
 mixed:=by kernel_rfl
 f99:=Tryz.func194.trans (congrArg some (by kernel_rfl))
 f206:=Tryz.func233.trans (congrArg some (by kernel_rfl))
 t3:=underlying3
 a3:=Tryz.isAgg3
 z3:=Tryz.sizeOf3
 v3:=Tryz.zeroValue3
 t4:=underlying4
 a4:=Tryz.isAgg4
 z4:=Tryz.sizeOf4
 v4:=Tryz.zeroValue4
 t9:=underlying9
 a9:=Tryz.isAgg9
 z9:=Tryz.sizeOf9
 v9:=Tryz.zeroValue9 }
open Go.RowKit Go.Lib in
theorem Tryz.strings_HasPrefix(s p:ByteArray)(w:A1):
  A4 AI 194 #[.string s,.string p] w fun e w'=>e=.returned (.bool (Lib.hasPrefix s.data.toList p.data.toList))/\w'=w:=Any.strings_HasPrefix Tryz.lays99 s p w
def Tryz.lays197_ren:AS:=⟨fun|197=>230|260=>276|n=>n,fun|9=>9|21=>21|3=>3|4=>4|5=>5|105=>289|119=>207|0=>0|46=>201|139=>210|138=>209|n=>n,fun|3=>1|4=>2|n=>n⟩
theorem Tryz.lays197:Go.Proofs.Lays.n197 AI Tryz.lays197_ren:={
 mixed:=by kernel_rfl
 f197:=Tryz.func230.trans (congrArg some (by kernel_rfl))
 f260:=Tryz.func276.trans (congrArg some (by kernel_rfl))
 t0:=underlying0
 a0:=Tryz.isAgg0
 z0:=Tryz.sizeOf0
 v0:=Tryz.zeroValue0
 t3:=underlying3
 a3:=Tryz.isAgg3
 z3:=Tryz.sizeOf3
 v3:=Tryz.zeroValue3
 t4:=underlying4
 a4:=Tryz.isAgg4
 z4:=Tryz.sizeOf4
 v4:=Tryz.zeroValue4
 t5:=underlying5
 a5:=Tryz.isAgg5
 z5:=Tryz.sizeOf5
 v5:=Tryz.zeroValue5
 t9:=underlying9
 a9:=Tryz.isAgg9
 z9:=Tryz.sizeOf9
 v9:=Tryz.zeroValue9
 t21:=underlying21
 a21:=Tryz.isAgg21
 z21:=Tryz.sizeOf21
 v21:=Tryz.zeroValue21
 t46:=underlying201
 a46:=Tryz.isAgg201
 z46:=Tryz.sizeOf201
 v46:=Tryz.zeroValue201
 t105:=underlying289
 a105:=Tryz.isAgg289
 z105:=Tryz.sizeOf289
 v105:=Tryz.zeroValue289
 t119:=underlying207
 a119:=Tryz.isAgg207
 z119:=Tryz.sizeOf207
 t138:=underlying209
 a138:=Tryz.isAgg209
 z138:=Tryz.sizeOf209
 v138:=Tryz.zeroValue209
 t139:=underlying210
 a139:=Tryz.isAgg210
 z139:=Tryz.sizeOf210
 v139:=Tryz.zeroValue210
 g3:=by kernel_rfl
 g4:=by kernel_rfl }
open Go.RowKit Go.Lib in
theorem Tryz.utf8_DecodeRuneInString(s:ByteArray)(w:A1)(hT:Lib.Utf8Tabs 1 2 w):
  A4 AI 230 #[.string s] w fun e w'=>e=.returned (.tuple #[.int .i32 (BY s).1,.int .i64 (BY s).2])/\Below w.heap.size w w':=Any.utf8_DecodeRuneInString Tryz.lays197 s w hT
def Tryz.keys141_ren:AS:=⟨fun|7=>141|10=>188|n=>n,fun|23=>109|26=>9|3=>80|28=>204|0=>0|27=>203|33=>54|4=>4|n=>n,fun|n=>n⟩
theorem Tryz.keys141:Go.Proofs.SlLaysZ.n7 AI Tryz.keys141_ren:={
 mixed:=by kernel_rfl
 f7:=⟨Tryz.f141.name,by decide,Tryz.func141.trans (congrArg some (by kernel_rfl))⟩
 f10:=⟨Tryz.f188.name,by decide,Tryz.func188.trans (congrArg some (by kernel_rfl))⟩
 t0:=underlying0
 a0:=Tryz.isAgg0
 z0:=Tryz.sizeOf0
 v0:=Tryz.zeroValue0
 t4:=underlying4
 a4:=Tryz.isAgg4
 z4:=Tryz.sizeOf4
 v4:=Tryz.zeroValue4
 t23:=underlying109
 a23:=Tryz.isAgg109
 z23:=Tryz.sizeOf109
 v23:=Tryz.zeroValue109
 t26:=underlying9
 a26:=Tryz.isAgg9
 z26:=Tryz.sizeOf9
 v26:=Tryz.zeroValue9
 t27:=underlying203
 a27:=Tryz.isAgg203
 z27:=Tryz.sizeOf203
 v27:=Tryz.zeroValue203
 t28:=underlying204
 a28:=Tryz.isAgg204
 z28:=Tryz.sizeOf204
 v28:=Tryz.zeroValue204
 t33:=underlying54
 a33:=Tryz.isAgg54
 z33:=Tryz.sizeOf54
 v33:=Tryz.zeroValue54 }
def Tryz.sorted140_ren:AS:=⟨fun|6=>140|8=>186|9=>187|11=>226|13=>228|12=>227|23=>275|24=>257|14=>266|15=>267|16=>268|17=>269|18=>270|19=>271|20=>272|21=>273|22=>274|25=>298|26=>299|27=>300|28=>301|29=>302|30=>303|31=>313|n=>n,fun|26=>9|28=>204|24=>59|0=>0|3=>3|37=>201|48=>313|50=>252|4=>4|40=>318|39=>317|45=>216|5=>5|9=>9|51=>336|55=>340|57=>354|58=>189|33=>54|n=>n,fun|n=>n⟩
theorem Tryz.sorted140:Go.Proofs.SlLaysZ.n6 AI Tryz.sorted140_ren:={
 mixed:=by kernel_rfl
 f6:=⟨Tryz.f140.name,by decide,Tryz.func140.trans (congrArg some (by kernel_rfl))⟩
 f8:=⟨Tryz.f186.name,by decide,Tryz.func186.trans (congrArg some (by kernel_rfl))⟩
 f11:=⟨Tryz.f226.name,by decide,Tryz.func226.trans (congrArg some (by kernel_rfl))⟩
 t0:=underlying0
 a0:=Tryz.isAgg0
 z0:=Tryz.sizeOf0
 v0:=Tryz.zeroValue0
 t24:=underlying59
 a24:=Tryz.isAgg59
 z24:=Tryz.sizeOf59
 v24:=Tryz.zeroValue59
 t26:=underlying9
 a26:=Tryz.isAgg9
 z26:=Tryz.sizeOf9
 v26:=Tryz.zeroValue9
 t28:=underlying204
 a28:=Tryz.isAgg204
 z28:=Tryz.sizeOf204
 v28:=Tryz.zeroValue204
 i26:=by kernel_rfl }
def Tryz.sort187_ren:AS:=⟨fun|6=>187|8=>228|9=>227|19=>275|20=>257|21=>266|22=>267|23=>268|24=>269|25=>270|26=>271|27=>272|28=>273|29=>274|36=>298|31=>299|32=>300|37=>301|38=>302|39=>303|41=>313|n=>n,fun|27=>59|29=>9|3=>3|32=>201|26=>59|0=>0|44=>313|46=>252|4=>4|36=>318|35=>317|41=>216|5=>5|9=>9|53=>336|57=>340|63=>354|64=>189|n=>n,fun|n=>n⟩
theorem Tryz.sort187:Go.Proofs.SlLaysM.n6 AI Tryz.sort187_ren:={
 mixed:=by kernel_rfl
 f6:=⟨Tryz.f187.name,by decide,Tryz.func187.trans (congrArg some (by kernel_rfl))⟩
 f8:=Tryz.func228.trans (congrArg some (by kernel_rfl))
 f9:=⟨Tryz.f227.name,by decide,Tryz.func227.trans (congrArg some (by kernel_rfl))⟩
 f19:=Tryz.func275.trans (congrArg some (by kernel_rfl))
 f20:=Tryz.func257.trans (congrArg some (by kernel_rfl))
 f21:=⟨Tryz.f266.name,by decide,Tryz.func266.trans (congrArg some (by kernel_rfl))⟩
 f22:=⟨Tryz.f267.name,by decide,Tryz.func267.trans (congrArg some (by kernel_rfl))⟩
 f23:=⟨Tryz.f268.name,by decide,Tryz.func268.trans (congrArg some (by kernel_rfl))⟩
 f24:=⟨Tryz.f269.name,by decide,Tryz.func269.trans (congrArg some (by kernel_rfl))⟩
 f25:=⟨Tryz.f270.name,by decide,Tryz.func270.trans (congrArg some (by kernel_rfl))⟩
 f26:=⟨Tryz.f271.name,by decide,Tryz.func271.trans (congrArg some (by kernel_rfl))⟩
 f27:=⟨Tryz.f272.name,by decide,Tryz.func272.trans (congrArg some (by kernel_rfl))⟩
 f28:=⟨Tryz.f273.name,by decide,Tryz.func273.trans (congrArg some (by kernel_rfl))⟩
 f29:=⟨Tryz.f274.name,by decide,Tryz.func274.trans (congrArg some (by kernel_rfl))⟩
 f31:=Tryz.func299.trans (congrArg some (by kernel_rfl))
 f32:=Tryz.func300.trans (congrArg some (by kernel_rfl))
 f36:=⟨Tryz.f298.name,by decide,Tryz.func298.trans (congrArg some (by kernel_rfl))⟩
 f37:=⟨Tryz.f301.name,by decide,Tryz.func301.trans (congrArg some (by kernel_rfl))⟩
 f38:=⟨Tryz.f302.name,by decide,Tryz.func302.trans (congrArg some (by kernel_rfl))⟩
 f39:=⟨Tryz.f303.name,by decide,Tryz.func303.trans (congrArg some (by kernel_rfl))⟩
 f41:=⟨Tryz.f313.name,by decide,Tryz.func313.trans (congrArg some (by kernel_rfl))⟩
 t0:=underlying0
 a0:=Tryz.isAgg0
 z0:=Tryz.sizeOf0
 v0:=Tryz.zeroValue0
 t3:=underlying3
 a3:=Tryz.isAgg3
 z3:=Tryz.sizeOf3
 v3:=Tryz.zeroValue3
 t4:=underlying4
 a4:=Tryz.isAgg4
 z4:=Tryz.sizeOf4
 v4:=Tryz.zeroValue4
 t5:=underlying5
 a5:=Tryz.isAgg5
 z5:=Tryz.sizeOf5
 v5:=Tryz.zeroValue5
 t9:=underlying9
 a9:=Tryz.isAgg9
 z9:=Tryz.sizeOf9
 v9:=Tryz.zeroValue9
 t26:=underlying59
 a26:=Tryz.isAgg59
 z26:=Tryz.sizeOf59
 v26:=Tryz.zeroValue59
 t27:=underlying59
 a27:=Tryz.isAgg59
 z27:=Tryz.sizeOf59
 v27:=Tryz.zeroValue59
 t29:=underlying9
 a29:=Tryz.isAgg9
 z29:=Tryz.sizeOf9
 v29:=Tryz.zeroValue9
 t32:=underlying201
 a32:=Tryz.isAgg201
 z32:=Tryz.sizeOf201
 v32:=Tryz.zeroValue201
 t35:=underlying317
 a35:=Tryz.isAgg317
 z35:=Tryz.sizeOf317
 v35:=Tryz.zeroValue317
 t36:=underlying318
 a36:=Tryz.isAgg318
 z36:=Tryz.sizeOf318
 v36:=Tryz.zeroValue318
 t41:=underlying216
 a41:=Tryz.isAgg216
 z41:=Tryz.sizeOf216
 v41:=Tryz.zeroValue216
 t44:=underlying313
 a44:=Tryz.isAgg313
 z44:=Tryz.sizeOf313
 v44:=Tryz.zeroValue313
 t46:=underlying252
 a46:=Tryz.isAgg252
 z46:=Tryz.sizeOf252
 v46:=Tryz.zeroValue252
 t53:=underlying336
 a53:=Tryz.isAgg336
 z53:=Tryz.sizeOf336
 v53:=Tryz.zeroValue336
 t57:=underlying340
 a57:=Tryz.isAgg340
 z57:=Tryz.sizeOf340
 v57:=Tryz.zeroValue340
 t63:=underlying354
 a63:=Tryz.isAgg354
 z63:=Tryz.sizeOf354
 v63:=Tryz.zeroValue354
 t64:=underlying189
 a64:=Tryz.isAgg189
 z64:=Tryz.sizeOf189
 v64:=Tryz.zeroValue189 }
open Go.RowKit Go.Maps Go.Sort
theorem Tryz.sorts140(m:Nat):AnyZ.SortsIn AI Tryz.sorted140_ren A2 m:=
 ⟨fun blk off cap ss W hH q0 hsz=>callsIn_wide.2 (AnyM.slices_Sort_string Tryz.sort187 blk off cap ss W hH q0 hsz),
  fun p cap W=>callsIn_wide.2 (AnyM.slices_Sort_string_none Tryz.sort187 p cap W)⟩
theorem Tryz.maps_Keys_141(mb:Option Nat)(W:A1):CallsIn A2 5 AI 141 #[.map mb] W fun e w'=>e=.returned (.func (.func 188) #[] #[.pointer (some ⟨W.heap.size,0,none⟩)])/\w'=W.alloc (.cells #[.map mb] 109):=
 AnyZ.keys_in Tryz.keys141 A2 5 trivial rfl mb W
theorem Tryz.slices_Sorted_keys_140_141{H:Type}(b nn:Nat)(D0:DataW H)(R:Value->Option (DataW H×List MemPlace))(w:A1)(q5:w.ownsMap AI 9 R b nn D0)(q6:Bs D0<=maxLen)(q0:Bs D0*16<=140737488355328):
  CallsIn A2 5 AI 140 #[.func (.func 188) #[] #[.pointer (some ⟨w.heap.size,0,none⟩)]] (w.alloc (.cells #[.map (some b)] 109)) fun e w'=>∃ (v:Value) (ss:List (List UInt8)),e=.returned v/\ss.Perm (strKeys D0) /\
   w'.ownsRow (w.alloc (.cells #[.map (some b)] 109)).heap.size 9 1 v ss.length ((ss.mergeSort (fun x y=>decide (x<=y))).map encStr)/\(v=.slice none 0 0<->ss=[])/\Below (w.alloc (.cells #[.map (some b)] 109)).heap.size (w.alloc (.cells #[.map (some b)] 109)) w':=by
 have q8:=q5.lt;have q7:SeqGives A2 2 AI 188 #[.pointer (some ⟨w.heap.size,0,none⟩)] encStr (fun ss=>ss.Perm (strKeys D0)) (Bs D0) (w.alloc (.cells #[.map (some b)] 109)):=
  AnyZ.keys_gives (ρ:=Tryz.keys141_ren) { Tryz.keys141 with } A2 _ trivial rfl (by omega) w.heap.size b nn D0 _ (by simp) (by simp) (by
   obtain⟨es,q4,hb,Ft,hs,hD⟩:=q5;exact⟨es,q4,(Below.heap_alloc _ _ b q8).trans hb,Ft,hs,hD⟩)
 exact AnyZ.sorted_in Tryz.sorted140 A2 5 trivial trivial trivial trivial rfl (by omega) (Tryz.sorts140 _) (enters_of func187 (by kernel_rfl) rfl) 188 #[.pointer (some ⟨w.heap.size,0,none⟩)] trivial (enters_of func188 (by kernel_rfl) rfl) _ _ q6 q0 _ q7
end Go.Proofs
