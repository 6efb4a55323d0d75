import Derived.Test.YtdpomdelmdofmaaGreatDoorUnd03
import Derived.Laws.Rows
import Derived.Ground.GgzProg
import Derived.Ground.SlgmProg
import Derived.Shelf.LaysM
import Derived.Shelf.SlIter.Nil
import Derived.Shelf.Small.Strs
import Derived.Shelf.Small.Utf8
import Derived.Shelf.SortM.Plain
import Derived.Shelf.SortM.SortNone
import Derived.Shelf.Strconv.Clone
import Derived.Shelf.Strconv.Itoa0
import Derived.Shelf.Strconv.Itoa1
import Derived.Shelf.Strconv.Itoa2
import Derived.Shelf.Strings.AsciiSet
import Derived.Shelf.Strings.Builder1
import Derived.Shelf.Strings.BuilderF
import Derived.Shelf.Strings.BuilderK
import Derived.Shelf.Strings.Count
import Derived.Shelf.Strings.Cut
import Derived.Shelf.Strings.Prefix
import Derived.Shelf.Strings.Runes
import Derived.Shelf.Strings.Search1
import Derived.Shelf.Strings.Search2
import Derived.Shelf.Strings.Search3
import Derived.Shelf.Strings.Shaped
import Derived.Shelf.Strings.Trim
import Derived.Shelf.Unicode.Decode
import Derived.Shelf.Unicode.DecodeAny
import Derived.Shelf.Utf8.AppendRunePlain
import Derived.Lib.IndexBytes
import Derived.Deep.RegionWith
set_option maxHeartbeats 1000000
namespace Go.Proofs.YtdpomdelmdofmaaGreatDoor
open Go.Proofs.Tryz
open Go.RowKit
theorem Ak{l:Sp.By}{c:UInt8}(h:¬ Sp.tk l c=true):Sp.tk l c=false:=by simpa using h
theorem D7{l:Sp.By}{c:UInt8}(h:Sp.tk l c=true)(hc:Sp.isB c=true):Sp.skB l=Sp.skB l.tail/\l.tail.length<l.length:=by
 cases l with
 | nil=>simp[Sp.tk] at h
 | cons d r =>
  have:d=c:=by simpa[Sp.tk] using h
  subst this;simp[Sp.skB,hc]
theorem Xc{l:Sp.By}(h1:Sp.tk l 32=false)(h2:Sp.tk l 9=false)(h3:Sp.tk l 10=false)(h4:Sp.tk l 13=false):Sp.skB l=l:=by
 cases l with
 | nil=>rfl
 | cons d r =>
  simp[Sp.tk] at h1 h2 h3 h4;simp[Sp.skB,Sp.isB,h1,h2,h3,h4]
theorem B4{w:World}{R:Nat}{t:ByteArray}{l:Sp.By}{tw:Bool}{dp fr:Int}(h:RD w R t l tw dp fr) :
  Calls Tryz.prog 136 #[.pointer (some ⟨R,0,none⟩)] w fun e w'=>e = .returned (.tuple #[])/\RD w' R t (Sp.skB l) tw dp fr/\Ad R w w':=by
 go_enter func136,ntmps136
 go_wp2_with (fail)
 go_loopw [2] (fun _ wr=>∃l',RD wr R t l' tw dp fr/\Sp.skB l=Sp.skB l'/\Ad R w wr) (fun _ wr=>left wr R)
 case atStart=>exact⟨l,h,rfl,Ad.refl R w⟩
 case round =>
  obtain⟨l',hr,he,hk⟩:=hrel;have HE:=Ab he;have HL:=Ab hr.left;clear he h;by_cases k1:Sp.tk l' 32=true
  ·go_wp2_with (fail);refine (Am 32 _ rfl hr k1).mono ?_
   rintro e w' ⟨rfl,hr',hk'⟩
   go_wp2_with (fail)
   go_roundw
   case rel=>exact⟨l'.tail,hr',(Aa HE).trans (D7 k1 rfl).1,hk.trans hk'⟩
   case measure=>rw[hr'.left,Aa HL];exact (D7 k1 rfl).2
  ·have k1:=Ab (Ak k1)
   go_wp2_with (fail);refine (AF 32 _ rfl hr (Aa k1)).mono ?_
   rintro e w1 ⟨rfl,hr1,hk1⟩;have hk1:=hk.trans hk1;by_cases k2:Sp.tk l' 9=true
   ·go_wp2_with (fail);refine (Am 9 _ rfl hr1 k2).mono ?_
    rintro e w' ⟨rfl,hr',hk'⟩
    go_wp2_with (fail)
    go_roundw
    case rel=>exact⟨l'.tail,hr',(Aa HE).trans (D7 k2 rfl).1,hk1.trans hk'⟩
    case measure=>rw[hr'.left,Aa HL];exact (D7 k2 rfl).2
   ·have k2:=Ab (Ak k2)
    go_wp2_with (fail);refine (AF 9 _ rfl hr1 (Aa k2)).mono ?_
    rintro e w2 ⟨rfl,hr2,hk2⟩;have hk2:=hk1.trans hk2;by_cases k3:Sp.tk l' 10=true
    ·go_wp2_with (fail);refine (Am 10 _ rfl hr2 k3).mono ?_
     rintro e w' ⟨rfl,hr',hk'⟩
     go_wp2_with (fail)
     go_roundw
     case rel=>exact⟨l'.tail,hr',(Aa HE).trans (D7 k3 rfl).1,hk2.trans hk'⟩
     case measure=>rw[hr'.left,Aa HL];exact (D7 k3 rfl).2
    ·have k3:=Ab (Ak k3)
     go_wp2_with (fail);refine (AF 10 _ rfl hr2 (Aa k3)).mono ?_
     rintro e w3 ⟨rfl,hr3,hk3⟩;have hk3:=hk2.trans hk3;by_cases k4:Sp.tk l' 13=true
     ·go_wp2_with (fail);refine (Am 13 _ rfl hr3 k4).mono ?_
      rintro e w' ⟨rfl,hr',hk'⟩
      go_wp2_with (fail)
      go_roundw
      case rel=>exact⟨l'.tail,hr',(Aa HE).trans (D7 k4 rfl).1,hk3.trans hk'⟩
      case measure=>rw[hr'.left,Aa HL];exact (D7 k4 rfl).2
     ·have k4:=Ab (Ak k4)
      go_wp2_with (fail);refine (AF 13 _ rfl hr3 (Aa k4)).mono ?_
      rintro e w4 ⟨rfl,hr4,hk4⟩;have hk4:=hk3.trans hk4
      go_wp2_with (fail);have hq:=Xc (Aa k1) (Aa k2) (Aa k3) (Aa k4)
      go_end0
      refine⟨rfl,?_,hk4⟩;rw[Aa HE,hq];exact hr4
end Go.Proofs.YtdpomdelmdofmaaGreatDoor

set_option maxHeartbeats 2000000
namespace Go.Proofs.YtdpomdelmdofmaaGreatDoor
open Go.Proofs.Tryz
open Go.RowKit
theorem P7(k n:Nat)(l:Sp.By)(m:Nat)(r:Sp.By)(h:Sp.Cp k n l=some (m,r)):m<(n+1)*16 ^ k:=by
 induction k generalizing n l with
 | zero=>simp[Sp.Cp] at h;omega
 | succ k ih =>
  rw[Sp.Cp] at h;cases hd:Sp.Eg (Sp.pk l) with
  | none=>rw[hd] at h;cases h
  | some d =>
   rw[hd] at h;have h1:=ih _ _ h;have h2:=O3 hd;have h3:(n*16+d+1)*16 ^ k<=(n+1)*16*16 ^ k:=Nat.mul_le_mul_right _ (by omega);rw[Nat.pow_succ];calc m<_:=h1
    _<=_:=h3
    _=_:=by rw[Nat.mul_assoc,Nat.mul_comm 16]
theorem Iu{l r:Sp.By}{m:Nat}(h:Sp.Cp 4 0 l=some (m,r)):m<65536:=by
 have:=P7 4 0 l m r h;simpa using this
def VN(l:Sp.By)(e:Ending)(w':World)(R:Nat)(t:ByteArray)(tw:Bool)(dp fr:Int):Prop :=
 (∃n l',Sp.DI l=some (n,l')/\e = .returned (.tuple #[.int .i32 n,.bool true])/\RD w' R t l' tw dp fr) \/
  (Sp.DI l=none /\ ∃n l',e = .returned (.tuple #[.int .i32 n,.bool false])/\RD w' R t l' tw dp fr)
theorem PH{w:World}{R:Nat}{t:ByteArray}{l:Sp.By}{tw:Bool}{dp fr:Int}(h:RD w R t l tw dp fr) :
  Calls Tryz.prog 295 #[.pointer (some ⟨R,0,none⟩)] w fun e w'=>Ad R w w'/\VN l e w' R t tw dp fr:=by
 go_enter func295,ntmps295
 go_wp2_with (fail);refine (Gi h).mono ?_
 rintro e w1 ⟨hk1,l1,hr1,hc⟩;rcases hc with⟨a,ha,rfl⟩|⟨hn,rfl⟩
 ·have HS:Hid (Sp.DI l=if a<55296\/57344<=a then some (a,l1) else if 56320<=a then none
   else if Sp.tk l1 92 then (if Sp.tk l1.tail 117 then (match Sp.Cp 4 0 l1.tail.tail with
     | none=>none
     | some (b,r')=>if b<56320\/57344<=b then none else some (65536+(a-55296)*1024+(b-56320),r'))
    else none) else none):=by unfold Sp.DI;rw[ha];rfl
  have hb:=Iu ha;clear ha h;by_cases c1:a<55296
  ·have e1:decide ((a:Int)<55296)=true:=by simp;omega
   go_wp2_with (fail)
   go_ret2
   refine⟨hk1,Or.inl ⟨a,l1,?_,rfl,hr1⟩⟩;rw[Aa HS,if_pos (Or.inl c1)]
  ·by_cases c2:57344<=a
   ·have e1:decide ((a:Int)<55296)=false:=by simp;omega
    have e2:decide ((57344:Int)<=(a:Int))=true:=by simp;omega
    go_wp2_with (fail)
    go_ret2
    refine⟨hk1,Or.inl ⟨a,l1,?_,rfl,hr1⟩⟩;rw[Aa HS,if_pos (Or.inr c2)]
   ·have e1:decide ((a:Int)<55296)=false:=by simp;omega
    have e2:decide ((57344:Int)<=(a:Int))=false:=by simp;omega
    by_cases c3:56320<=a
    ·have e3:decide ((56320:Int)<=(a:Int))=true:=by simp;omega
     go_wp2_with (fail)
     go_ret2
     refine⟨hk1,Or.inr ⟨?_,0,l1,rfl,hr1⟩⟩;rw[Aa HS,if_neg (by omega),if_pos c3]
    ·have e3:decide ((56320:Int)<=(a:Int))=false:=by simp;omega
     have HT:Hid (Sp.DI l=if Sp.tk l1 92 then (if Sp.tk l1.tail 117 then (match Sp.Cp 4 0 l1.tail.tail with
       | none=>none
       | some (b,r')=>if b<56320\/57344<=b then none else some (65536+(a-55296)*1024+(b-56320),r'))
      else none) else none):=by rw[Aa HS,if_neg (by omega),if_neg c3];rfl
     clear HS;by_cases k1:Sp.tk l1 92=true
     ·have K1:=Ab k1;clear k1
      go_wp2_with (fail);refine (Am 92 _ rfl hr1 (Aa K1)).mono ?_
      rintro e w2 ⟨rfl,hr2,hk2⟩;by_cases k2:Sp.tk l1.tail 117=true
      ·have K2:=Ab k2;clear k2
       go_wp2_with (fail);refine (Am 117 _ rfl hr2 (Aa K2)).mono ?_
       rintro e w3 ⟨rfl,hr3,hk3⟩
       go_wp2_with (fail);refine (Gi hr3).mono ?_
       rintro e w4 ⟨hk4,l4,hr4,hc⟩;have hkk:=((hk1.trans hk2).trans hk3).trans hk4;rcases hc with⟨b,hb4,rfl⟩|⟨hn,rfl⟩
       ·have hb5:=Iu hb4;have HU:Hid (Sp.DI l=if b<56320\/57344<=b then none else some (65536+(a-55296)*1024+(b-56320),l4)):=by
         rw[Aa HT,if_pos (Aa K1),if_pos (Aa K2),hb4];rfl
        clear HT hb4;by_cases d1:b<56320
        ·have g1:decide ((b:Int)<56320)=true:=by simp;omega
         go_wp2_with (fail)
         go_ret2
         exact⟨hkk,Or.inr ⟨by rw[Aa HU,if_pos (Or.inl d1)],0,l4,rfl,hr4⟩⟩
        ·have g1:decide ((b:Int)<56320)=false:=by simp;omega
         by_cases d2:57344<=b
         ·have g2:decide ((57344:Int)<=(b:Int))=true:=by simp;omega
          go_wp2_with (fail)
          go_ret2
          exact⟨hkk,Or.inr ⟨by rw[Aa HU,if_pos (Or.inr d2)],0,l4,rfl,hr4⟩⟩
         ·have g2:decide ((57344:Int)<=(b:Int))=false:=by simp;omega
          have he:Hid (65536+((a:Int)-55296)*1024+(b:Int)-56320=((65536+(a-55296)*1024+(b-56320):Nat):Int)):=Ab (by omega)
          go_wp2_with (fail);rw[Aa he]
          go_ret2
          exact⟨hkk,Or.inl ⟨65536+(a-55296)*1024+(b-56320),l4,by rw[Aa HU,if_neg (by omega)],rfl,hr4⟩⟩
       ·have HU:Hid (Sp.DI l=none):=by rw[Hid,Aa HT,if_pos (Aa K1),if_pos (Aa K2),hn]
        clear HT hn
        go_wp2_with (fail)
        go_ret2
        exact⟨hkk,Or.inr ⟨Aa HU,0,l4,rfl,hr4⟩⟩
      ·have K2:=Ab (Ak k2);clear k2
       go_wp2_with (fail);refine (AF 117 _ rfl hr2 (Aa K2)).mono ?_
       rintro e w3 ⟨rfl,hr3,hk3⟩
       go_wp2_with (fail)
       go_ret2
       refine⟨(hk1.trans hk2).trans hk3,Or.inr ⟨?_,0,_,rfl,hr3⟩⟩;rw[Aa HT,if_pos (Aa K1),Aa K2];rfl
     ·have K1:=Ab (Ak k1);clear k1
      go_wp2_with (fail);refine (AF 92 _ rfl hr1 (Aa K1)).mono ?_
      rintro e w2 ⟨rfl,hr2,hk2⟩
      go_wp2_with (fail)
      go_ret2
      refine⟨hk1.trans hk2,Or.inr ⟨?_,0,_,rfl,hr2⟩⟩;rw[Aa HT,Aa K1];rfl
 ·have HS:Hid (Sp.DI l=none):=by unfold Hid Sp.DI;rw[hn]
  clear hn h
  go_wp2_with (fail)
  go_ret2
  exact⟨hk1,Or.inr ⟨Aa HS,0,l1,rfl,hr1⟩⟩
end Go.Proofs.YtdpomdelmdofmaaGreatDoor

set_option maxHeartbeats 2000000
namespace Go.Proofs.YtdpomdelmdofmaaGreatDoor
open Go.Proofs.Tryz
open Go.RowKit
def Nr(j:Nat):UInt8:=(Sp.Fy.getD j (0,0)).1
def Qc(j:Nat):Nat:=(Sp.Fy.getD j (0,0)).2
theorem XV(w:World):(Instr.index 335 (.agg Cq) (.int .i64 0)).run Tryz.prog w = .ok (.agg #[.int .u8 34,.int .i32 34]) w:=by kernel_rfl
theorem XU(w:World):(Instr.index 335 (.agg Cq) (.int .i64 1)).run Tryz.prog w = .ok (.agg #[.int .u8 92,.int .i32 92]) w:=by kernel_rfl
theorem XT(w:World):(Instr.index 335 (.agg Cq) (.int .i64 2)).run Tryz.prog w = .ok (.agg #[.int .u8 47,.int .i32 47]) w:=by kernel_rfl
theorem XS(w:World):(Instr.index 335 (.agg Cq) (.int .i64 3)).run Tryz.prog w = .ok (.agg #[.int .u8 98,.int .i32 8]) w:=by kernel_rfl
theorem XR(w:World):(Instr.index 335 (.agg Cq) (.int .i64 4)).run Tryz.prog w = .ok (.agg #[.int .u8 102,.int .i32 12]) w:=by kernel_rfl
theorem XQ(w:World):(Instr.index 335 (.agg Cq) (.int .i64 5)).run Tryz.prog w = .ok (.agg #[.int .u8 110,.int .i32 10]) w:=by kernel_rfl
theorem XP(w:World):(Instr.index 335 (.agg Cq) (.int .i64 6)).run Tryz.prog w = .ok (.agg #[.int .u8 114,.int .i32 13]) w:=by kernel_rfl
theorem XO(w:World):(Instr.index 335 (.agg Cq) (.int .i64 7)).run Tryz.prog w = .ok (.agg #[.int .u8 116,.int .i32 9]) w:=by kernel_rfl
theorem WA(j:Nat)(hj:j<8)(w:World):(Instr.index 335 (.agg Cq) (.int .i64 j)).run Tryz.prog w = .ok (.agg #[.int .u8 (Nr j).toNat,.int .i32 (Qc j)]) w:=by
 match j,hj with
 | 0,_=>exact XV w
 | 1,_=>exact XU w
 | 2,_=>exact XT w
 | 3,_=>exact XS w
 | 4,_=>exact XR w
 | 5,_=>exact XQ w
 | 6,_=>exact XP w
 | 7,_=>exact XO w
theorem Nq(l:Sp.By)(j:Nat)(hj:j<8):Sp.Eh l (Sp.Fy.drop j)=if Sp.tk l (Nr j) then some (Qc j,l.tail) else Sp.Eh l (Sp.Fy.drop (j+1)):=by
 match j,hj with
 | 0,_=>rfl
 | 1,_=>rfl
 | 2,_=>rfl
 | 3,_=>rfl
 | 4,_=>rfl
 | 5,_=>rfl
 | 6,_=>rfl
 | 7,_=>rfl
def Er(o:Option (Nat×Sp.By))(e:Ending)(w':World)(R:Nat)(t:ByteArray)(tw:Bool)(dp fr:Int):Prop :=
 (∃n l',o=some (n,l')/\e = .returned (.tuple #[.int .i32 n,.bool true])/\RD w' R t l' tw dp fr) \/
  (o=none /\ ∃n l',e = .returned (.tuple #[.int .i32 n,.bool false])/\RD w' R t l' tw dp fr)
theorem Ob{w:World}{R:Nat}{t:ByteArray}{l:Sp.By}{tw:Bool}{dp fr:Int}(h:RD w R t l tw dp fr)(hT:Af w)(hR:NG<=R)(k1:Sp.tk l 117=false) :
  Calls Tryz.prog 261 #[.pointer (some ⟨R,0,none⟩)] w fun e w'=>Ad R w w'/\Er (Sp.esc l) e w' R t tw dp fr:=by
 have hE:Hid (Sp.esc l=Sp.Eh l Sp.Fy):=by unfold Hid Sp.esc;rw[k1];rfl
 have K1:=Ab k1;clear k1
 go_enter func261,ntmps261
 go_wp2_with (fail);refine (AF 117 _ rfl h (Aa K1)).mono ?_
 rintro e w1 ⟨rfl,hr1,hk1⟩;obtain⟨tt,fz,hg1⟩:=(hT.kept hk1 hR).esc;clear h hT
 go_wp2_with (refine wpList_load_row rfl 335 _ rfl 7 rfl tt _ fz _ hg1 underlying335 rfl (by kernel_rfl) ?_)
 clear hg1
 go_loopw [13] (fun i wr=>∃j:Nat,j<=8/\i = .int .i64 j/\RD wr R t l tw dp fr/\Ad R w wr/\Sp.Eh l Sp.Fy=Sp.Eh l (Sp.Fy.drop j)) (fun i _=>8-(intOf i).toNat)
 case atStart=>exact⟨0,by omega,rfl,hr1,hk1,rfl⟩
 case round =>
  obtain⟨j,hj8,rfl,hr,hk,he⟩:=hrel;have HE:=Ab he;clear he hr1 hk1;by_cases hlt:j<8
  ·have hidx:=WA j hlt
   go_wp2_with (fail);by_cases k2:Sp.tk l (Nr j)=true
   ·have K2:=Ab k2;clear k2;refine (Am (Nr j) _ rfl (hr.alloc _) (Aa K2)).mono ?_;rintro e w2 ⟨rfl,hr2,hk2⟩;have d1:w2.cell? ⟨wr.heap.size,1,none⟩=some (.int .i32 (Qc j)):=by
     rw[hk2.cell (by simp) (by have:=hr.lt;simp;omega)];simp
    go_wp2_with (fail)
    go_ret2
    refine⟨(hk.alloc _).trans hk2,Or.inl ⟨Qc j,l.tail,?_,rfl,hr2⟩⟩;rw[Aa hE,Aa HE,Nq l j hlt,Aa K2];rfl
   ·have K2:=Ab (Ak k2);clear k2;refine (AF (Nr j) _ rfl (hr.alloc _) (Aa K2)).mono ?_;rintro e w2 ⟨rfl,hr2,hk2⟩
    go_wp2_with (fail)
    go_roundw
    case rel=>exact⟨j+1,by omega,by go_num,hr2,(hk.alloc _).trans hk2,by rw[Aa HE,Nq l j hlt,Aa K2];rfl⟩
    case measure=>simp[intOf];omega
  ·go_wp2_with (fail)
   go_ret2
   refine⟨hk,Or.inr ⟨?_,0,l,rfl,hr⟩⟩;rw[Aa hE,Aa HE,show j=8 by omega];rfl
theorem Qb{w:World}{R:Nat}{t:ByteArray}{l:Sp.By}{tw:Bool}{dp fr:Int}(h:RD w R t l tw dp fr)(hT:Af w)(hR:NG<=R) :
  Calls Tryz.prog 261 #[.pointer (some ⟨R,0,none⟩)] w fun e w'=>Ad R w w'/\Er (Sp.esc l) e w' R t tw dp fr:=by
 by_cases k1:Sp.tk l 117=true
 ·have hE:Hid (Sp.esc l=Sp.DI l.tail):=by unfold Hid Sp.esc;rw[k1];rfl
  have K1:=Ab k1;clear k1 hT
  go_enter func261,ntmps261
  go_wp2_with (fail);refine (Am 117 _ rfl h (Aa K1)).mono ?_
  rintro e w1 ⟨rfl,hr1,hk1⟩
  go_wp2_with (fail);refine (PH hr1).mono ?_
  rintro e w2 ⟨hk2,hc⟩;rcases hc with⟨n,l',hs,rfl,hr2⟩|⟨hs,n,l',rfl,hr2⟩
  ·have HS:=Ab hs;clear hs
   go_wp2_with (fail)
   go_ret2
   exact⟨hk1.trans hk2,Or.inl ⟨n,l',by rw[Aa hE];exact Aa HS,rfl,hr2⟩⟩
  ·have HS:=Ab hs;clear hs
   go_wp2_with (fail)
   go_ret2
   exact⟨hk1.trans hk2,Or.inr ⟨by rw[Aa hE];exact Aa HS,n,l',rfl,hr2⟩⟩
 ·exact Ob h hT hR (Ak k1)
end Go.Proofs.YtdpomdelmdofmaaGreatDoor

set_option maxHeartbeats 1000000
namespace Go.Proofs
open Go.Shelf
def Tryz.lays169_ren:Go.Shelf.Ren:=⟨fun|169=>79|n=>n,fun|70=>116|9=>9|0=>0|72=>119|37=>117|127=>166|3=>3|5=>5|n=>n,fun|n=>n⟩
theorem Tryz.lays169:Go.Proofs.Lays.n169 Tryz.prog Tryz.lays169_ren:={
 mixed:=by kernel_rfl
 f169:=Tryz.func79.trans (congrArg some (by kernel_rfl))
 t0:=underlying0
 a0:=Tryz.isAgg0
 z0:=Tryz.sizeOf0
 v0:=Tryz.zeroValue0
 t3:=underlying3
 a3:=Tryz.isAgg3
 z3:=Tryz.sizeOf3
 v3:=Tryz.zeroValue3
 t9:=underlying9
 a9:=Tryz.isAgg9
 z9:=Tryz.sizeOf9
 v9:=Tryz.zeroValue9
 t37:=underlying117
 a37:=Tryz.isAgg117
 z37:=Tryz.sizeOf117
 v37:=Tryz.zeroValue117
 t70:=underlying116
 a70:=Tryz.isAgg116
 z70:=Tryz.sizeOf116
 v70:=Tryz.zeroValue116
 t72:=underlying119
 a72:=Tryz.isAgg119
 z72:=Tryz.sizeOf119
 v72:=Tryz.zeroValue119
 t127:=underlying166
 a127:=Tryz.isAgg166
 z127:=Tryz.sizeOf166
 v127:=Tryz.zeroValue166 }
theorem Tryz.Builder_Extra_169:Builder.Extra Tryz.prog Tryz.lays169_ren:={
 sizeBuilder:=by kernel_rfl
 liesBuilder:=by kernel_rfl
 t5:=underlying5
 a5:=Tryz.isAgg5
 z5:=Tryz.sizeOf5
 v5:=Tryz.zeroValue5
 infoByte:=by kernel_rfl
 cellsByte:=by kernel_rfl
 sizeByte:=by kernel_rfl
 neB5:=by decide }
open Go.RowKit in
theorem Tryz.Builder_String_any(B b:Nat)(l:List UInt8)(w:World)(h:Lib.IsBuilder 119 5 B b (Lib.byteCells l) w)(hBw:B<=w.heap.size) :
  Calls Tryz.prog 79 #[.pointer (some ⟨b,0,none⟩)] w fun e w'=>e = .returned (.string ⟨l.toArray⟩)/\Below B w w':=Any.Builder_String_any Tryz.lays169 Tryz.Builder_Extra_169 B b l w h hBw
def Tryz.lays161_ren:Go.Shelf.Ren:=⟨fun|161=>263|231=>234|227=>236|233=>237|235=>239|228=>281|197=>230|151=>282|260=>276|152=>306|137=>314|119=>315|224=>279|225=>278|217=>277|266=>304|n=>n,fun|9=>9|4=>4|3=>3|5=>5|117=>295|116=>294|0=>0|124=>298|105=>289|21=>21|119=>207|46=>201|139=>210|138=>209|n=>n,fun|3=>1|4=>2|n=>n⟩
theorem Tryz.lays161:Go.Proofs.Lays.n161 Tryz.prog Tryz.lays161_ren:={
 mixed:=by kernel_rfl
 f119:=Tryz.func315.trans (congrArg some (by kernel_rfl))
 f137:=Tryz.func314.trans (congrArg some (by kernel_rfl))
 f151:=Tryz.func282.trans (congrArg some (by kernel_rfl))
 f152:=Tryz.func306.trans (congrArg some (by kernel_rfl))
 f161:=Tryz.func263.trans (congrArg some (by kernel_rfl))
 f197:=Tryz.func230.trans (congrArg some (by kernel_rfl))
 f217:=Tryz.func277.trans (congrArg some (by kernel_rfl))
 f224:=Tryz.func279.trans (congrArg some (by kernel_rfl))
 f225:=Tryz.func278.trans (congrArg some (by kernel_rfl))
 f227:=Tryz.func236.trans (congrArg some (by kernel_rfl))
 f228:=Tryz.func281.trans (congrArg some (by kernel_rfl))
 f231:=Tryz.func234.trans (congrArg some (by kernel_rfl))
 f233:=Tryz.func237.trans (congrArg some (by kernel_rfl))
 f235:=Tryz.func239.trans (congrArg some (by kernel_rfl))
 f260:=Tryz.func276.trans (congrArg some (by kernel_rfl))
 f266:=Tryz.func304.trans (congrArg some (by kernel_rfl))
 t0:=underlying0
 a0:=Tryz.isAgg0
 z0:=Tryz.sizeOf0
 v0:=Tryz.zeroValue0
 t3:=underlying3
 a3:=Tryz.isAgg3
 z3:=Tryz.sizeOf3
 v3:=Tryz.zeroValue3
 t4:=underlying4
 a4:=Tryz.isAgg4
 z4:=Tryz.sizeOf4
 v4:=Tryz.zeroValue4
 t5:=underlying5
 a5:=Tryz.isAgg5
 z5:=Tryz.sizeOf5
 v5:=Tryz.zeroValue5
 t9:=underlying9
 a9:=Tryz.isAgg9
 z9:=Tryz.sizeOf9
 v9:=Tryz.zeroValue9
 t21:=underlying21
 a21:=Tryz.isAgg21
 z21:=Tryz.sizeOf21
 v21:=Tryz.zeroValue21
 t46:=underlying201
 a46:=Tryz.isAgg201
 z46:=Tryz.sizeOf201
 v46:=Tryz.zeroValue201
 t105:=underlying289
 a105:=Tryz.isAgg289
 z105:=Tryz.sizeOf289
 v105:=Tryz.zeroValue289
 t116:=underlying294
 a116:=Tryz.isAgg294
 z116:=Tryz.sizeOf294
 t117:=underlying295
 a117:=Tryz.isAgg295
 z117:=Tryz.sizeOf295
 v117:=Tryz.zeroValue295
 t119:=underlying207
 a119:=Tryz.isAgg207
 z119:=Tryz.sizeOf207
 t124:=underlying298
 a124:=Tryz.isAgg298
 z124:=Tryz.sizeOf298
 v124:=Tryz.zeroValue298
 t138:=underlying209
 a138:=Tryz.isAgg209
 z138:=Tryz.sizeOf209
 v138:=Tryz.zeroValue209
 t139:=underlying210
 a139:=Tryz.isAgg210
 z139:=Tryz.sizeOf210
 v139:=Tryz.zeroValue210
 g3:=by kernel_rfl
 g4:=by kernel_rfl }
open Go.RowKit in
theorem Tryz.strings_TrimLeft_one(s:ByteArray)(c:UInt8)(hc:c.toNat<128)(w:World) :
  Calls Tryz.prog 263 #[.string s,.string ⟨#[c]⟩] w fun e w'=>e = .returned (.string ⟨(Lib.trimLeftB s.data.toList c).toArray⟩)/\w'=w:=Any.strings_TrimLeft_one Tryz.lays161 s c hc w
def Tryz.lays162_ren:Go.Shelf.Ren:=⟨fun|162=>264|232=>235|227=>236|234=>238|236=>240|228=>281|271=>283|151=>282|120=>307|197=>230|152=>306|260=>276|137=>314|119=>315|224=>279|225=>278|217=>277|266=>304|n=>n,fun|9=>9|4=>4|3=>3|5=>5|117=>295|116=>294|0=>0|124=>298|21=>21|105=>289|46=>201|119=>207|139=>210|138=>209|n=>n,fun|3=>1|4=>2|n=>n⟩
theorem Tryz.lays162:Go.Proofs.Lays.n162 Tryz.prog Tryz.lays162_ren:={
 mixed:=by kernel_rfl
 f119:=Tryz.func315.trans (congrArg some (by kernel_rfl))
 f120:=Tryz.func307.trans (congrArg some (by kernel_rfl))
 f137:=Tryz.func314.trans (congrArg some (by kernel_rfl))
 f151:=Tryz.func282.trans (congrArg some (by kernel_rfl))
 f152:=Tryz.func306.trans (congrArg some (by kernel_rfl))
 f162:=Tryz.func264.trans (congrArg some (by kernel_rfl))
 f197:=Tryz.func230.trans (congrArg some (by kernel_rfl))
 f217:=Tryz.func277.trans (congrArg some (by kernel_rfl))
 f224:=Tryz.func279.trans (congrArg some (by kernel_rfl))
 f225:=Tryz.func278.trans (congrArg some (by kernel_rfl))
 f227:=Tryz.func236.trans (congrArg some (by kernel_rfl))
 f228:=Tryz.func281.trans (congrArg some (by kernel_rfl))
 f232:=Tryz.func235.trans (congrArg some (by kernel_rfl))
 f234:=Tryz.func238.trans (congrArg some (by kernel_rfl))
 f236:=Tryz.func240.trans (congrArg some (by kernel_rfl))
 f260:=Tryz.func276.trans (congrArg some (by kernel_rfl))
 f266:=Tryz.func304.trans (congrArg some (by kernel_rfl))
 f271:=Tryz.func283.trans (congrArg some (by kernel_rfl))
 t0:=underlying0
 a0:=Tryz.isAgg0
 z0:=Tryz.sizeOf0
 v0:=Tryz.zeroValue0
 t3:=underlying3
 a3:=Tryz.isAgg3
 z3:=Tryz.sizeOf3
 v3:=Tryz.zeroValue3
 t4:=underlying4
 a4:=Tryz.isAgg4
 z4:=Tryz.sizeOf4
 v4:=Tryz.zeroValue4
 t5:=underlying5
 a5:=Tryz.isAgg5
 z5:=Tryz.sizeOf5
 v5:=Tryz.zeroValue5
 t9:=underlying9
 a9:=Tryz.isAgg9
 z9:=Tryz.sizeOf9
 v9:=Tryz.zeroValue9
 t21:=underlying21
 a21:=Tryz.isAgg21
 z21:=Tryz.sizeOf21
 v21:=Tryz.zeroValue21
 t46:=underlying201
 a46:=Tryz.isAgg201
 z46:=Tryz.sizeOf201
 v46:=Tryz.zeroValue201
 t105:=underlying289
 a105:=Tryz.isAgg289
 z105:=Tryz.sizeOf289
 v105:=Tryz.zeroValue289
 t116:=underlying294
 a116:=Tryz.isAgg294
 z116:=Tryz.sizeOf294
 t117:=underlying295
 a117:=Tryz.isAgg295
 z117:=Tryz.sizeOf295
 v117:=Tryz.zeroValue295
 t119:=underlying207
 a119:=Tryz.isAgg207
 z119:=Tryz.sizeOf207
 t124:=underlying298
 a124:=Tryz.isAgg298
 z124:=Tryz.sizeOf298
 v124:=Tryz.zeroValue298
 t138:=underlying209
 a138:=Tryz.isAgg209
 z138:=Tryz.sizeOf209
 v138:=Tryz.zeroValue209
 t139:=underlying210
 a139:=Tryz.isAgg210
 z139:=Tryz.sizeOf210
 v139:=Tryz.zeroValue210
 g3:=by kernel_rfl
 g4:=by kernel_rfl }
open Go.RowKit in
theorem Tryz.strings_TrimRight_one(s:ByteArray)(c:UInt8)(hc:c.toNat<128)(w:World)(hs:s.size<=9223372036854775807) :
  Calls Tryz.prog 264 #[.string s,.string ⟨#[c]⟩] w fun e w'=>e = .returned (.string ⟨(Lib.trimRightB s.data.toList c).toArray⟩)/\w'=w:=Any.strings_TrimRight_one Tryz.lays162 s c hc w hs
def Tryz.lays242_ren:Go.Shelf.Ren:=⟨fun|242=>262|278=>296|n=>n,fun|37=>117|21=>21|51=>313|4=>4|5=>5|46=>201|n=>n,fun|n=>n⟩
theorem Tryz.lays242:Go.Proofs.Lays.n242 Tryz.prog Tryz.lays242_ren:={
 mixed:=by kernel_rfl
 f242:=Tryz.func262.trans (congrArg some (by kernel_rfl))
 f278:=Tryz.func296.trans (congrArg some (by kernel_rfl))
 t4:=underlying4
 a4:=Tryz.isAgg4
 z4:=Tryz.sizeOf4
 v4:=Tryz.zeroValue4
 t5:=underlying5
 a5:=Tryz.isAgg5
 z5:=Tryz.sizeOf5
 v5:=Tryz.zeroValue5
 t21:=underlying21
 a21:=Tryz.isAgg21
 z21:=Tryz.sizeOf21
 v21:=Tryz.zeroValue21
 t37:=underlying117
 a37:=Tryz.isAgg117
 z37:=Tryz.sizeOf117
 v37:=Tryz.zeroValue117
 t46:=underlying201
 a46:=Tryz.isAgg201
 z46:=Tryz.sizeOf201
 v46:=Tryz.zeroValue201
 t51:=underlying313
 a51:=Tryz.isAgg313
 z51:=Tryz.sizeOf313
 v51:=Tryz.zeroValue313 }
open Go.RowKit in
theorem Tryz.utf8_AppendRune_plain(B:Nat)(v:Value)(n:Nat)(xs:List Value)(r:Int)(hr0:-2147483648<=r)(hr1:r<=2147483647)(w:World)(hown:w.ownsRow B 5 1 v n xs)(hlen:n+4<=140737488355328)(hBw:B<=w.heap.size) :
  Calls Tryz.prog 262 #[v,.int .i32 r] w fun e w'=>∃v',e = .returned v'/\w'.ownsRow B 5 1 v' (n+(Lib.runeCells r).length) (xs++Lib.runeCells r) /\ ∃o,(w.alloc o).grownBy w' v.ownBlock:=Any.utf8_AppendRune_plain Tryz.lays242 (by kernel_rfl) B v n xs r hr0 hr1 w hown hlen hBw
def Tryz.laysM171_ren:Go.Shelf.Ren:=⟨fun|171=>94|243=>131|246=>173|283=>212|284=>213|285=>214|286=>215|129=>257|317=>256|318=>258|319=>259|320=>260|337=>293|338=>294|n=>n,fun|3=>3|9=>9|2=>2|4=>4|171=>274|0=>0|53=>252|37=>117|5=>5|173=>277|212=>312|51=>313|20=>20|213=>314|46=>201|232=>352|233=>353|n=>n,fun|17=>5|18=>10|19=>11|n=>n⟩
theorem Tryz.laysM171:Go.Proofs.LaysM.n171 Tryz.prog Tryz.laysM171_ren:={
 mixed:=by kernel_rfl
 f129:=Tryz.func257.trans (congrArg some (by kernel_rfl))
 f171:=Tryz.func94.trans (congrArg some (by kernel_rfl))
 f243:=Tryz.func131.trans (congrArg some (by kernel_rfl))
 f246:=Tryz.func173.trans (congrArg some (by kernel_rfl))
 f283:=Tryz.func212.trans (congrArg some (by kernel_rfl))
 f284:=Tryz.func213.trans (congrArg some (by kernel_rfl))
 f285:=Tryz.func214.trans (congrArg some (by kernel_rfl))
 f286:=Tryz.func215.trans (congrArg some (by kernel_rfl))
 f317:=Tryz.func256.trans (congrArg some (by kernel_rfl))
 f318:=Tryz.func258.trans (congrArg some (by kernel_rfl))
 f319:=Tryz.func259.trans (congrArg some (by kernel_rfl))
 f320:=Tryz.func260.trans (congrArg some (by kernel_rfl))
 f337:=Tryz.func293.trans (congrArg some (by kernel_rfl))
 f338:=Tryz.func294.trans (congrArg some (by kernel_rfl))
 t0:=underlying0
 a0:=Tryz.isAgg0
 z0:=Tryz.sizeOf0
 v0:=Tryz.zeroValue0
 t2:=underlying2
 a2:=Tryz.isAgg2
 z2:=Tryz.sizeOf2
 v2:=Tryz.zeroValue2
 t3:=underlying3
 a3:=Tryz.isAgg3
 z3:=Tryz.sizeOf3
 v3:=Tryz.zeroValue3
 t4:=underlying4
 a4:=Tryz.isAgg4
 z4:=Tryz.sizeOf4
 v4:=Tryz.zeroValue4
 t5:=underlying5
 a5:=Tryz.isAgg5
 z5:=Tryz.sizeOf5
 v5:=Tryz.zeroValue5
 t9:=underlying9
 a9:=Tryz.isAgg9
 z9:=Tryz.sizeOf9
 v9:=Tryz.zeroValue9
 t20:=underlying20
 a20:=Tryz.isAgg20
 z20:=Tryz.sizeOf20
 v20:=Tryz.zeroValue20
 t37:=underlying117
 a37:=Tryz.isAgg117
 z37:=Tryz.sizeOf117
 v37:=Tryz.zeroValue117
 t46:=underlying201
 a46:=Tryz.isAgg201
 z46:=Tryz.sizeOf201
 v46:=Tryz.zeroValue201
 t51:=underlying313
 a51:=Tryz.isAgg313
 z51:=Tryz.sizeOf313
 v51:=Tryz.zeroValue313
 t53:=underlying252
 a53:=Tryz.isAgg252
 z53:=Tryz.sizeOf252
 v53:=Tryz.zeroValue252
 t171:=underlying274
 a171:=Tryz.isAgg274
 z171:=Tryz.sizeOf274
 v171:=Tryz.zeroValue274
 t173:=underlying277
 a173:=Tryz.isAgg277
 z173:=Tryz.sizeOf277
 v173:=Tryz.zeroValue277
 t212:=underlying312
 a212:=Tryz.isAgg312
 z212:=Tryz.sizeOf312
 v212:=Tryz.zeroValue312
 t213:=underlying314
 a213:=Tryz.isAgg314
 z213:=Tryz.sizeOf314
 t232:=underlying352
 a232:=Tryz.isAgg352
 z232:=Tryz.sizeOf352
 v232:=Tryz.zeroValue352
 t233:=underlying353
 a233:=Tryz.isAgg353
 z233:=Tryz.sizeOf353
 v233:=Tryz.zeroValue353
 g17:=by kernel_rfl
 g18:=by kernel_rfl
 g19:=by kernel_rfl
 i0:=by kernel_rfl
 i2:=by kernel_rfl
 i3:=by kernel_rfl
 i4:=by kernel_rfl
 i5:=by kernel_rfl
 i9:=by kernel_rfl
 i20:=by kernel_rfl
 i37:=by kernel_rfl
 i46:=by kernel_rfl
 i51:=by kernel_rfl
 i53:=by kernel_rfl
 i171:=by kernel_rfl
 i173:=by kernel_rfl
 i212:=by kernel_rfl
 i232:=by kernel_rfl
 i233:=by kernel_rfl
 m17:=by kernel_rfl
 m18:=by kernel_rfl
 m19:=by kernel_rfl }
open Go.RowKit Go.Sort Go.Lib in
theorem Tryz.strconv_Itoa(n:Int)(h0:-9223372036854775808<=n)(h1:n<=9223372036854775807)(w:World)(htab:Lib.TabIs Tryz.prog w "internal/strconv.uint64pow10" .u64 Lib.pow10Tab) :
  Calls Tryz.prog 94 #[.int .i64 n] w fun e w'=>e = .returned (.string ⟨(Lib.itoa n).toArray⟩) /\ ∃k os,w'=grow (w.drewN k) os:=Any.strconv_Itoa Tryz.laysM171 n h0 h1 w htab
def Tryz.laysM316_ren:Go.Shelf.Ren:=⟨fun|316=>297|n=>n,fun|9=>9|3=>3|4=>4|37=>117|0=>0|127=>166|5=>5|n=>n,fun|n=>n⟩
theorem Tryz.laysM316:Go.Proofs.LaysM.n316 Tryz.prog Tryz.laysM316_ren:={
 mixed:=by kernel_rfl
 f316:=Tryz.func297.trans (congrArg some (by kernel_rfl))
 t0:=underlying0
 a0:=Tryz.isAgg0
 z0:=Tryz.sizeOf0
 v0:=Tryz.zeroValue0
 t3:=underlying3
 a3:=Tryz.isAgg3
 z3:=Tryz.sizeOf3
 v3:=Tryz.zeroValue3
 t4:=underlying4
 a4:=Tryz.isAgg4
 z4:=Tryz.sizeOf4
 v4:=Tryz.zeroValue4
 t9:=underlying9
 a9:=Tryz.isAgg9
 z9:=Tryz.sizeOf9
 v9:=Tryz.zeroValue9
 t37:=underlying117
 a37:=Tryz.isAgg117
 z37:=Tryz.sizeOf117
 v37:=Tryz.zeroValue117
 t127:=underlying166
 a127:=Tryz.isAgg166
 z127:=Tryz.sizeOf166
 v127:=Tryz.zeroValue166
 t5:=underlying5
 a5:=Tryz.isAgg5
 z5:=Tryz.sizeOf5
 v5:=Tryz.zeroValue5
 i0:=by kernel_rfl
 i3:=by kernel_rfl
 i4:=by kernel_rfl
 i5:=by kernel_rfl
 i9:=by kernel_rfl
 i37:=by kernel_rfl
 i127:=by kernel_rfl }
open Go.RowKit in
theorem Tryz.stringslite_Clone(s:ByteArray)(w:World)(hlim:s.size<=281474976710656) :
  Calls Tryz.prog 297 #[.string s] w fun e w'=>e = .returned (.string s)/\Below w.heap.size w w':=Any.stringslite_Clone Tryz.laysM316 s w hlim
def Tryz.lays99_ren:Go.Shelf.Ren:=⟨fun|99=>194|206=>233|n=>n,fun|9=>9|4=>4|3=>3|n=>n,fun|n=>n⟩
theorem Tryz.lays99:Go.Proofs.Lays.n99 Tryz.prog Tryz.lays99_ren:={
 mixed:=by kernel_rfl
 f99:=Tryz.func194.trans (congrArg some (by kernel_rfl))
 f206:=Tryz.func233.trans (congrArg some (by kernel_rfl))
 t3:=underlying3
 a3:=Tryz.isAgg3
 z3:=Tryz.sizeOf3
 v3:=Tryz.zeroValue3
 t4:=underlying4
 a4:=Tryz.isAgg4
 z4:=Tryz.sizeOf4
 v4:=Tryz.zeroValue4
 t9:=underlying9
 a9:=Tryz.isAgg9
 z9:=Tryz.sizeOf9
 v9:=Tryz.zeroValue9 }
open Go.RowKit Go.Lib in
theorem Tryz.strings_HasPrefix(s p:ByteArray)(w:World) :
  Calls Tryz.prog 194 #[.string s,.string p] w fun e w'=>e = .returned (.bool (Lib.hasPrefix s.data.toList p.data.toList))/\w'=w:=Any.strings_HasPrefix Tryz.lays99 s p w
def Tryz.lays197_ren:Go.Shelf.Ren:=⟨fun|197=>230|260=>276|n=>n,fun|9=>9|21=>21|3=>3|4=>4|5=>5|105=>289|119=>207|0=>0|46=>201|139=>210|138=>209|n=>n,fun|3=>1|4=>2|n=>n⟩
theorem Tryz.lays197:Go.Proofs.Lays.n197 Tryz.prog Tryz.lays197_ren:={
 mixed:=by kernel_rfl
 f197:=Tryz.func230.trans (congrArg some (by kernel_rfl))
 f260:=Tryz.func276.trans (congrArg some (by kernel_rfl))
 t0:=underlying0
 a0:=Tryz.isAgg0
 z0:=Tryz.sizeOf0
 v0:=Tryz.zeroValue0
 t3:=underlying3
 a3:=Tryz.isAgg3
 z3:=Tryz.sizeOf3
 v3:=Tryz.zeroValue3
 t4:=underlying4
 a4:=Tryz.isAgg4
 z4:=Tryz.sizeOf4
 v4:=Tryz.zeroValue4
 t5:=underlying5
 a5:=Tryz.isAgg5
 z5:=Tryz.sizeOf5
 v5:=Tryz.zeroValue5
 t9:=underlying9
 a9:=Tryz.isAgg9
 z9:=Tryz.sizeOf9
 v9:=Tryz.zeroValue9
 t21:=underlying21
 a21:=Tryz.isAgg21
 z21:=Tryz.sizeOf21
 v21:=Tryz.zeroValue21
 t46:=underlying201
 a46:=Tryz.isAgg201
 z46:=Tryz.sizeOf201
 v46:=Tryz.zeroValue201
 t105:=underlying289
 a105:=Tryz.isAgg289
 z105:=Tryz.sizeOf289
 v105:=Tryz.zeroValue289
 t119:=underlying207
 a119:=Tryz.isAgg207
 z119:=Tryz.sizeOf207
 t138:=underlying209
 a138:=Tryz.isAgg209
 z138:=Tryz.sizeOf209
 v138:=Tryz.zeroValue209
 t139:=underlying210
 a139:=Tryz.isAgg210
 z139:=Tryz.sizeOf210
 v139:=Tryz.zeroValue210
 g3:=by kernel_rfl
 g4:=by kernel_rfl }
open Go.RowKit Go.Lib in
theorem Tryz.utf8_DecodeRuneInString(s:ByteArray)(w:World)(hT:Lib.Utf8Tabs 1 2 w) :
  Calls Tryz.prog 230 #[.string s] w fun e w'=>e = .returned (.tuple #[.int .i32 (Lib.decodeGo s).1,.int .i64 (Lib.decodeGo s).2])/\Below w.heap.size w w':=Any.utf8_DecodeRuneInString Tryz.lays197 s w hT
def Tryz.keys141_ren:Go.Shelf.Ren:=⟨fun|7=>141|10=>188|n=>n,fun|23=>109|26=>9|3=>80|28=>204|0=>0|27=>203|33=>54|4=>4|n=>n,fun|n=>n⟩
theorem Tryz.keys141:Go.Proofs.SlLaysZ.n7 Tryz.prog Tryz.keys141_ren:={
 mixed:=by kernel_rfl
 f7:=⟨Tryz.f141.name,by decide,Tryz.func141.trans (congrArg some (by kernel_rfl))⟩
 f10:=⟨Tryz.f188.name,by decide,Tryz.func188.trans (congrArg some (by kernel_rfl))⟩
 t0:=underlying0
 a0:=Tryz.isAgg0
 z0:=Tryz.sizeOf0
 v0:=Tryz.zeroValue0
 t4:=underlying4
 a4:=Tryz.isAgg4
 z4:=Tryz.sizeOf4
 v4:=Tryz.zeroValue4
 t23:=underlying109
 a23:=Tryz.isAgg109
 z23:=Tryz.sizeOf109
 v23:=Tryz.zeroValue109
 t26:=underlying9
 a26:=Tryz.isAgg9
 z26:=Tryz.sizeOf9
 v26:=Tryz.zeroValue9
 t27:=underlying203
 a27:=Tryz.isAgg203
 z27:=Tryz.sizeOf203
 v27:=Tryz.zeroValue203
 t28:=underlying204
 a28:=Tryz.isAgg204
 z28:=Tryz.sizeOf204
 v28:=Tryz.zeroValue204
 t33:=underlying54
 a33:=Tryz.isAgg54
 z33:=Tryz.sizeOf54
 v33:=Tryz.zeroValue54 }
def Tryz.sorted140_ren:Go.Shelf.Ren:=⟨fun|6=>140|8=>186|9=>187|11=>226|13=>228|12=>227|23=>275|24=>257|14=>266|15=>267|16=>268|17=>269|18=>270|19=>271|20=>272|21=>273|22=>274|25=>298|26=>299|27=>300|28=>301|29=>302|30=>303|31=>313|n=>n,fun|26=>9|28=>204|24=>59|0=>0|3=>3|37=>201|48=>313|50=>252|4=>4|40=>318|39=>317|45=>216|5=>5|9=>9|51=>336|55=>340|57=>354|58=>189|33=>54|n=>n,fun|n=>n⟩
theorem Tryz.sorted140:Go.Proofs.SlLaysZ.n6 Tryz.prog Tryz.sorted140_ren:={
 mixed:=by kernel_rfl
 f6:=⟨Tryz.f140.name,by decide,Tryz.func140.trans (congrArg some (by kernel_rfl))⟩
 f8:=⟨Tryz.f186.name,by decide,Tryz.func186.trans (congrArg some (by kernel_rfl))⟩
 f11:=⟨Tryz.f226.name,by decide,Tryz.func226.trans (congrArg some (by kernel_rfl))⟩
 t0:=underlying0
 a0:=Tryz.isAgg0
 z0:=Tryz.sizeOf0
 v0:=Tryz.zeroValue0
 t24:=underlying59
 a24:=Tryz.isAgg59
 z24:=Tryz.sizeOf59
 v24:=Tryz.zeroValue59
 t26:=underlying9
 a26:=Tryz.isAgg9
 z26:=Tryz.sizeOf9
 v26:=Tryz.zeroValue9
 t28:=underlying204
 a28:=Tryz.isAgg204
 z28:=Tryz.sizeOf204
 v28:=Tryz.zeroValue204
 i26:=by kernel_rfl }
def Tryz.sort187_ren:Go.Shelf.Ren:=⟨fun|6=>187|8=>228|9=>227|19=>275|20=>257|21=>266|22=>267|23=>268|24=>269|25=>270|26=>271|27=>272|28=>273|29=>274|36=>298|31=>299|32=>300|37=>301|38=>302|39=>303|41=>313|n=>n,fun|27=>59|29=>9|3=>3|32=>201|26=>59|0=>0|44=>313|46=>252|4=>4|36=>318|35=>317|41=>216|5=>5|9=>9|53=>336|57=>340|63=>354|64=>189|n=>n,fun|n=>n⟩
theorem Tryz.sort187:Go.Proofs.SlLaysM.n6 Tryz.prog Tryz.sort187_ren:={
 mixed:=by kernel_rfl
 f6:=⟨Tryz.f187.name,by decide,Tryz.func187.trans (congrArg some (by kernel_rfl))⟩
 f8:=Tryz.func228.trans (congrArg some (by kernel_rfl))
 f9:=⟨Tryz.f227.name,by decide,Tryz.func227.trans (congrArg some (by kernel_rfl))⟩
 f19:=Tryz.func275.trans (congrArg some (by kernel_rfl))
 f20:=Tryz.func257.trans (congrArg some (by kernel_rfl))
 f21:=⟨Tryz.f266.name,by decide,Tryz.func266.trans (congrArg some (by kernel_rfl))⟩
 f22:=⟨Tryz.f267.name,by decide,Tryz.func267.trans (congrArg some (by kernel_rfl))⟩
 f23:=⟨Tryz.f268.name,by decide,Tryz.func268.trans (congrArg some (by kernel_rfl))⟩
 f24:=⟨Tryz.f269.name,by decide,Tryz.func269.trans (congrArg some (by kernel_rfl))⟩
 f25:=⟨Tryz.f270.name,by decide,Tryz.func270.trans (congrArg some (by kernel_rfl))⟩
 f26:=⟨Tryz.f271.name,by decide,Tryz.func271.trans (congrArg some (by kernel_rfl))⟩
 f27:=⟨Tryz.f272.name,by decide,Tryz.func272.trans (congrArg some (by kernel_rfl))⟩
 f28:=⟨Tryz.f273.name,by decide,Tryz.func273.trans (congrArg some (by kernel_rfl))⟩
 f29:=⟨Tryz.f274.name,by decide,Tryz.func274.trans (congrArg some (by kernel_rfl))⟩
 f31:=Tryz.func299.trans (congrArg some (by kernel_rfl))
 f32:=Tryz.func300.trans (congrArg some (by kernel_rfl))
 f36:=⟨Tryz.f298.name,by decide,Tryz.func298.trans (congrArg some (by kernel_rfl))⟩
 f37:=⟨Tryz.f301.name,by decide,Tryz.func301.trans (congrArg some (by kernel_rfl))⟩
 f38:=⟨Tryz.f302.name,by decide,Tryz.func302.trans (congrArg some (by kernel_rfl))⟩
 f39:=⟨Tryz.f303.name,by decide,Tryz.func303.trans (congrArg some (by kernel_rfl))⟩
 f41:=⟨Tryz.f313.name,by decide,Tryz.func313.trans (congrArg some (by kernel_rfl))⟩
 t0:=underlying0
 a0:=Tryz.isAgg0
 z0:=Tryz.sizeOf0
 v0:=Tryz.zeroValue0
 t3:=underlying3
 a3:=Tryz.isAgg3
 z3:=Tryz.sizeOf3
 v3:=Tryz.zeroValue3
 t4:=underlying4
 a4:=Tryz.isAgg4
 z4:=Tryz.sizeOf4
 v4:=Tryz.zeroValue4
 t5:=underlying5
 a5:=Tryz.isAgg5
 z5:=Tryz.sizeOf5
 v5:=Tryz.zeroValue5
 t9:=underlying9
 a9:=Tryz.isAgg9
 z9:=Tryz.sizeOf9
 v9:=Tryz.zeroValue9
 t26:=underlying59
 a26:=Tryz.isAgg59
 z26:=Tryz.sizeOf59
 v26:=Tryz.zeroValue59
 t27:=underlying59
 a27:=Tryz.isAgg59
 z27:=Tryz.sizeOf59
 v27:=Tryz.zeroValue59
 t29:=underlying9
 a29:=Tryz.isAgg9
 z29:=Tryz.sizeOf9
 v29:=Tryz.zeroValue9
 t32:=underlying201
 a32:=Tryz.isAgg201
 z32:=Tryz.sizeOf201
 v32:=Tryz.zeroValue201
 t35:=underlying317
 a35:=Tryz.isAgg317
 z35:=Tryz.sizeOf317
 v35:=Tryz.zeroValue317
 t36:=underlying318
 a36:=Tryz.isAgg318
 z36:=Tryz.sizeOf318
 v36:=Tryz.zeroValue318
 t41:=underlying216
 a41:=Tryz.isAgg216
 z41:=Tryz.sizeOf216
 v41:=Tryz.zeroValue216
 t44:=underlying313
 a44:=Tryz.isAgg313
 z44:=Tryz.sizeOf313
 v44:=Tryz.zeroValue313
 t46:=underlying252
 a46:=Tryz.isAgg252
 z46:=Tryz.sizeOf252
 v46:=Tryz.zeroValue252
 t53:=underlying336
 a53:=Tryz.isAgg336
 z53:=Tryz.sizeOf336
 v53:=Tryz.zeroValue336
 t57:=underlying340
 a57:=Tryz.isAgg340
 z57:=Tryz.sizeOf340
 v57:=Tryz.zeroValue340
 t63:=underlying354
 a63:=Tryz.isAgg354
 z63:=Tryz.sizeOf354
 v63:=Tryz.zeroValue354
 t64:=underlying189
 a64:=Tryz.isAgg189
 z64:=Tryz.sizeOf189
 v64:=Tryz.zeroValue189 }
open Go.RowKit Go.Maps Go.Sort
theorem Tryz.sorts140(m:Nat):AnyZ.SortsIn Tryz.prog Tryz.sorted140_ren Fence.wide m :=
 ⟨fun blk off cap ss W hH hblk hsz=>callsIn_wide.2 (AnyM.slices_Sort_string Tryz.sort187 blk off cap ss W hH hblk hsz),
  fun p cap W=>callsIn_wide.2 (AnyM.slices_Sort_string_none Tryz.sort187 p cap W)⟩
theorem Tryz.maps_Keys_141(mb:Option Nat)(W:World):CallsIn Fence.wide 5 Tryz.prog 141 #[.map mb] W fun e w'=>e = .returned (.func (.func 188) #[] #[.pointer (some ⟨W.heap.size,0,none⟩)])/\w'=W.alloc (.cells #[.map mb] 109) :=
 AnyZ.keys_in Tryz.keys141 Fence.wide 5 trivial rfl mb W
theorem Tryz.slices_Sorted_keys_140_141{H:Type}(b nn:Nat)(D0:DataW H)(R:Value->Option (DataW H×List MemPlace))(w:World)(hown:w.ownsMap Tryz.prog 9 R b nn D0)(hmax:Maps.size D0<=maxLen)(hbytes:Maps.size D0*16<=140737488355328) :
  CallsIn Fence.wide 5 Tryz.prog 140 #[.func (.func 188) #[] #[.pointer (some ⟨w.heap.size,0,none⟩)]] (w.alloc (.cells #[.map (some b)] 109)) fun e w'=>∃ (v:Value) (ss:List (List UInt8)),e = .returned v/\ss.Perm (strKeys D0) /\
   w'.ownsRow (w.alloc (.cells #[.map (some b)] 109)).heap.size 9 1 v ss.length ((ss.mergeSort (fun x y=>decide (x<=y))).map encStr)/\(v = .slice none 0 0<->ss=[])/\Below (w.alloc (.cells #[.map (some b)] 109)).heap.size (w.alloc (.cells #[.map (some b)] 109)) w':=by
 have hbl:=hown.lt;have hseq:SeqGives Fence.wide 2 Tryz.prog 188 #[.pointer (some ⟨w.heap.size,0,none⟩)] encStr (fun ss=>ss.Perm (strKeys D0)) (Maps.size D0) (w.alloc (.cells #[.map (some b)] 109)) :=
  AnyZ.keys_gives (ρ:=Tryz.keys141_ren) { Tryz.keys141 with } Fence.wide _ trivial rfl (by omega) w.heap.size b nn D0 _ (by simp) (by simp) (by
   obtain⟨es,clock,hb,Ft,hs,hD⟩:=hown;exact⟨es,clock,(Below.heap_alloc _ _ b hbl).trans hb,Ft,hs,hD⟩)
 exact AnyZ.sorted_in Tryz.sorted140 Fence.wide 5 trivial trivial trivial trivial rfl (by omega) (Tryz.sorts140 _) (enters_of func187 (by kernel_rfl) rfl) 188 #[.pointer (some ⟨w.heap.size,0,none⟩)] trivial (enters_of func188 (by kernel_rfl) rfl) _ _ hmax hbytes _ hseq
end Go.Proofs

namespace Go.Proofs.YtdpomdelmdofmaaGreatDoor
open Go.Proofs.Tryz
open Go.RowKit
theorem Aw(l:Sp.By):(⟨l.toArray⟩:ByteArray).size=l.length:=by simp[ByteArray.size]
theorem Kh(t:ByteArray)(p:Nat):Lib.decodeGo (t.extract p t.size)=Sp.dec (t.data.toList.drop p):=by
 unfold Lib.decodeGo Sp.dec;have e:t.extract p t.size=⟨(t.data.toList.drop p).toArray⟩:=by
  have:=Lib.extract_to_end t p;have h2:(t.extract p t.size).data=(t.data.toList.drop p).toArray:=by rw[<- this]
  exact congrArg ByteArray.mk h2
 rw[e,Aw]
theorem Gq(l:Sp.By):(Sp.dec l).2<=l.length:=by
 unfold Sp.dec;split
 ·simp
 ·rename_i h;rw[Lib.decode_at];rw[Aw];unfold Lib.decodeN
  repeat' split
  all_goals (simp only;omega)
theorem UM(l:Sp.By):(Sp.dec l).1<=1114111:=by
 unfold Sp.dec;split
 ·simp
 ·rw[Lib.decode_at];have h0:=(ByteArray.get! (⟨l.toArray⟩:ByteArray) 0).toNat_lt;simp only[Nat.zero_add];generalize (ByteArray.get! (⟨l.toArray⟩:ByteArray) 0).toNat=b0 at *;unfold Lib.decodeN
  repeat' split
  all_goals (simp only;omega)
end Go.Proofs.YtdpomdelmdofmaaGreatDoor

namespace Go.Proofs.YtdpomdelmdofmaaGreatDoor
open Go.Proofs.Tryz
open Go.RowKit
theorem AO{l:Sp.By}{c:UInt8}(h:Sp.tk l c=true):l.tail.length+1=l.length:=by
 cases l with
 | nil=>simp[Sp.tk] at h
 | cons d r=>simp
theorem Nf(k n:Nat)(l:Sp.By)(m:Nat)(r:Sp.By)(h:Sp.Cp k n l=some (m,r)):r.length+k<=l.length:=by
 induction k generalizing n l with
 | zero=>simp[Sp.Cp] at h;rw[h.2];omega
 | succ k ih =>
  rw[Sp.Cp] at h;cases l with
  | nil=>simp[Sp.pk,Sp.Eg] at h
  | cons c l =>
   cases hd:Sp.Eg (Sp.pk (c::l)) with
   | none=>rw[hd] at h;cases h
   | some d =>
    rw[hd] at h;have:=ih _ _ h;simp at this |-; omega
theorem MD(l:Sp.By)(m:Nat)(r:Sp.By)(h:Sp.DI l=some (m,r)):r.length<l.length/\m<=1114111:=by
 unfold Sp.DI at h;cases hx:Sp.Cp 4 0 l with
 | none=>rw[hx] at h;cases h
 | some x =>
  obtain⟨a,r1⟩:=x;have h1:=Nf _ _ _ _ _ hx;have h2:=Iu hx;rw[hx] at h;simp only at h;by_cases c1:a<55296\/57344<=a
  ·rw[if_pos c1] at h;simp at h;rw[<- h.1,<- h.2];omega
  ·rw[if_neg c1] at h;by_cases c2:56320<=a
   ·rw[if_pos c2] at h;cases h
   ·rw[if_neg c2] at h;by_cases c3:Sp.tk r1 92=true
    ·rw[if_pos c3] at h;by_cases c4:Sp.tk r1.tail 117=true
     ·rw[if_pos c4] at h;have k1:=AO c3;have k2:=AO c4;cases hy:Sp.Cp 4 0 r1.tail.tail with
      | none=>rw[hy] at h;cases h
      | some y =>
       obtain⟨b,r2⟩:=y;have g1:=Nf _ _ _ _ _ hy;have g2:=Iu hy;rw[hy] at h;simp only at h;by_cases c5:b<56320\/57344<=b
       ·rw[if_pos c5] at h;cases h
       ·rw[if_neg c5] at h;simp at h;rw[<- h.1,<- h.2];omega
     ·rw[if_neg c4] at h;cases h
    ·rw[if_neg c3] at h;cases h
theorem LF(l:Sp.By)(T:List (UInt8×Nat))(hT:∀x∈T,x.2<=1114111)(m:Nat)(r:Sp.By)(h:Sp.Eh l T=some (m,r)):r.length<l.length/\m<=1114111:=by
 induction T with
 | nil=>cases h
 | cons x T ih =>
  obtain⟨c,n⟩:=x;rw[Sp.Eh] at h;by_cases k:Sp.tk l c=true
  ·rw[if_pos k] at h;simp at h;have:=AO k;have h3:=hT (c,n) (by simp);rw[<- h.1,<- h.2];simp only at h3;omega
  ·rw[if_neg k] at h;exact ih (fun x hx=>hT x (by simp[hx])) h
theorem Pj(l:Sp.By)(h:l≠[]):1<=(Sp.dec l).2:=by
 unfold Sp.dec;rw[if_neg (by simpa using h),Lib.decode_at];unfold Lib.decodeN
 repeat' split
 all_goals simp
theorem KJ{l:Sp.By}{m:Nat}{r:Sp.By}(h:Sp.chr l=some (m,r)):r.length<l.length/\m<=1114111:=by
 unfold Sp.chr at h;by_cases k:Sp.tk l 92=true
 ·rw[if_pos k] at h;have k1:=AO k;unfold Sp.esc at h;by_cases k2:Sp.tk l.tail 117=true
  ·rw[if_pos k2] at h;have k3:=AO k2;have:=MD _ _ _ h;omega
  ·rw[if_neg k2] at h;have:=LF _ Sp.Fy (by decide) _ _ h;omega
 ·rw[if_neg k] at h;by_cases c:(Sp.dec l).1<32\/((Sp.dec l).1=65533/\(Sp.dec l).2<2)
  ·rw[if_pos c] at h;cases h
  ·rw[if_neg c] at h;simp only[Option.some.injEq,Prod.mk.injEq] at h;have h1:=UM l;have hne:l≠[]:=by rintro rfl;simp[Sp.dec] at c
   have h2:=Pj l hne;have h3:=Gq l;rw[<- h.1,<- h.2];simp;omega
theorem KG(r:Int):(Lib.encodeRune r).length<=4:=by
 have:=Lib.runeCells_le r;rw[<- Lib.byteCells_encodeRune,Lib.byteCells_length] at this;exact this.2
end Go.Proofs.YtdpomdelmdofmaaGreatDoor
