import Derived.Test.YtdpomdelmdofmaaGreatDoorPfx03
open Go.Proofs.Tryz renaming prog->AI
open Or renaming inr->AS,inl->A5
open Int renaming ofNat_sub->AT,natCast_add->A3
open BitVec renaming ofInt->A1
open Go renaming Calls->A2,World->A4
open Nat renaming pow_succ->A6
set_option maxHeartbeats 2000000
namespace Go.Proofs.YtdpomdelmdofmaaGreatDoor
open Go.Proofs.Tryz Go.RowKit
variable{w:A4}{R:Nat}{t:ByteArray}{l:By}{tw:Bool}{dp fr:Int}
theorem YF(n:Nat)(w:A4)(h1:48<=n)(h2:n<=57):
  A2 AI 319 #[.int .u8 n] w fun e w'=>e=.returned (.tuple #[.int .i32 ((n:Int)-48),.bool true])/\w'=w:=by
 have hd:Cw n=true:=by simp[Cw,h1,h2]
 have HD:=Ab hd;clear hd
 go_enter func319,ntmps319
 go_wp2_with (fail);refine (BD n _ (by omega)).mono ?_
 rintro e w2 ⟨rfl,rfl⟩;rw[Aa HD]
 go_wp2_with (fail)
 go_ret2
 exact⟨rfl,rfl⟩
theorem YE(n:Nat)(w:A4)(h1:97<=n)(h2:n<=102):
  A2 AI 319 #[.int .u8 n] w fun e w'=>e=.returned (.tuple #[.int .i32 ((n:Int)-97+10),.bool true])/\w'=w:=by
 have hd:Cw n=false:=by simp[Cw];omega
 have HD:=Ab hd;have e1:decide ((97:Int)<=(n:Int))=true:=by simp;omega
 have e2:decide ((n:Int)<=102)=true:=by simp;omega
 clear hd
 go_enter func319,ntmps319
 go_wp2_with (fail);refine (BD n _ (by omega)).mono ?_
 rintro e w2 ⟨rfl,rfl⟩;rw[Aa HD]
 go_wp2_with (fail)
 go_ret2
 exact⟨rfl,rfl⟩
theorem YD(n:Nat)(w:A4)(h1:65<=n)(h2:n<=70):
  A2 AI 319 #[.int .u8 n] w fun e w'=>e=.returned (.tuple #[.int .i32 ((n:Int)-65+10),.bool true])/\w'=w:=by
 have hd:Cw n=false:=by simp[Cw];omega
 have HD:=Ab hd;have e1:decide ((97:Int)<=(n:Int))=false:=by simp;omega
 have e2:decide ((65:Int)<=(n:Int))=true:=by simp;omega
 have e3:decide ((n:Int)<=70)=true:=by simp;omega
 clear hd
 go_enter func319,ntmps319
 go_wp2_with (fail);refine (BD n _ (by omega)).mono ?_
 rintro e w2 ⟨rfl,rfl⟩;rw[Aa HD]
 go_wp2_with (fail)
 go_ret2
 exact⟨rfl,rfl⟩
theorem YC(n:Nat)(w:A4)(h0:n<256)(h1:¬ (48<=n/\n<=57))(h2:¬ (97<=n/\n<=102))(h3:¬ (65<=n/\n<=70)):
  A2 AI 319 #[.int .u8 n] w fun e w'=>e=.returned (.tuple #[.int .i32 0,.bool false])/\w'=w:=by
 have hd:Cw n=false:=by simp[Cw];omega
 have HD:=Ab hd;have hc:(n<65)\/(70<n/\n<97)\/(102<n):=by omega
 clear hd h1 h2 h3;rcases hc with a|⟨a,b⟩|a
 ·have e1:decide ((97:Int)<=(n:Int))=false:=by simp;omega
  have e2:decide ((65:Int)<=(n:Int))=false:=by simp;omega
  go_enter func319,ntmps319
  go_wp2_with (fail);refine (BD n _ (by omega)).mono ?_
  rintro e w2 ⟨rfl,rfl⟩;rw[Aa HD]
  go_wp2_with (fail)
  go_ret2
  exact⟨rfl,rfl⟩
 ·have e1:decide ((97:Int)<=(n:Int))=false:=by simp;omega
  have e2:decide ((65:Int)<=(n:Int))=true:=by simp;omega
  have e3:decide ((n:Int)<=70)=false:=by simp;omega
  go_enter func319,ntmps319
  go_wp2_with (fail);refine (BD n _ (by omega)).mono ?_
  rintro e w2 ⟨rfl,rfl⟩;rw[Aa HD]
  go_wp2_with (fail)
  go_ret2
  exact⟨rfl,rfl⟩
 ·have e1:decide ((97:Int)<=(n:Int))=true:=by simp;omega
  have e2:decide ((n:Int)<=102)=false:=by simp;omega
  have e3:decide ((65:Int)<=(n:Int))=true:=by simp;omega
  have e4:decide ((n:Int)<=70)=false:=by simp;omega
  go_enter func319,ntmps319
  go_wp2_with (fail);refine (BD n _ (by omega)).mono ?_
  rintro e w2 ⟨rfl,rfl⟩;rw[Aa HD]
  go_wp2_with (fail)
  go_ret2
  exact⟨rfl,rfl⟩
theorem Us(n d:Nat)(w:A4)(h:EU n=some d):
  A2 AI 319 #[.int .u8 n] w fun e w'=>e=.returned (.tuple #[.int .i32 d,.bool true])/\w'=w:=by
 unfold EU at h;split at h
 ·rename_i a;injection h with h;subst h;exact (YF n w a.1 a.2).mono fun e w' he=>⟨by rw[he.1,AT a.1];rfl,he.2⟩
 ·split at h
  ·rename_i a;injection h with h;subst h;exact (YE n w a.1 a.2).mono fun e w' he=>⟨by rw[he.1,A3,AT a.1];rfl,he.2⟩
  ·split at h
   ·rename_i a;injection h with h;subst h;exact (YD n w a.1 a.2).mono fun e w' he=>⟨by rw[he.1,A3,AT a.1];rfl,he.2⟩
   ·cases h
theorem Uu(n:Nat)(w:A4)(h0:n<256)(h:EU n=none):
  A2 AI 319 #[.int .u8 n] w fun e w'=>e=.returned (.tuple #[.int .i32 0,.bool false])/\w'=w:=by
 unfold EU at h;split at h
 ·cases h
 ·split at h
  ·cases h
  ·split at h
   ·cases h
   ·rename_i a b c;exact YC n w h0 a b c
theorem Pb{n d:Nat}(h:EU n=some d):d<16:=by
 unfold EU at h;split at h
 ·injection h with h;omega
 ·split at h
  ·injection h with h;omega
  ·split at h
   ·injection h with h;omega
   ·cases h
theorem Ky(n:Nat)(h:n<2147483648):IntKind.i32.wrap (n:Int)=(n:Int):=by
 grind [IntKind.wrap,IntKind.bits,IntKind.signed]
theorem MJ(a:Nat)(ha:a<4294967296):(A1 32 (a:Int)).toNat=a:=by
 grind
theorem P9(a b:Nat)(ha:a<2147483648)(hb:b<2147483648):bits .or .i32 (a:Int) (b:Int)=((a ||| b:Nat):Int):=by
 have q0:a ||| b<2147483648:=Nat.or_lt_two_pow (n:=31) ha hb;show IntKind.i32.wrap ((A1 32 (a:Int) ||| A1 32 (b:Int)).toNat:Int)=_;rw[BitVec.toNat_or,MJ a (by omega),MJ b (by omega)];exact Ky _ q0
theorem XG(m d:Nat)(hm:m<65536)(hd:d<16):bits .or .i32 (wrap32 ((m:Int)*16)) (d:Int)=((m*16+d:Nat):Int):=by
 have e:wrap32 ((m:Int)*16)=((m*16:Nat):Int):=by unfold wrap32;omega
 rw[e,P9 _ _ (by omega) (by omega)];have:=Nat.shiftLeft_add_eq_or_of_lt (i:=4) (b:=d) (by omega) m
 grind [Nat.shiftLeft_eq,wrap32]
theorem Gj(h:RD w R t l tw dp fr):
  A2 AI 312 #[.pointer (some ⟨R,0,none⟩)] w fun e w'=>Ae R w w' /\ ∃l',RD w' R t l' tw dp fr /\
   ((∃n,Cx 4 0 l=some (n,l')/\e=.returned (.tuple #[.int .i32 n,.bool true]))\/(Cx 4 0 l=none/\e=.returned (.tuple #[.int .i32 0,.bool false]))):=by
 go_enter func312,ntmps312
 go_wp2_with (fail)
 go_loopw [4,7] (fun n i wr=>∃ (k m:Nat) (l':By),k<=4/\i=.int .i64 k/\n=.int .i32 m/\m<16 ^ k/\RD wr R t l' tw dp fr/\Cx 4 0 l=Cx (4-k) m l'/\Ae R w wr) (fun _ i _=>4-(intOf i).toNat)
 case atStart=>exact⟨0,0,l,by omega,rfl,rfl,by omega,h,rfl,Ae.refl R w⟩
 case round=>
  obtain⟨k,m,l',q8,rfl,rfl,hm,hr,he,hk⟩:=hrel;have HE:=Ab he;clear he h;by_cases hlt:k<4
  ·have h5:∃j,4-k=j+1:=⟨3-k,by omega⟩
   cases hd:EU (Zt l') with
   | none=>
    have HD:=Ab hd;clear hd
    go_wp2_with (fail);refine (Ev hr).mono ?_
    rintro e w1 ⟨rfl,q5,q4⟩
    go_wp2_with (fail);refine (Uu _ _ (Jv l') (Aa HD)).mono ?_
    rintro e w2 ⟨rfl,rfl⟩
    go_wp2_with (fail)
    go_ret2
    refine⟨hk.trans q4,l',q5,AS ⟨?_,rfl⟩⟩;obtain⟨j,hj⟩:=h5;rw[Aa HE,hj,Cx,Aa HD]
   | some d=>
    have HD:=Ab hd;have q6:=Pb hd;clear hd
    go_wp2_with (fail);refine (Ev hr).mono ?_
    rintro e w1 ⟨rfl,q5,q4⟩
    go_wp2_with (fail);refine (Us _ d _ (Aa HD)).mono ?_
    rintro e w2 ⟨rfl,rfl⟩;obtain⟨q,ha,hq⟩:=q5;have c1:=hq.c1;have f1:=hq.fz 1;have hs:=ha.small;have q9:=ha.le;have HQ:=Ab hq;have q7:=Ab ha;clear hq ha hr
    go_wp2_with (fail)
    go_roundw
    case rel=>
     obtain⟨j,hj⟩:=h5;have qb:(16:Nat) ^ k<=16 ^ 3:=Nat.pow_le_pow_right (by omega) (by omega);have q0:1<=l'.length:=by
      have:=Aa HD;cases l' with
      | nil=>simp[Zt,EU] at this
      | cons c r=>simp
     refine⟨k+1,m*16+d,l'.tail,by omega,by go_num,by rw[XG m d (by omega) q6],by rw[A6];omega,⟨q+1,by simpa using (Aa q7).add 1 q0,(Aa HQ).set1 (q+1)⟩,?_,(hk.trans q4).setCell rfl _⟩;rw[Aa HE,hj,Cx,Aa HD,show 4-(k+1)=j by omega]
    case measure=>simp[intOf];omega
  ·go_wp2_with (fail)
   go_ret2
   refine⟨hk,l',hr,A5 ⟨m,?_,rfl⟩⟩;rw[Aa HE,show 4-k=0 by omega,Cx]
theorem AA{c:UInt8}(h:¬ Zn l c=true):Zn l c=false:=by simpa using h
theorem DV{c:UInt8}(h:Zn l c=true)(hc:bP c=true):Zu l=Zu l.tail/\l.tail.length<l.length:=by
 cases l with
 | nil=>simp[Zn] at h
 | cons d r=>
  have:d=c:=by simpa[Zn] using h
  subst this;simp[Zu,hc]
theorem Xi(h1:Zn l 32=false)(h2:Zn l 9=false)(h3:Zn l 10=false)(h4:Zn l 13=false):Zu l=l:=by
 cases l with
 | nil=>rfl
 | cons d r=>
  simp[Zn] at h1 h2 h3 h4;simp[Zu,bP,h1,h2,h3,h4]
theorem BT(h:RD w R t l tw dp fr):
  A2 AI 136 #[.pointer (some ⟨R,0,none⟩)] w fun e w'=>e=.returned (.tuple #[])/\RD w' R t (Zu l) tw dp fr/\Ae R w w':=by
 go_enter func136,ntmps136
 go_wp2_with (fail)
 go_loopw [2] (fun _ wr=>∃l',RD wr R t l' tw dp fr/\Zu l=Zu l'/\Ae R w wr) (fun _ wr=>left wr R)
 case atStart=>exact⟨l,h,rfl,Ae.refl R w⟩
 case round=>
  obtain⟨l',hr,he,hk⟩:=hrel;have HE:=Ab he;have HL:=Ab hr.left;clear he h;by_cases k1:Zn l' 32=true
  ·go_wp2_with (fail);refine (Ar 32 _ rfl hr k1).mono ?_
   rintro e w' ⟨rfl,q0,q4⟩
   go_wp2_with (fail)
   go_roundw
   case rel=>exact⟨l'.tail,q0,(Aa HE).trans (DV k1 rfl).1,hk.trans q4⟩
   case measure=>rw[q0.left,Aa HL];exact (DV k1 rfl).2
  ·have k1:=Ab (AA k1)
   go_wp2_with (fail);refine (AP 32 _ rfl hr (Aa k1)).mono ?_
   rintro e w1 ⟨rfl,qb,q6⟩;have q6:=hk.trans q6;by_cases k2:Zn l' 9=true
   ·go_wp2_with (fail);refine (Ar 9 _ rfl qb k2).mono ?_
    rintro e w' ⟨rfl,q0,q4⟩
    go_wp2_with (fail)
    go_roundw
    case rel=>exact⟨l'.tail,q0,(Aa HE).trans (DV k2 rfl).1,q6.trans q4⟩
    case measure=>rw[q0.left,Aa HL];exact (DV k2 rfl).2
   ·have k2:=Ab (AA k2)
    go_wp2_with (fail);refine (AP 9 _ rfl qb (Aa k2)).mono ?_
    rintro e w2 ⟨rfl,q9,hk2⟩;have hk2:=q6.trans hk2;by_cases k3:Zn l' 10=true
    ·go_wp2_with (fail);refine (Ar 10 _ rfl q9 k3).mono ?_
     rintro e w' ⟨rfl,q0,q4⟩
     go_wp2_with (fail)
     go_roundw
     case rel=>exact⟨l'.tail,q0,(Aa HE).trans (DV k3 rfl).1,hk2.trans q4⟩
     case measure=>rw[q0.left,Aa HL];exact (DV k3 rfl).2
    ·have k3:=Ab (AA k3)
     go_wp2_with (fail);refine (AP 10 _ rfl q9 (Aa k3)).mono ?_
     rintro e w3 ⟨rfl,q8,q5⟩;have q5:=hk2.trans q5;by_cases k4:Zn l' 13=true
     ·go_wp2_with (fail);refine (Ar 13 _ rfl q8 k4).mono ?_
      rintro e w' ⟨rfl,q0,q4⟩
      go_wp2_with (fail)
      go_roundw
      case rel=>exact⟨l'.tail,q0,(Aa HE).trans (DV k4 rfl).1,q5.trans q4⟩
      case measure=>rw[q0.left,Aa HL];exact (DV k4 rfl).2
     ·have k4:=Ab (AA k4)
      go_wp2_with (fail);refine (AP 13 _ rfl q8 (Aa k4)).mono ?_
      rintro e w4 ⟨rfl,qd,q7⟩;have q7:=q5.trans q7
      go_wp2_with (fail);have hq:=Xi (Aa k1) (Aa k2) (Aa k3) (Aa k4)
      go_end0
      refine⟨rfl,?_,q7⟩;rw[Aa HE,hq];exact qd
theorem Qa(k n:Nat)(l:By)(m:Nat)(r:By)(h:Cx k n l=some (m,r)):m<(n+1)*16 ^ k:=by
 induction k generalizing n l with
 | zero=>simp[Cx] at h;omega
 | succ k ih=>
  rw[Cx] at h;cases hd:EU (Zt l) with
  | none=>rw[hd] at h;cases h
  | some d=>
   rw[hd] at h;have h1:=ih _ _ h;have h2:=Pb hd;have h3:(n*16+d+1)*16 ^ k<=(n+1)*16*16 ^ k:=Nat.mul_le_mul_right _ (by omega);rw[A6];calc m<_:=h1
    _<=_:=h3
    _=_:=by rw[Nat.mul_assoc,Nat.mul_comm 16]
theorem LY{r:By}{m:Nat}(h:Cx 4 0 l=some (m,r)):m<65536:=by
 have:=Qa 4 0 l m r h;simpa using this
def VR(l:By)(e:Ending)(w':A4)(R:Nat)(t:ByteArray)(tw:Bool)(dp fr:Int):Prop:=
 (∃n l',DG l=some (n,l')/\e=.returned (.tuple #[.int .i32 n,.bool true])/\RD w' R t l' tw dp fr) \/
  (DG l=none /\ ∃n l',e=.returned (.tuple #[.int .i32 n,.bool false])/\RD w' R t l' tw dp fr)
theorem PH(h:RD w R t l tw dp fr):
  A2 AI 295 #[.pointer (some ⟨R,0,none⟩)] w fun e w'=>Ae R w w'/\VR l e w' R t tw dp fr:=by
 go_enter func295,ntmps295
 go_wp2_with (fail);refine (Gj h).mono ?_
 rintro e w1 ⟨q0,l1,q4,hc⟩;rcases hc with⟨a,ha,rfl⟩|⟨hn,rfl⟩
 ·have HS:Hid (DG l=if a<55296\/57344<=a then some (a,l1) else if 56320<=a then none
   else if Zn l1 92 then (if Zn l1.tail 117 then (match Cx 4 0 l1.tail.tail with
     | none=>none
     | some (b,r')=>if b<56320\/57344<=b then none else some (65536+(a-55296)*1024+(b-56320),r'))
    else none) else none):=by unfold DG;rw[ha];rfl
  have hb:=LY ha;clear ha h;by_cases c1:a<55296
  ·have e1:decide ((a:Int)<55296)=true:=by simp;omega
   go_wp2_with (fail)
   go_ret2
   refine⟨q0,A5 ⟨a,l1,?_,rfl,q4⟩⟩;rw[Aa HS,if_pos (A5 c1)]
  ·by_cases c2:57344<=a
   ·have e1:decide ((a:Int)<55296)=false:=by simp;omega
    have e2:decide ((57344:Int)<=(a:Int))=true:=by simp;omega
    go_wp2_with (fail)
    go_ret2
    refine⟨q0,A5 ⟨a,l1,?_,rfl,q4⟩⟩;rw[Aa HS,if_pos (AS c2)]
   ·have e1:decide ((a:Int)<55296)=false:=by simp;omega
    have e2:decide ((57344:Int)<=(a:Int))=false:=by simp;omega
    by_cases c3:56320<=a
    ·have e3:decide ((56320:Int)<=(a:Int))=true:=by simp;omega
     go_wp2_with (fail)
     go_ret2
     refine⟨q0,AS ⟨?_,0,l1,rfl,q4⟩⟩;rw[Aa HS,if_neg (by omega),if_pos c3]
    ·have e3:decide ((56320:Int)<=(a:Int))=false:=by simp;omega
     have HT:Hid (DG l=if Zn l1 92 then (if Zn l1.tail 117 then (match Cx 4 0 l1.tail.tail with
       | none=>none
       | some (b,r')=>if b<56320\/57344<=b then none else some (65536+(a-55296)*1024+(b-56320),r'))
      else none) else none):=by rw[Aa HS,if_neg (by omega),if_neg c3];rfl
     clear HS;by_cases k1:Zn l1 92=true
     ·have K1:=Ab k1;clear k1
      go_wp2_with (fail);refine (Ar 92 _ rfl q4 (Aa K1)).mono ?_
      rintro e w2 ⟨rfl,q5,hk2⟩;by_cases k2:Zn l1.tail 117=true
      ·have K2:=Ab k2;clear k2
       go_wp2_with (fail);refine (Ar 117 _ rfl q5 (Aa K2)).mono ?_
       rintro e w3 ⟨rfl,q7,q8⟩
       go_wp2_with (fail);refine (Gj q7).mono ?_
       rintro e w4 ⟨qb,l4,q6,hc⟩;have hkk:=((q0.trans hk2).trans q8).trans qb;rcases hc with⟨b,q9,rfl⟩|⟨hn,rfl⟩
       ·have qd:=LY q9;have HU:Hid (DG l=if b<56320\/57344<=b then none else some (65536+(a-55296)*1024+(b-56320),l4)):=by
         rw[Aa HT,if_pos (Aa K1),if_pos (Aa K2),q9];rfl
        clear HT q9;by_cases d1:b<56320
        ·have g1:decide ((b:Int)<56320)=true:=by simp;omega
         go_wp2_with (fail)
         go_ret2
         exact⟨hkk,AS ⟨by rw[Aa HU,if_pos (A5 d1)],0,l4,rfl,q6⟩⟩
        ·have g1:decide ((b:Int)<56320)=false:=by simp;omega
         by_cases d2:57344<=b
         ·have g2:decide ((57344:Int)<=(b:Int))=true:=by simp;omega
          go_wp2_with (fail)
          go_ret2
          exact⟨hkk,AS ⟨by rw[Aa HU,if_pos (AS d2)],0,l4,rfl,q6⟩⟩
         ·have g2:decide ((57344:Int)<=(b:Int))=false:=by simp;omega
          have he:Hid (65536+((a:Int)-55296)*1024+(b:Int)-56320=((65536+(a-55296)*1024+(b-56320):Nat):Int)):=Ab (by omega)
          go_wp2_with (fail);rw[Aa he]
          go_ret2
          exact⟨hkk,A5 ⟨65536+(a-55296)*1024+(b-56320),l4,by rw[Aa HU,if_neg (by omega)],rfl,q6⟩⟩
       ·have HU:Hid (DG l=none):=by rw[Hid,Aa HT,if_pos (Aa K1),if_pos (Aa K2),hn]
        clear HT hn
        go_wp2_with (fail)
        go_ret2
        exact⟨hkk,AS ⟨Aa HU,0,l4,rfl,q6⟩⟩
      ·have K2:=Ab (AA k2);clear k2
       go_wp2_with (fail);refine (AP 117 _ rfl q5 (Aa K2)).mono ?_
       rintro e w3 ⟨rfl,q7,q8⟩
       go_wp2_with (fail)
       go_ret2
       refine⟨(q0.trans hk2).trans q8,AS ⟨?_,0,_,rfl,q7⟩⟩;rw[Aa HT,if_pos (Aa K1),Aa K2];rfl
     ·have K1:=Ab (AA k1);clear k1
      go_wp2_with (fail);refine (AP 92 _ rfl q4 (Aa K1)).mono ?_
      rintro e w2 ⟨rfl,q5,hk2⟩
      go_wp2_with (fail)
      go_ret2
      refine⟨q0.trans hk2,AS ⟨?_,0,_,rfl,q5⟩⟩;rw[Aa HT,Aa K1];rfl
 ·have HS:Hid (DG l=none):=by unfold Hid DG;rw[hn]
  clear hn h
  go_wp2_with (fail)
  go_ret2
  exact⟨q0,AS ⟨Aa HS,0,l1,rfl,q4⟩⟩
end Go.Proofs.YtdpomdelmdofmaaGreatDoor
