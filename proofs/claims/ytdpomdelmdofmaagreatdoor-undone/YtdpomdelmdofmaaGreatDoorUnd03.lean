import Derived.Shelf.SlicesE.Delete
import Derived.Shelf.SlicesE.Clone
import Derived.Shelf.SlicesE.Equal
import Derived.Test.YtdpomdelmdofmaaGreatDoorUnd01
namespace Go.Proofs
open Go.Shelf
def Tryz.eDelete_ren:Go.Shelf.Ren:=⟨fun|45=>290|n=>n,fun|22=>106|23=>80|3=>3|4=>4|0=>0|n=>n,fun|n=>n⟩
theorem Tryz.eDelete:Go.Proofs.SlLaysE.n45 Tryz.prog Tryz.eDelete_ren:={
 mixed:=by kernel_rfl
 f45:=⟨Tryz.f290.name,by decide,Tryz.func290.trans (congrArg some (by kernel_rfl))⟩
 t0:=underlying0
 a0:=Tryz.isAgg0
 z0:=Tryz.sizeOf0
 v0:=Tryz.zeroValue0
 t3:=underlying3
 a3:=Tryz.isAgg3
 z3:=Tryz.sizeOf3
 v3:=Tryz.zeroValue3
 t4:=underlying4
 a4:=Tryz.isAgg4
 z4:=Tryz.sizeOf4
 v4:=Tryz.zeroValue4
 t22:=underlying106
 a22:=Tryz.isAgg106
 z22:=Tryz.sizeOf106
 v22:=Tryz.zeroValue106
 a23:=Tryz.isAgg80
 z23:=Tryz.sizeOf80 }
def Tryz.eClone_ren:Go.Shelf.Ren:=⟨fun|41=>289|n=>n,fun|22=>121|23=>9|4=>4|n=>n,fun|n=>n⟩
theorem Tryz.eClone:Go.Proofs.SlLaysE0.n41 Tryz.prog Tryz.eClone_ren:={
 mixed:=by kernel_rfl
 f41:=⟨Tryz.f289.name,by decide,Tryz.func289.trans (congrArg some (by kernel_rfl))⟩
 t4:=underlying4
 a4:=Tryz.isAgg4
 z4:=Tryz.sizeOf4
 v4:=Tryz.zeroValue4
 t22:=underlying121
 a22:=Tryz.isAgg121
 z22:=Tryz.sizeOf121
 v22:=Tryz.zeroValue121 }
def Tryz.eEqual_ren:Go.Shelf.Ren:=⟨fun|33=>202|n=>n,fun|22=>121|23=>9|4=>4|3=>3|0=>0|n=>n,fun|n=>n⟩
theorem Tryz.eEqual:Go.Proofs.SlLaysE.n33 Tryz.prog Tryz.eEqual_ren:={
 mixed:=by kernel_rfl
 f33:=⟨Tryz.f202.name,by decide,Tryz.func202.trans (congrArg some (by kernel_rfl))⟩
 t0:=underlying0
 a0:=Tryz.isAgg0
 z0:=Tryz.sizeOf0
 v0:=Tryz.zeroValue0
 t3:=underlying3
 a3:=Tryz.isAgg3
 z3:=Tryz.sizeOf3
 v3:=Tryz.zeroValue3
 t4:=underlying4
 a4:=Tryz.isAgg4
 z4:=Tryz.sizeOf4
 v4:=Tryz.zeroValue4
 t22:=underlying121
 a22:=Tryz.isAgg121
 z22:=Tryz.sizeOf121
 v22:=Tryz.zeroValue121
 a23:=Tryz.isAgg9
 z23:=Tryz.sizeOf9 }
end Go.Proofs

set_option maxHeartbeats 400000
namespace Go.Proofs.YtdpomdelmdofmaaGreatDoor
open Go.Proofs.Tryz
open Go.RowKit
theorem TC{w:World}{R:Nat}{t:ByteArray}{l:Sp.By}{tw:Bool}{dp fr:Int}(h:RD w R t l tw dp fr) :
  Calls Tryz.prog 179 #[.pointer (some ⟨R,0,none⟩)] w fun e w'=>e = .returned (.int .u8 (Sp.pk l)) /\ ∃n,w'=w.drewN n:=by
 obtain⟨p,ha,h⟩:=h;have c0:=h.c0;have c1:=h.c1;clear h;cases l with
 | cons c l =>
  have hlt:=ha.lt;have hne:((p:Int) == (t.size:Int))=false:=by simp;omega
  have hpk:Hid (Sp.pk (c::l)=t[p].toNat):=by rw[ha.byte];rfl
  clear ha
  go_enter func179,ntmps179
  go_wp2_with (fail)
  go_quiet (fail)
  go_wp2_with (fail)
  go_quiet (fail)
  go_wp2_with (fail);rw[hpk.out]
  go_ret;exact⟨rfl,_,Sl _ _ _⟩
 | nil =>
  have hp:=ha.nil;have hne:((p:Int) == (t.size:Int))=true:=by simp;omega
  clear ha hp
  go_enter func179,ntmps179
  go_wp2_with (fail)
  go_quiet (fail)
  go_wp2_with (fail)
  go_ret;exact⟨rfl,_,rfl⟩
theorem VD{w:World}{R:Nat}{t:ByteArray}{l:Sp.By}{tw:Bool}{dp fr:Int}(u:UInt8)(c:Int)(hc:c=u.toNat)(h:RD w R t l tw dp fr)(hk:Sp.tk l u=false) :
  Calls Tryz.prog 178 #[.pointer (some ⟨R,0,none⟩),.int .u8 c] w fun e w'=>e = .returned (.bool false) /\ ∃n,w'=w.drewN n:=by
 obtain⟨p,ha,h⟩:=h;have c0:=h.c0;have c1:=h.c1;clear h;cases l with
 | cons d l =>
  have hlt:=ha.lt;have hne:((p:Int) == (t.size:Int))=false:=by simp;omega
  have hne2:((t[p].toNat:Int) == c)=false:=by
   rw[ha.byte,hc];simp[Sp.tk] at hk |-;intro h;exact hk (UInt8.toNat_inj.1 (by exact_mod_cast h))
  have hne3:((t[p].toNat:Int) != c)=true:=by rw[bne,hne2];rfl
  clear hk ha hc
  go_enter func178,ntmps178
  go_wp2_with (fail)
  go_quiet (fail)
  go_wp2_with (fail)
  go_ret;exact⟨rfl,_,rfl⟩
 | nil =>
  have hp:=ha.nil;have hne:((p:Int) == (t.size:Int))=true:=by simp;omega
  clear hk ha hp hc
  go_enter func178,ntmps178
  go_wp2_with (fail)
  go_quiet (fail)
  go_wp2_with (fail)
  go_ret;exact⟨rfl,_,rfl⟩
theorem Am{w:World}{R:Nat}{t:ByteArray}{l:Sp.By}{tw:Bool}{dp fr:Int}(u:UInt8)(c:Int)(hc:c=u.toNat)(h:RD w R t l tw dp fr)(hk:Sp.tk l u=true) :
  Calls Tryz.prog 178 #[.pointer (some ⟨R,0,none⟩),.int .u8 c] w fun e w'=>e = .returned (.bool true)/\RD w' R t l.tail tw dp fr/\Ad R w w':=by
 obtain⟨p,ha,h⟩:=h;cases l with
 | nil=>simp[Sp.tk] at hk
 | cons d l =>
  have hlt:=ha.lt;have hne:((p:Int) == (t.size:Int))=false:=by simp;omega
  have hp9:(p:Int)<2000:=by have:=ha.small;omega
  have hne2:((t[p].toNat:Int) == c)=true:=by rw[ha.byte,hc];simp[Sp.tk] at hk |-; rw[hk]
  have hne3:((t[p].toNat:Int) != c)=false:=by rw[bne,hne2];rfl
  have HF:Hid (∀n,RD ((w.drewN n).setCell ⟨R,1,none⟩ (.int .i64 ((p+1:Nat):Int))) R t l tw dp fr):=Ab fun n=>⟨p+1,ha.next,(h.drewN n).set1 (p+1)⟩
  have HK:Hid (∀n v,Ad R w ((w.drewN n).setCell ⟨R,1,none⟩ v)):=Ab fun n v=>((Ad.refl R w).drewN n).setCell rfl v;have c0:=h.c0;have c1:=h.c1;have f1:=h.fz 1;clear hk h ha hc
  go_enter func178,ntmps178
  go_wp2_with (fail)
  go_quiet (fail)
  go_wp2_with (fail)
  go_ret;exact⟨rfl,Aa HF _,Aa HK _ _⟩
end Go.Proofs.YtdpomdelmdofmaaGreatDoor

set_option maxHeartbeats 400000
namespace Go.Proofs.YtdpomdelmdofmaaGreatDoor
open Go.Proofs.Tryz
open Go.RowKit
def CB(n:Nat):Bool:=decide (48<=n) && decide (n<=57)
theorem BN(n:Nat)(w:World)(hn:n<256) :
  Calls Tryz.prog 183 #[.int .u8 n] w fun e w'=>e = .returned (.bool (CB n))/\w'=w:=by
 have hd:Hid (CB n=(decide (48<=(n:Int)) && decide ((n:Int)<=57))):=by
  simp only[CB,Hid];rw[Bool.eq_iff_iff];simp;omega
 by_cases h1:48<=n
 ·have e1:decide ((48:Int)<=(n:Int))=true:=by simp;omega
  go_enter func183,ntmps183
  go_wp2_with (fail);rw[hd.out]
  go_ret;exact⟨by simp[e1],rfl⟩
 ·have e1:decide ((48:Int)<=(n:Int))=false:=by simp;omega
  go_enter func183,ntmps183
  go_wp2_with (fail);rw[hd.out]
  go_ret;exact⟨by simp[e1],rfl⟩
theorem EJ{w:World}{R:Nat}{t:ByteArray}{l:Sp.By}{tw:Bool}{dp fr:Int}(h:RD w R t l tw dp fr) :
  Calls Tryz.prog 179 #[.pointer (some ⟨R,0,none⟩)] w fun e w'=>e = .returned (.int .u8 (Sp.pk l))/\RD w' R t l tw dp fr/\Ad R w w' :=
 (TC h).mono fun _ _ ⟨he,n,hw⟩=>⟨he,hw▸h.drewN n,hw▸(Ad.refl R w).drewN n⟩
theorem AF{w:World}{R:Nat}{t:ByteArray}{l:Sp.By}{tw:Bool}{dp fr:Int}(u:UInt8)(c:Int)(hc:c=u.toNat)(h:RD w R t l tw dp fr)(hk:Sp.tk l u=false) :
  Calls Tryz.prog 178 #[.pointer (some ⟨R,0,none⟩),.int .u8 c] w fun e w'=>e = .returned (.bool false)/\RD w' R t l tw dp fr/\Ad R w w' :=
 (VD u c hc h hk).mono fun _ _ ⟨he,n,hw⟩=>⟨he,hw▸h.drewN n,hw▸(Ad.refl R w).drewN n⟩
theorem JO(l:Sp.By):Sp.pk l<256:=by
 cases l with
 | nil=>simp[Sp.pk]
 | cons c r=>simpa[Sp.pk] using c.toNat_lt
end Go.Proofs.YtdpomdelmdofmaaGreatDoor

set_option maxHeartbeats 1000000
namespace Go.Proofs.YtdpomdelmdofmaaGreatDoor
open Go.Proofs.Tryz
open Go.RowKit
theorem YH(n:Nat)(w:World)(h1:48<=n)(h2:n<=57) :
  Calls Tryz.prog 319 #[.int .u8 n] w fun e w'=>e = .returned (.tuple #[.int .i32 ((n:Int)-48),.bool true])/\w'=w:=by
 have hd:CB n=true:=by simp[CB,h1,h2]
 have HD:=Ab hd;clear hd
 go_enter func319,ntmps319
 go_wp2_with (fail);refine (BN n _ (by omega)).mono ?_
 rintro e w2 ⟨rfl,rfl⟩;rw[Aa HD]
 go_wp2_with (fail)
 go_ret2
 exact⟨rfl,rfl⟩
theorem YG(n:Nat)(w:World)(h1:97<=n)(h2:n<=102) :
  Calls Tryz.prog 319 #[.int .u8 n] w fun e w'=>e = .returned (.tuple #[.int .i32 ((n:Int)-97+10),.bool true])/\w'=w:=by
 have hd:CB n=false:=by simp[CB];omega
 have HD:=Ab hd;have e1:decide ((97:Int)<=(n:Int))=true:=by simp;omega
 have e2:decide ((n:Int)<=102)=true:=by simp;omega
 clear hd
 go_enter func319,ntmps319
 go_wp2_with (fail);refine (BN n _ (by omega)).mono ?_
 rintro e w2 ⟨rfl,rfl⟩;rw[Aa HD]
 go_wp2_with (fail)
 go_ret2
 exact⟨rfl,rfl⟩
theorem YF(n:Nat)(w:World)(h1:65<=n)(h2:n<=70) :
  Calls Tryz.prog 319 #[.int .u8 n] w fun e w'=>e = .returned (.tuple #[.int .i32 ((n:Int)-65+10),.bool true])/\w'=w:=by
 have hd:CB n=false:=by simp[CB];omega
 have HD:=Ab hd;have e1:decide ((97:Int)<=(n:Int))=false:=by simp;omega
 have e2:decide ((65:Int)<=(n:Int))=true:=by simp;omega
 have e3:decide ((n:Int)<=70)=true:=by simp;omega
 clear hd
 go_enter func319,ntmps319
 go_wp2_with (fail);refine (BN n _ (by omega)).mono ?_
 rintro e w2 ⟨rfl,rfl⟩;rw[Aa HD]
 go_wp2_with (fail)
 go_ret2
 exact⟨rfl,rfl⟩
theorem YE(n:Nat)(w:World)(h0:n<256)(h1:¬ (48<=n/\n<=57))(h2:¬ (97<=n/\n<=102))(h3:¬ (65<=n/\n<=70)) :
  Calls Tryz.prog 319 #[.int .u8 n] w fun e w'=>e = .returned (.tuple #[.int .i32 0,.bool false])/\w'=w:=by
 have hd:CB n=false:=by simp[CB];omega
 have HD:=Ab hd;have hc:(n<65)\/(70<n/\n<97)\/(102<n):=by omega
 clear hd h1 h2 h3;rcases hc with a|⟨a,b⟩|a
 ·have e1:decide ((97:Int)<=(n:Int))=false:=by simp;omega
  have e2:decide ((65:Int)<=(n:Int))=false:=by simp;omega
  go_enter func319,ntmps319
  go_wp2_with (fail);refine (BN n _ (by omega)).mono ?_
  rintro e w2 ⟨rfl,rfl⟩;rw[Aa HD]
  go_wp2_with (fail)
  go_ret2
  exact⟨rfl,rfl⟩
 ·have e1:decide ((97:Int)<=(n:Int))=false:=by simp;omega
  have e2:decide ((65:Int)<=(n:Int))=true:=by simp;omega
  have e3:decide ((n:Int)<=70)=false:=by simp;omega
  go_enter func319,ntmps319
  go_wp2_with (fail);refine (BN n _ (by omega)).mono ?_
  rintro e w2 ⟨rfl,rfl⟩;rw[Aa HD]
  go_wp2_with (fail)
  go_ret2
  exact⟨rfl,rfl⟩
 ·have e1:decide ((97:Int)<=(n:Int))=true:=by simp;omega
  have e2:decide ((n:Int)<=102)=false:=by simp;omega
  have e3:decide ((65:Int)<=(n:Int))=true:=by simp;omega
  have e4:decide ((n:Int)<=70)=false:=by simp;omega
  go_enter func319,ntmps319
  go_wp2_with (fail);refine (BN n _ (by omega)).mono ?_
  rintro e w2 ⟨rfl,rfl⟩;rw[Aa HD]
  go_wp2_with (fail)
  go_ret2
  exact⟨rfl,rfl⟩
theorem Um(n d:Nat)(w:World)(h:Sp.Eg n=some d) :
  Calls Tryz.prog 319 #[.int .u8 n] w fun e w'=>e = .returned (.tuple #[.int .i32 d,.bool true])/\w'=w:=by
 unfold Sp.Eg at h;split at h
 ·rename_i a;injection h with h;subst h;exact (YH n w a.1 a.2).mono fun e w' he=>⟨by rw[he.1,Int.ofNat_sub a.1];rfl,he.2⟩
 ·split at h
  ·rename_i a;injection h with h;subst h;exact (YG n w a.1 a.2).mono fun e w' he=>⟨by rw[he.1,Int.natCast_add,Int.ofNat_sub a.1];rfl,he.2⟩
  ·split at h
   ·rename_i a;injection h with h;subst h;exact (YF n w a.1 a.2).mono fun e w' he=>⟨by rw[he.1,Int.natCast_add,Int.ofNat_sub a.1];rfl,he.2⟩
   ·cases h
theorem Un(n:Nat)(w:World)(h0:n<256)(h:Sp.Eg n=none) :
  Calls Tryz.prog 319 #[.int .u8 n] w fun e w'=>e = .returned (.tuple #[.int .i32 0,.bool false])/\w'=w:=by
 unfold Sp.Eg at h;split at h
 ·cases h
 ·split at h
  ·cases h
  ·split at h
   ·cases h
   ·rename_i a b c;exact YE n w h0 a b c
theorem O3{n d:Nat}(h:Sp.Eg n=some d):d<16:=by
 unfold Sp.Eg at h;split at h
 ·injection h with h;omega
 ·split at h
  ·injection h with h;omega
  ·split at h
   ·injection h with h;omega
   ·cases h
end Go.Proofs.YtdpomdelmdofmaaGreatDoor

namespace Go.Proofs.YtdpomdelmdofmaaGreatDoor
open Go.Proofs.Tryz
open Go.RowKit
theorem KC(n:Nat)(h:n<2147483648):IntKind.i32.wrap (n:Int)=(n:Int):=by
 simp only[IntKind.wrap,IntKind.bits,IntKind.signed];simp;omega
theorem MS(a:Nat)(ha:a<4294967296):(BitVec.ofInt 32 (a:Int)).toNat=a:=by
 rw[BitVec.ofInt_natCast,BitVec.toNat_ofNat];exact Nat.mod_eq_of_lt (by omega)
theorem P6(a b:Nat)(ha:a<2147483648)(hb:b<2147483648):bits .or .i32 (a:Int) (b:Int)=((a ||| b:Nat):Int):=by
 have hor:a ||| b<2147483648:=Nat.or_lt_two_pow (n:=31) ha hb;show IntKind.i32.wrap ((BitVec.ofInt 32 (a:Int) ||| BitVec.ofInt 32 (b:Int)).toNat:Int)=_;rw[BitVec.toNat_or,MS a (by omega),MS b (by omega)];exact KC _ hor
theorem XD(m d:Nat)(hm:m<65536)(hd:d<16):bits .or .i32 (wrap32 ((m:Int)*16)) (d:Int)=((m*16+d:Nat):Int):=by
 have e:wrap32 ((m:Int)*16)=((m*16:Nat):Int):=by unfold wrap32;omega
 rw[e,P6 _ _ (by omega) (by omega)];have:=Nat.shiftLeft_add_eq_or_of_lt (i:=4) (b:=d) (by omega) m;rw[Nat.shiftLeft_eq] at this;rw[show m*16=m*2 ^ 4 from rfl,this]
end Go.Proofs.YtdpomdelmdofmaaGreatDoor

set_option maxHeartbeats 1000000
namespace Go.Proofs.YtdpomdelmdofmaaGreatDoor
open Go.Proofs.Tryz
open Go.RowKit
theorem Gi{w:World}{R:Nat}{t:ByteArray}{l:Sp.By}{tw:Bool}{dp fr:Int}(h:RD w R t l tw dp fr) :
  Calls Tryz.prog 312 #[.pointer (some ⟨R,0,none⟩)] w fun e w'=>Ad R w w' /\ ∃l',RD w' R t l' tw dp fr /\
   ((∃n,Sp.Cp 4 0 l=some (n,l')/\e = .returned (.tuple #[.int .i32 n,.bool true]))\/(Sp.Cp 4 0 l=none/\e = .returned (.tuple #[.int .i32 0,.bool false]))):=by
 go_enter func312,ntmps312
 go_wp2_with (fail)
 go_loopw [4,7] (fun n i wr=>∃ (k m:Nat) (l':Sp.By),k<=4/\i = .int .i64 k/\n = .int .i32 m/\m<16 ^ k/\RD wr R t l' tw dp fr/\Sp.Cp 4 0 l=Sp.Cp (4-k) m l'/\Ad R w wr) (fun _ i _=>4-(intOf i).toNat)
 case atStart=>exact⟨0,0,l,by omega,rfl,rfl,by omega,h,rfl,Ad.refl R w⟩
 case round =>
  obtain⟨k,m,l',hk4,rfl,rfl,hm,hr,he,hk⟩:=hrel;have HE:=Ab he;clear he h;by_cases hlt:k<4
  ·have h5:∃j,4-k=j+1:=⟨3-k,by omega⟩
   cases hd:Sp.Eg (Sp.pk l') with
   | none =>
    have HD:=Ab hd;clear hd
    go_wp2_with (fail);refine (EJ hr).mono ?_
    rintro e w1 ⟨rfl,hr1,hk1⟩
    go_wp2_with (fail);refine (Un _ _ (JO l') (Aa HD)).mono ?_
    rintro e w2 ⟨rfl,rfl⟩
    go_wp2_with (fail)
    go_ret2
    refine⟨hk.trans hk1,l',hr1,Or.inr ⟨?_,rfl⟩⟩;obtain⟨j,hj⟩:=h5;rw[Aa HE,hj,Sp.Cp,Aa HD]
   | some d =>
    have HD:=Ab hd;have hdl:=O3 hd;clear hd
    go_wp2_with (fail);refine (EJ hr).mono ?_
    rintro e w1 ⟨rfl,hr1,hk1⟩
    go_wp2_with (fail);refine (Um _ d _ (Aa HD)).mono ?_
    rintro e w2 ⟨rfl,rfl⟩;obtain⟨q,ha,hq⟩:=hr1;have c1:=hq.c1;have f1:=hq.fz 1;have hs:=ha.small;have hq9:=ha.le;have HQ:=Ab hq;have HA1:=Ab ha;clear hq ha hr
    go_wp2_with (fail)
    go_roundw
    case rel =>
     obtain⟨j,hj⟩:=h5;have hp3:(16:Nat) ^ k<=16 ^ 3:=Nat.pow_le_pow_right (by omega) (by omega);have hone:1<=l'.length:=by
      have:=Aa HD;cases l' with
      | nil=>simp[Sp.pk,Sp.Eg] at this
      | cons c r=>simp
     refine⟨k+1,m*16+d,l'.tail,by omega,by go_num,by rw[XD m d (by omega) hdl],by rw[Nat.pow_succ];omega,⟨q+1,by simpa using (Aa HA1).add 1 hone,(Aa HQ).set1 (q+1)⟩,?_,(hk.trans hk1).setCell rfl _⟩;rw[Aa HE,hj,Sp.Cp,Aa HD,show 4-(k+1)=j by omega]
    case measure=>simp[intOf];omega
  ·go_wp2_with (fail)
   go_ret2
   refine⟨hk,l',hr,Or.inl ⟨m,?_,rfl⟩⟩;rw[Aa HE,show 4-k=0 by omega,Sp.Cp]
end Go.Proofs.YtdpomdelmdofmaaGreatDoor
