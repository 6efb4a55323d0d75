import Derived.Shelf.SlicesE.Delete
import Derived.Shelf.SlicesE.Clone
import Derived.Shelf.SlicesE.Equal
import Derived.Test.YtdpomdelmdofmaaGreatDoorRea01
open Go.Proofs.Tryz renaming prog->AI
open Go renaming Calls->AS,World->A1
open Go.Shelf renaming Ren->AT
open BitVec renaming ofInt->A2
namespace Go.Proofs
open Go.Shelf
def Tryz.eDelete_ren:AT:=⟨fun|45=>290|n=>n,fun|22=>106|23=>80|3=>3|4=>4|0=>0|n=>n,fun|n=>n⟩
theorem Tryz.eDelete:Go.Proofs.SlLaysE.n45 AI Tryz.eDelete_ren:={
 mixed:=by kernel_rfl
 f45:=⟨Tryz.f290.name,by decide,Tryz.func290.trans (congrArg some (by kernel_rfl))⟩
 t0:=underlying0
 a0:=Tryz.isAgg0
 z0:=Tryz.sizeOf0
 v0:=Tryz.zeroValue0
 t3:=underlying3
 a3:=Tryz.isAgg3
 z3:=Tryz.sizeOf3
 v3:=Tryz.zeroValue3
 t4:=underlying4
 a4:=Tryz.isAgg4
 z4:=Tryz.sizeOf4
 v4:=Tryz.zeroValue4
 t22:=underlying106
 a22:=Tryz.isAgg106
 z22:=Tryz.sizeOf106
 v22:=Tryz.zeroValue106
 a23:=Tryz.isAgg80
 z23:=Tryz.sizeOf80 }
def Tryz.eClone_ren:AT:=⟨fun|41=>289|n=>n,fun|22=>121|23=>9|4=>4|n=>n,fun|n=>n⟩
theorem Tryz.eClone:Go.Proofs.SlLaysE0.n41 AI Tryz.eClone_ren:={
 mixed:=by kernel_rfl
 f41:=⟨Tryz.f289.name,by decide,Tryz.func289.trans (congrArg some (by kernel_rfl))⟩
 t4:=underlying4
 a4:=Tryz.isAgg4
 z4:=Tryz.sizeOf4
 v4:=Tryz.zeroValue4
 t22:=underlying121
 a22:=Tryz.isAgg121
 z22:=Tryz.sizeOf121
 v22:=Tryz.zeroValue121 }
def Tryz.eEqual_ren:AT:=⟨fun|33=>202|n=>n,fun|22=>121|23=>9|4=>4|3=>3|0=>0|n=>n,fun|n=>n⟩
theorem Tryz.eEqual:Go.Proofs.SlLaysE.n33 AI Tryz.eEqual_ren:={
 mixed:=by kernel_rfl
 f33:=⟨Tryz.f202.name,by decide,Tryz.func202.trans (congrArg some (by kernel_rfl))⟩
 t0:=underlying0
 a0:=Tryz.isAgg0
 z0:=Tryz.sizeOf0
 v0:=Tryz.zeroValue0
 t3:=underlying3
 a3:=Tryz.isAgg3
 z3:=Tryz.sizeOf3
 v3:=Tryz.zeroValue3
 t4:=underlying4
 a4:=Tryz.isAgg4
 z4:=Tryz.sizeOf4
 v4:=Tryz.zeroValue4
 t22:=underlying121
 a22:=Tryz.isAgg121
 z22:=Tryz.sizeOf121
 v22:=Tryz.zeroValue121
 a23:=Tryz.isAgg9
 z23:=Tryz.sizeOf9 }
end Go.Proofs

set_option maxHeartbeats 400000
namespace Go.Proofs.YtdpomdelmdofmaaGreatDoor
open Go.Proofs.Tryz
open Go.RowKit
variable{w:A1}{R:Nat}{t:ByteArray}{l:By}{tw:Bool}{dp fr:Int}
theorem V1(h:RD w R t l tw dp fr):
  AS AI 179 #[.pointer (some ⟨R,0,none⟩)] w fun e w'=>e=.returned (.int .u8 (eS l)) /\ ∃n,w'=w.drewN n:=by
 obtain⟨p,ha,h⟩:=h;have c0:=h.c0;have c1:=h.c1;clear h;cases l with
 | cons c l=>
  have hlt:=ha.lt;have hne:((p:Int)==(t.size:Int))=false:=by simp;omega
  have hpk:Hid (eS (c::l)=t[p].toNat):=by rw[ha.byte];rfl
  clear ha
  go_enter func179,ntmps179
  go_wp2_with (fail)
  go_quiet (fail)
  go_wp2_with (fail)
  go_quiet (fail)
  go_wp2_with (fail);rw[hpk.out]
  go_ret;exact⟨rfl,_,UP _ _ _⟩
 | nil=>
  have hp:=ha.nil;have hne:((p:Int)==(t.size:Int))=true:=by simp;omega
  clear ha hp
  go_enter func179,ntmps179
  go_wp2_with (fail)
  go_quiet (fail)
  go_wp2_with (fail)
  go_ret;exact⟨rfl,_,rfl⟩
theorem Ya(u:UInt8)(c:Int)(hc:c=u.toNat)(h:RD w R t l tw dp fr)(hk:eA l u=false):
  AS AI 178 #[.pointer (some ⟨R,0,none⟩),.int .u8 c] w fun e w'=>e=.returned (.bool false) /\ ∃n,w'=w.drewN n:=by
 obtain⟨p,ha,h⟩:=h;have c0:=h.c0;have c1:=h.c1;clear h;cases l with
 | cons d l=>
  have hlt:=ha.lt;have hne:((p:Int)==(t.size:Int))=false:=by simp;omega
  have q0:((t[p].toNat:Int)==c)=false:=by
   rw[ha.byte,hc];simp[eA] at hk |-;intro h;exact hk (UInt8.toNat_inj.1 (by omega))
  have q4:((t[p].toNat:Int) != c)=true:=by grind
  clear hk ha hc
  go_enter func178,ntmps178
  go_wp2_with (fail)
  go_quiet (fail)
  go_wp2_with (fail)
  go_ret;exact⟨rfl,_,rfl⟩
 | nil=>
  have hp:=ha.nil;have hne:((p:Int)==(t.size:Int))=true:=by simp;omega
  clear hk ha hp hc
  go_enter func178,ntmps178
  go_wp2_with (fail)
  go_quiet (fail)
  go_wp2_with (fail)
  go_ret;exact⟨rfl,_,rfl⟩
theorem AG(u:UInt8)(c:Int)(hc:c=u.toNat)(h:RD w R t l tw dp fr)(hk:eA l u=true):
  AS AI 178 #[.pointer (some ⟨R,0,none⟩),.int .u8 c] w fun e w'=>e=.returned (.bool true)/\RD w' R t l.tail tw dp fr/\Ae R w w':=by
 obtain⟨p,ha,h⟩:=h;cases l with
 | nil=>simp[eA] at hk
 | cons d l=>
  have hlt:=ha.lt;have hne:((p:Int)==(t.size:Int))=false:=by simp;omega
  have q5:(p:Int)<2000:=by have:=ha.small;omega
  have q0:((t[p].toNat:Int)==c)=true:=by grind [eA,ha.byte,bne]
  have q4:((t[p].toNat:Int) != c)=false:=by grind
  have HF:Hid (∀n,RD ((w.drewN n).setCell ⟨R,1,none⟩ (.int .i64 ((p+1:Nat):Int))) R t l tw dp fr):=Ab fun n=>⟨p+1,ha.next,(h.drewN n).set1 (p+1)⟩
  have HK:Hid (∀n v,Ae R w ((w.drewN n).setCell ⟨R,1,none⟩ v)):=Ab fun n v=>((Ae.refl R w).drewN n).setCell rfl v;have c0:=h.c0;have c1:=h.c1;have f1:=h.fz 1;clear hk h ha hc
  go_enter func178,ntmps178
  go_wp2_with (fail)
  go_quiet (fail)
  go_wp2_with (fail)
  go_ret;exact⟨rfl,Aa HF _,Aa HK _ _⟩
end Go.Proofs.YtdpomdelmdofmaaGreatDoor

set_option maxHeartbeats 400000
namespace Go.Proofs.YtdpomdelmdofmaaGreatDoor
open Go.Proofs.Tryz
open Go.RowKit
def CF(n:Nat):Bool:=decide (48<=n) && decide (n<=57)
theorem BL(n:Nat)(w:A1)(hn:n<256):
  AS AI 183 #[.int .u8 n] w fun e w'=>e=.returned (.bool (CF n))/\w'=w:=by
 have hd:Hid (CF n=(decide (48<=(n:Int)) && decide ((n:Int)<=57))):=by
  simp only[CF,Hid];rw[Bool.eq_iff_iff];simp;omega
 by_cases h1:48<=n
 ·have e1:decide ((48:Int)<=(n:Int))=true:=by simp;omega
  go_enter func183,ntmps183
  go_wp2_with (fail);rw[hd.out]
  go_ret
  simp_all
 ·have e1:decide ((48:Int)<=(n:Int))=false:=by simp;omega
  go_enter func183,ntmps183
  go_wp2_with (fail);rw[hd.out]
  go_ret;exact⟨by simp[e1],rfl⟩
theorem Ku{w:A1}{R:Nat}{t:ByteArray}{l:By}{tw:Bool}{dp fr:Int}(h:RD w R t l tw dp fr):
  AS AI 179 #[.pointer (some ⟨R,0,none⟩)] w fun e w'=>e=.returned (.int .u8 (eS l))/\RD w' R t l tw dp fr/\Ae R w w':=
 (V1 h).mono fun _ _ ⟨he,n,hw⟩=>⟨he,hw▸h.drewN n,hw▸(Ae.refl R w).drewN n⟩
theorem Bk{w:A1}{R:Nat}{t:ByteArray}{l:By}{tw:Bool}{dp fr:Int}(u:UInt8)(c:Int)(hc:c=u.toNat)(h:RD w R t l tw dp fr)(hk:eA l u=false):
  AS AI 178 #[.pointer (some ⟨R,0,none⟩),.int .u8 c] w fun e w'=>e=.returned (.bool false)/\RD w' R t l tw dp fr/\Ae R w w':=
 (Ya u c hc h hk).mono fun _ _ ⟨he,n,hw⟩=>⟨he,hw▸h.drewN n,hw▸(Ae.refl R w).drewN n⟩
theorem Kt(l:By):eS l<256:=by
 cases l with
 | nil=>simp[eS]
 | cons c r=>simpa[eS] using c.toNat_lt
end Go.Proofs.YtdpomdelmdofmaaGreatDoor

set_option maxHeartbeats 1000000
namespace Go.Proofs.YtdpomdelmdofmaaGreatDoor
open Go.Proofs.Tryz
open Go.RowKit
theorem cC(n:Nat)(w:A1)(h1:48<=n)(h2:n<=57):
  AS AI 319 #[.int .u8 n] w fun e w'=>e=.returned (.tuple #[.int .i32 ((n:Int)-48),.bool true])/\w'=w:=by
 have hd:CF n=true:=by grind [CF]
 have HD:=Ab hd;clear hd
 go_enter func319,ntmps319
 go_wp2_with (fail);refine (BL n _ (by omega)).mono ?_
 rintro e w2 ⟨rfl,rfl⟩;rw[Aa HD]
 go_wp2_with (fail)
 go_ret2
 simp_all
theorem cB(n:Nat)(w:A1)(h1:97<=n)(h2:n<=102):
  AS AI 319 #[.int .u8 n] w fun e w'=>e=.returned (.tuple #[.int .i32 ((n:Int)-97+10),.bool true])/\w'=w:=by
 have hd:CF n=false:=by grind [CF]
 have HD:=Ab hd;have e1:decide ((97:Int)<=(n:Int))=true:=by simp;omega
 have e2:decide ((n:Int)<=102)=true:=by simp;omega
 clear hd
 go_enter func319,ntmps319
 go_wp2_with (fail);refine (BL n _ (by omega)).mono ?_
 rintro e w2 ⟨rfl,rfl⟩;rw[Aa HD]
 go_wp2_with (fail)
 go_ret2
 simp_all
theorem cA(n:Nat)(w:A1)(h1:65<=n)(h2:n<=70):
  AS AI 319 #[.int .u8 n] w fun e w'=>e=.returned (.tuple #[.int .i32 ((n:Int)-65+10),.bool true])/\w'=w:=by
 have hd:CF n=false:=by grind [CF]
 have HD:=Ab hd;have e1:decide ((97:Int)<=(n:Int))=false:=by simp;omega
 have e2:decide ((65:Int)<=(n:Int))=true:=by simp;omega
 have e3:decide ((n:Int)<=70)=true:=by simp;omega
 clear hd
 go_enter func319,ntmps319
 go_wp2_with (fail);refine (BL n _ (by omega)).mono ?_
 rintro e w2 ⟨rfl,rfl⟩;rw[Aa HD]
 go_wp2_with (fail)
 go_ret2
 simp_all
theorem bZ(n:Nat)(w:A1)(h0:n<256)(h1:¬ (48<=n/\n<=57))(h2:¬ (97<=n/\n<=102))(h3:¬ (65<=n/\n<=70)):
  AS AI 319 #[.int .u8 n] w fun e w'=>e=.returned (.tuple #[.int .i32 0,.bool false])/\w'=w:=by
 have hd:CF n=false:=by grind [CF]
 have HD:=Ab hd;have hc:(n<65)\/(70<n/\n<97)\/(102<n):=by omega
 clear hd h1 h2 h3;rcases hc with a|⟨a,b⟩|a
 ·have e1:decide ((97:Int)<=(n:Int))=false:=by simp;omega
  have e2:decide ((65:Int)<=(n:Int))=false:=by simp;omega
  go_enter func319,ntmps319
  go_wp2_with (fail);refine (BL n _ (by omega)).mono ?_
  rintro e w2 ⟨rfl,rfl⟩;rw[Aa HD]
  go_wp2_with (fail)
  go_ret2
  simp_all
 ·have e1:decide ((97:Int)<=(n:Int))=false:=by simp;omega
  have e2:decide ((65:Int)<=(n:Int))=true:=by simp;omega
  have e3:decide ((n:Int)<=70)=false:=by simp;omega
  go_enter func319,ntmps319
  go_wp2_with (fail);refine (BL n _ (by omega)).mono ?_
  rintro e w2 ⟨rfl,rfl⟩;rw[Aa HD]
  go_wp2_with (fail)
  go_ret2
  simp_all
 ·have e1:decide ((97:Int)<=(n:Int))=true:=by simp;omega
  have e2:decide ((n:Int)<=102)=false:=by simp;omega
  have e3:decide ((65:Int)<=(n:Int))=true:=by simp;omega
  have e4:decide ((n:Int)<=70)=false:=by simp;omega
  go_enter func319,ntmps319
  go_wp2_with (fail);refine (BL n _ (by omega)).mono ?_
  rintro e w2 ⟨rfl,rfl⟩;rw[Aa HD]
  go_wp2_with (fail)
  go_ret2
  simp_all
theorem WK(n d:Nat)(w:A1)(h:Eu n=some d):
  AS AI 319 #[.int .u8 n] w fun e w'=>e=.returned (.tuple #[.int .i32 d,.bool true])/\w'=w:=by
 unfold Eu at h;split at h
 ·rename_i a;injection h with h;subst h;exact (cC n w a.1 a.2).mono (by grind)
 ·split at h
  ·rename_i a;injection h with h;subst h;exact (cB n w a.1 a.2).mono (by grind)
  ·split at h
   ·rename_i a;injection h with h;subst h;exact (cA n w a.1 a.2).mono (by grind)
   ·cases h
theorem WL(n:Nat)(w:A1)(h0:n<256)(h:Eu n=none):
  AS AI 319 #[.int .u8 n] w fun e w'=>e=.returned (.tuple #[.int .i32 0,.bool false])/\w'=w:=by
 unfold Eu at h;split at h
 ·cases h
 ·split at h
  ·cases h
  ·split at h
   ·cases h
   ·rename_i a b c;exact bZ n w h0 a b c
theorem QM{n d:Nat}(h:Eu n=some d):d<16:=by
 grind [Eu]
end Go.Proofs.YtdpomdelmdofmaaGreatDoor

namespace Go.Proofs.YtdpomdelmdofmaaGreatDoor
open Go.Proofs.Tryz
open Go.RowKit
theorem LH(n:Nat)(h:n<2147483648):IntKind.i32.wrap (n:Int)=(n:Int):=by
 grind [IntKind.wrap,IntKind.bits,IntKind.signed]
theorem Oj(a:Nat)(ha:a<4294967296):(A2 32 (a:Int)).toNat=a:=by
 grind
theorem RY(a b:Nat)(ha:a<2147483648)(hb:b<2147483648):bits .or .i32 (a:Int) (b:Int)=((a ||| b:Nat):Int):=by
 have q0:a ||| b<2147483648:=Nat.or_lt_two_pow (n:=31) ha hb;show IntKind.i32.wrap ((A2 32 (a:Int) ||| A2 32 (b:Int)).toNat:Int)=_;rw[BitVec.toNat_or,Oj a (by omega),Oj b (by omega)];exact LH _ q0
theorem Z5(m d:Nat)(hm:m<65536)(hd:d<16):bits .or .i32 (wrap32 ((m:Int)*16)) (d:Int)=((m*16+d:Nat):Int):=by
 have e:wrap32 ((m:Int)*16)=((m*16:Nat):Int):=by unfold wrap32;omega
 rw[e,RY _ _ (by omega) (by omega)];have:=Nat.shiftLeft_add_eq_or_of_lt (i:=4) (b:=d) (by omega) m
 grind [Nat.shiftLeft_eq,wrap32]
end Go.Proofs.YtdpomdelmdofmaaGreatDoor
