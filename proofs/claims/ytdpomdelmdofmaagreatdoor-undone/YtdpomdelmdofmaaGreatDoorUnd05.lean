import Derived.Test.YtdpomdelmdofmaaGreatDoorUnd04
import Derived.Laws.RangeAny
import Derived.BigRegion
import GoSem.ClaimMapViews
import Derived.Maps.Views
set_option maxHeartbeats 1000000
namespace Go.Proofs.YtdpomdelmdofmaaGreatDoor
open Go.Proofs.Tryz
open Go.RowKit
theorem O1(c:UInt8):Sp.isD c=CB c.toNat:=rfl
theorem X1{l:Sp.By}(h:CB (Sp.pk l)=true):l.take 1++Sp.dg l.tail=Sp.dg l/\Sp.dgR l.tail=Sp.dgR l/\1<=l.length:=by
 cases l with
 | nil=>simp[Sp.pk,CB] at h
 | cons d r =>
  have:Sp.isD d=true:=by rw[O1];exact h
  simp[Sp.dg,Sp.dgR,this]
theorem YN{l:Sp.By}(h:CB (Sp.pk l)=false):Sp.dg l=[]/\Sp.dgR l=l:=by
 cases l with
 | nil=>simp[Sp.dg,Sp.dgR]
 | cons d r =>
  have:Sp.isD d=false:=by rw[O1];exact h
  simp[Sp.dg,Sp.dgR,this]
theorem AC{w:World}{R:Nat}{t:ByteArray}{l:Sp.By}{tw:Bool}{dp fr:Int}(h:RD w R t l tw dp fr) :
  Calls Tryz.prog 222 #[.pointer (some ⟨R,0,none⟩)] w fun e w'=>e = .returned (.string ⟨(Sp.dg l).toArray⟩)/\RD w' R t (Sp.dgR l) tw dp fr/\Ad R w w':=by
 obtain⟨p,ha,hp⟩:=h;have c0:=hp.c0;have c1:=hp.c1;have HP:=Ab hp;have HA:=Ab ha;clear hp ha
 go_enter func222,ntmps222
 go_wp2_with (fail);clear c0 c1
 go_loopw [8] (fun _ wr=>∃l' k,RD wr R t l' tw dp fr/\k<=l.length/\l'=l.drop k/\l.take k++Sp.dg l'=Sp.dg l/\Sp.dgR l'=Sp.dgR l/\Ad R w wr) (fun _ wr=>left wr R)
 case atStart=>exact⟨l,0,⟨p,Aa HA,Aa HP⟩,Nat.zero_le _,rfl,rfl,rfl,Ad.refl R w⟩
 case round =>
  obtain⟨l',k,hr,hkl,hl',he1,he2,hk⟩:=hrel;have H1:=Ab hl';have H2:=Ab he1;have H3:=Ab he2;have HL:=Ab hr.left;clear hl' he1 he2;by_cases hd:CB (Sp.pk l')=true
  ·have HD:=Ab hd;clear hd
   go_wp2_with (fail);refine (EJ hr).mono ?_
   rintro e w1 ⟨rfl,hr1,hk1⟩
   go_wp2_with (fail);refine (BN _ _ (JO l')).mono ?_
   rintro e w2 ⟨rfl,rfl⟩;rw[Aa HD];obtain⟨q,ha,hq⟩:=hr1;have c1:=hq.c1;have f1:=hq.fz 1;have hs:=ha.small;have hq9:=ha.le;have HQ:=Ab hq;have HA1:=Ab ha;clear hq ha hr
   go_wp2_with (fail);have hy:=X1 (Aa HD)
   have hn:RD (w2.setCell ⟨R,1,none⟩ (.int .i64 ((q:Int)+1))) R t l'.tail tw dp fr:=⟨q+1,by simpa using (Aa HA1).add 1 hy.2.2,(Aa HQ).set1 (q+1)⟩
   go_roundw
   case rel=>exact⟨l'.tail,k+1,hn,by have:=hy.2.2;rw[Aa H1] at this;simp at this;omega,by rw[Aa H1];simp,by rw[<- Aa H2,<- hy.1,Aa H1,<- List.append_assoc,<- List.take_add],by rw[<- Aa H3];exact hy.2.1,(hk.trans hk1).setCell rfl _⟩
   case measure =>
    have h1:=hy.2.2;rw[Aa HL,hn.left];simp;omega
  ·have HD:=Ab (show CB (Sp.pk l')=false by simpa using hd);clear hd
   go_wp2_with (fail);refine (EJ hr).mono ?_
   rintro e w1 ⟨rfl,hr1,hk1⟩
   go_wp2_with (fail);refine (BN _ _ (JO l')).mono ?_
   rintro e w2 ⟨rfl,rfl⟩;rw[Aa HD];obtain⟨q,ha,hq⟩:=hr1;have c0:=hq.c0;have c1:=hq.c1;have b1:(p:Int)<=(q:Int):=by have:=ha.len;have:=(Aa HA).len;have:=(Aa HA).le;have:=ha.le;have e:=congrArg List.length (Aa H1);simp at e;omega
   have b2:(q:Int)<=(t.size:Int):=by have:=ha.le;omega
   have HQ:=Ab hq;have HA1:=Ab ha;clear hq ha hr
   go_wp2_with (fail)
   go_quiet (fail)
   go_wp2_with (fail);have hz:=YN (Aa HD)
   have hx:t.extract p q=⟨(Sp.dg l).toArray⟩:=by
    have e1:=Lib.extract_data t p q;rw[(Aa HA).eq] at e1;have e2:=congrArg List.length (Aa H1);have e3:=(Aa HA1).len;have e4:=(Aa HA).len;have e5:=(Aa HA).le;have e6:=(Aa HA1).le;simp at e2;have e7:q-p=k:=by omega
    have e8:=Aa H2;rw[hz.1,List.append_nil] at e8;rw[e7,e8] at e1;have:(t.extract p q).data=(Sp.dg l).toArray:=by rw[<- e1]
    exact congrArg ByteArray.mk this
   rw[hx]
   go_ret;refine⟨rfl,?_,(hk.trans hk1).drewN _⟩
   rw[<- Aa H3,hz.2];exact⟨q,Aa HA1,(Aa HQ).drewN _⟩
end Go.Proofs.YtdpomdelmdofmaaGreatDoor

set_option maxHeartbeats 1000000
namespace Go.Proofs.YtdpomdelmdofmaaGreatDoor
open Go.Proofs.Tryz
open Go.RowKit
theorem Si{l:Sp.By}(h:l=[]):l.isEmpty=true:=by subst h;rfl
theorem Nt{l:Sp.By}(h:¬ l=[]):l.isEmpty=false:=by simpa using h
def Wy(o:Option (Sp.By×Sp.By))(e:Ending)(w':World)(R:Nat)(t:ByteArray)(tw:Bool)(dp fr:Int):Prop :=
 (∃s l',o=some (s,l')/\e = .returned (.tuple #[.string ⟨s.toArray⟩,.bool true])/\RD w' R t l' tw dp fr) \/
  (o=none /\ ∃s l',e = .returned (.tuple #[.string s,.bool false])/\RD w' R t l' tw dp fr)
theorem Bd{w:World}{R:Nat}{t:ByteArray}{l:Sp.By}{tw:Bool}{dp fr:Int}(h:RD w R t l tw dp fr) :
  Calls Tryz.prog 223 #[.pointer (some ⟨R,0,none⟩)] w fun e w'=>Ad R w w'/\Wy (Sp.BJ l) e w' R t tw dp fr:=by
 by_cases k1:Sp.tk l 46=true
 ·have K1:=Ab k1;by_cases hd:Sp.dg l.tail=[]
  ·have hE:Hid (Sp.BJ l=none):=by unfold Hid Sp.BJ;rw[if_pos k1,if_pos hd]
   have he:=Si hd;clear k1 hd
   go_enter func223,ntmps223
   go_wp2_with (fail);refine (Am 46 _ rfl h (Aa K1)).mono ?_
   rintro e w1 ⟨rfl,hr1,hk1⟩
   go_wp2_with (fail);refine (AC hr1).mono ?_
   rintro e w2 ⟨rfl,hr2,hk2⟩
   go_wp2_with (fail)
   go_ret2
   exact⟨hk1.trans hk2,Or.inr ⟨Aa hE,_,_,rfl,hr2⟩⟩
  ·have hE:Hid (Sp.BJ l=some (Sp.dg l.tail,Sp.dgR l.tail)):=by unfold Hid Sp.BJ;rw[if_pos k1,if_neg hd]
   have he:=Nt hd;clear k1 hd
   go_enter func223,ntmps223
   go_wp2_with (fail);refine (Am 46 _ rfl h (Aa K1)).mono ?_
   rintro e w1 ⟨rfl,hr1,hk1⟩
   go_wp2_with (fail);refine (AC hr1).mono ?_
   rintro e w2 ⟨rfl,hr2,hk2⟩
   go_wp2_with (fail)
   go_ret2
   exact⟨hk1.trans hk2,Or.inl ⟨_,_,Aa hE,rfl,hr2⟩⟩
 ·have hE:Hid (Sp.BJ l=some ([],l)):=by unfold Hid Sp.BJ;rw[if_neg k1]
  have K1:=Ab (Ak k1);clear k1
  go_enter func223,ntmps223
  go_wp2_with (fail);refine (AF 46 _ rfl h (Aa K1)).mono ?_
  rintro e w1 ⟨rfl,hr1,hk1⟩
  go_wp2_with (fail)
  go_ret2
  exact⟨hk1,Or.inl ⟨[],l,Aa hE,rfl,hr1⟩⟩
theorem FA(l:Sp.By):∀c∈Sp.dg l,48<=c.toNat/\c.toNat<=57:=by
 induction l with
 | nil=>intro c hc;simp[Sp.dg] at hc
 | cons d r ih =>
  intro c hc;unfold Sp.dg at hc;by_cases hd:Sp.isD d=true
  ·rw[if_pos hd] at hc;rcases List.mem_cons.1 hc with rfl|hc
   ·simpa[Sp.isD] using hd
   ·exact ih c hc
  ·rw[if_neg hd] at hc;cases hc
theorem BM(l:Sp.By):(Sp.dg l).length+(Sp.dgR l).length=l.length:=by
 induction l with
 | nil=>rfl
 | cons d r ih =>
  unfold Sp.dg Sp.dgR;by_cases hd:Sp.isD d=true
  ·rw[if_pos hd,if_pos hd];simp;omega
  ·rw[if_neg hd,if_neg hd];simp
theorem Uw(ds:Sp.By)(hd:∀c∈ds,48<=c.toNat/\c.toNat<=57):∀n:Int,0<=n->n<=1000000->0<=Sp.AE ds n/\Sp.AE ds n<=1000000:=by
 induction ds with
 | nil=>intro n h0 h1;exact⟨h0,h1⟩
 | cons c r ih =>
  intro n h0 h1;have hc:=hd c (by simp);exact ih (fun x hx=>hd x (by simp[hx])) _ (by omega) (by omega)
end Go.Proofs.YtdpomdelmdofmaaGreatDoor

set_option maxHeartbeats 2000000
namespace Go.Proofs.YtdpomdelmdofmaaGreatDoor
open Go.Proofs.Tryz
open Go.RowKit
def EW(o:Option (Int×Sp.By))(e:Ending)(w':World)(R:Nat)(t:ByteArray)(tw:Bool)(dp fr:Int):Prop :=
 (∃n l',o=some (n,l')/\e = .returned (.tuple #[.int .i64 n,.bool true])/\RD w' R t l' tw dp fr) \/
  (o=none /\ ∃n l',e = .returned (.tuple #[.int .i64 n,.bool false])/\RD w' R t l' tw dp fr)
theorem Bc(w:World)(s:ByteArray)(k:Nat):(w.iter s k).iterPos w.heap.size=k:=by
 simp[World.iterPos,World.iter_heap]
theorem XN{w:World}{R:Nat}{t:ByteArray}{l:Sp.By}{tw:Bool}{dp fr:Int}(h:RD w R t l tw dp fr)(k1:Sp.tk l 101=true)(k2:Sp.tk l.tail 45=true) :
  Calls Tryz.prog 224 #[.pointer (some ⟨R,0,none⟩)] w fun e w'=>Ad R w w'/\EW (Sp.AR l) e w' R t tw dp fr:=by
 have K1:=Ab k1;have K2:=Ab k2;have hE:Hid (Sp.AR l=if Sp.dg l.tail.tail=[] then none else some (- Sp.AE (Sp.dg l.tail.tail) 0,Sp.dgR l.tail.tail)):=by
  unfold Hid Sp.AR;simp[k1,k2]
 obtain⟨b,hem⟩:∃b,(Sp.dg l.tail.tail).isEmpty=b:=⟨_,rfl⟩
 have hall:=Ab (FA l.tail.tail);clear k1 k2
 go_enter func224,ntmps224
 go_wp2_with (fail);refine (Am 101 _ rfl h (Aa K1)).mono ?_
 rintro e w1 ⟨rfl,hr1,hk1⟩
 go_wp2_with (fail);refine (Am 45 _ rfl hr1 (Aa K2)).mono ?_
 rintro e w2 ⟨rfl,hr2,hk2⟩
 go_wp2_with (fail);refine (AC hr2).mono ?_
 rintro e w3 ⟨rfl,hr3,hk3⟩;have hkk:=((hk1.trans hk2).trans hk3)
 go_wp2_with (fail);generalize hds:Sp.dg l.tail.tail=ds at *
 clear h hr1 hr2 hds
 go_loopw [6] (fun n wr=>∃ (k:Nat) (m:Int),k<=ds.length/\n = .int .i64 m/\0<=m/\m<=1000000/\wr=w3.iter ⟨ds.toArray⟩ k/\Sp.AE ds 0=Sp.AE (ds.drop k) m) (fun _ wr=>ds.length-wr.iterPos w3.heap.size)
 case atStart=>exact⟨0,0,by omega,rfl,by omega,by omega,rfl,rfl⟩
 case round =>
  obtain⟨k,m,hk,rfl,hm0,hm1,rfl,he⟩:=hrel;have HE:=Ab he;clear he;by_cases hlt:k<ds.length
  ·have hlt2:k<(⟨ds.toArray⟩:ByteArray).size:=by rw[Aw];exact hlt
   have hc:=Aa hall ds[k] (List.getElem_mem hlt);have hbyte:((⟨ds.toArray⟩:ByteArray)[k]'hlt2)=ds[k]:=by simp[ByteArray.getElem_eq_getElem_data]
   have hnext:∀ty,(Instr.next (.pointer (some ⟨w3.heap.size,0,none⟩)) true ty).run Tryz.prog (w3.iter ⟨ds.toArray⟩ k) = .ok (.tuple #[.bool true,.int .i64 k,.int .i32 ds[k].toNat]) (w3.iter ⟨ds.toArray⟩ (k+1)):=fun ty=>by
    have:=run_next_ascii (P:=Tryz.prog) w3 ⟨ds.toArray⟩ k ty hlt2 (by rw[hbyte];omega);rw[hbyte] at this;exact this
   have hstep:Hid (Sp.AE (ds.drop k) m=Sp.AE (ds.drop (k+1)) (min (10*m+((ds[k].toNat:Int)-48)) 1000000)):=by
    unfold Hid;rw[List.drop_eq_getElem_cons hlt];rfl
   generalize hcc:ds[k].toNat=c at *;have HC:=Ab hcc;clear hcc hbyte
   go_wp2_with (fail)
   go_roundw
   case rel=>exact⟨k+1,_,by omega,rfl,by omega,by omega,rfl,(Aa HE).trans (Aa hstep)⟩
   case measure=>rw[Bc,Bc];omega
  ·have hnext:∀ty,(Instr.next (.pointer (some ⟨w3.heap.size,0,none⟩)) true ty).run Tryz.prog (w3.iter ⟨ds.toArray⟩ k) = .ok (.tuple #[.bool false]) (w3.iter ⟨ds.toArray⟩ k):=fun ty =>
    run_next_end (P:=Tryz.prog) w3 ⟨ds.toArray⟩ k ty (by rw[Aw];exact hlt)
   go_wp2_with (fail);have hkz:Ad R w (w3.iter ⟨ds.toArray⟩ k):=hkk.alloc _
   have hrz:RD (w3.iter ⟨ds.toArray⟩ k) R t (Sp.dgR l.tail.tail) tw dp fr:=hr3.alloc _;have hmz:Sp.AE ds 0=m:=by rw[Aa HE,List.drop_eq_nil_of_le (by omega)];rfl
   go_ret2
   refine⟨hkz,?_⟩;cases b with
   | false=>exact Or.inl ⟨_,_,by rw[Aa hE,if_neg (by intro h;rw[h] at hem;cases hem),hmz],rfl,hrz⟩
   | true=>exact Or.inr ⟨by rw[Aa hE,if_pos (by simpa using hem)],_,_,rfl,hrz⟩
theorem XM{w:World}{R:Nat}{t:ByteArray}{l:Sp.By}{tw:Bool}{dp fr:Int}(h:RD w R t l tw dp fr)(k1:Sp.tk l 101=true)(k2:Sp.tk l.tail 45=false)(k3:Sp.tk l.tail 43=true) :
  Calls Tryz.prog 224 #[.pointer (some ⟨R,0,none⟩)] w fun e w'=>Ad R w w'/\EW (Sp.AR l) e w' R t tw dp fr:=by
 have K1:=Ab k1;have K2:=Ab k2;have K3:=Ab k3;have hE:Hid (Sp.AR l=if Sp.dg l.tail.tail=[] then none else some (Sp.AE (Sp.dg l.tail.tail) 0,Sp.dgR l.tail.tail)):=by
  unfold Hid Sp.AR;simp[k1,k2,k3]
 obtain⟨b,hem⟩:∃b,(Sp.dg l.tail.tail).isEmpty=b:=⟨_,rfl⟩
 have hall:=Ab (FA l.tail.tail);clear k1 k2 k3
 go_enter func224,ntmps224
 go_wp2_with (fail);refine (Am 101 _ rfl h (Aa K1)).mono ?_
 rintro e w1 ⟨rfl,hr1,hk1⟩
 go_wp2_with (fail);refine (AF 45 _ rfl hr1 (Aa K2)).mono ?_
 rintro e w2 ⟨rfl,hr2,hk2⟩
 go_wp2_with (fail);refine (Am 43 _ rfl hr2 (Aa K3)).mono ?_
 rintro e w3 ⟨rfl,hr3,hk3⟩
 go_wp2_with (fail);refine (AC hr3).mono ?_
 rintro e w4 ⟨rfl,hr4,hk4⟩;have hkk:=(((hk1.trans hk2).trans hk3).trans hk4)
 go_wp2_with (fail);generalize hds:Sp.dg l.tail.tail=ds at *
 clear h hr1 hr2 hr3 hds
 go_loopw [6] (fun n wr=>∃ (k:Nat) (m:Int),k<=ds.length/\n = .int .i64 m/\0<=m/\m<=1000000/\wr=w4.iter ⟨ds.toArray⟩ k/\Sp.AE ds 0=Sp.AE (ds.drop k) m) (fun _ wr=>ds.length-wr.iterPos w4.heap.size)
 case atStart=>exact⟨0,0,by omega,rfl,by omega,by omega,rfl,rfl⟩
 case round =>
  obtain⟨k,m,hk,rfl,hm0,hm1,rfl,he⟩:=hrel;have HE:=Ab he;clear he;by_cases hlt:k<ds.length
  ·have hlt2:k<(⟨ds.toArray⟩:ByteArray).size:=by rw[Aw];exact hlt
   have hc:=Aa hall ds[k] (List.getElem_mem hlt);have hbyte:((⟨ds.toArray⟩:ByteArray)[k]'hlt2)=ds[k]:=by simp[ByteArray.getElem_eq_getElem_data]
   have hnext:∀ty,(Instr.next (.pointer (some ⟨w4.heap.size,0,none⟩)) true ty).run Tryz.prog (w4.iter ⟨ds.toArray⟩ k) = .ok (.tuple #[.bool true,.int .i64 k,.int .i32 ds[k].toNat]) (w4.iter ⟨ds.toArray⟩ (k+1)):=fun ty=>by
    have:=run_next_ascii (P:=Tryz.prog) w4 ⟨ds.toArray⟩ k ty hlt2 (by rw[hbyte];omega);rw[hbyte] at this;exact this
   have hstep:Hid (Sp.AE (ds.drop k) m=Sp.AE (ds.drop (k+1)) (min (10*m+((ds[k].toNat:Int)-48)) 1000000)):=by
    unfold Hid;rw[List.drop_eq_getElem_cons hlt];rfl
   generalize hcc:ds[k].toNat=c at *;have HC:=Ab hcc;clear hcc hbyte
   go_wp2_with (fail)
   go_roundw
   case rel=>exact⟨k+1,_,by omega,rfl,by omega,by omega,rfl,(Aa HE).trans (Aa hstep)⟩
   case measure=>rw[Bc,Bc];omega
  ·have hnext:∀ty,(Instr.next (.pointer (some ⟨w4.heap.size,0,none⟩)) true ty).run Tryz.prog (w4.iter ⟨ds.toArray⟩ k) = .ok (.tuple #[.bool false]) (w4.iter ⟨ds.toArray⟩ k):=fun ty =>
    run_next_end (P:=Tryz.prog) w4 ⟨ds.toArray⟩ k ty (by rw[Aw];exact hlt)
   go_wp2_with (fail);have hkz:Ad R w (w4.iter ⟨ds.toArray⟩ k):=hkk.alloc _
   have hrz:RD (w4.iter ⟨ds.toArray⟩ k) R t (Sp.dgR l.tail.tail) tw dp fr:=hr4.alloc _;have hmz:Sp.AE ds 0=m:=by rw[Aa HE,List.drop_eq_nil_of_le (by omega)];rfl
   go_ret2
   refine⟨hkz,?_⟩;cases b with
   | false=>exact Or.inl ⟨_,_,by rw[Aa hE,if_neg (by intro h;rw[h] at hem;cases hem),hmz],rfl,hrz⟩
   | true=>exact Or.inr ⟨by rw[Aa hE,if_pos (by simpa using hem)],_,_,rfl,hrz⟩
theorem XL{w:World}{R:Nat}{t:ByteArray}{l:Sp.By}{tw:Bool}{dp fr:Int}(h:RD w R t l tw dp fr)(k1:Sp.tk l 101=true)(k2:Sp.tk l.tail 45=false)(k3:Sp.tk l.tail 43=false) :
  Calls Tryz.prog 224 #[.pointer (some ⟨R,0,none⟩)] w fun e w'=>Ad R w w'/\EW (Sp.AR l) e w' R t tw dp fr:=by
 have K1:=Ab k1;have K2:=Ab k2;have K3:=Ab k3;have hE:Hid (Sp.AR l=if Sp.dg l.tail=[] then none else some (Sp.AE (Sp.dg l.tail) 0,Sp.dgR l.tail)):=by
  unfold Hid Sp.AR;simp[k1,k2,k3]
 obtain⟨b,hem⟩:∃b,(Sp.dg l.tail).isEmpty=b:=⟨_,rfl⟩
 have hall:=Ab (FA l.tail);clear k1 k2 k3
 go_enter func224,ntmps224
 go_wp2_with (fail);refine (Am 101 _ rfl h (Aa K1)).mono ?_
 rintro e w1 ⟨rfl,hr1,hk1⟩
 go_wp2_with (fail);refine (AF 45 _ rfl hr1 (Aa K2)).mono ?_
 rintro e w2 ⟨rfl,hr2,hk2⟩
 go_wp2_with (fail);refine (AF 43 _ rfl hr2 (Aa K3)).mono ?_
 rintro e w3 ⟨rfl,hr3,hk3⟩
 go_wp2_with (fail);refine (AC hr3).mono ?_
 rintro e w4 ⟨rfl,hr4,hk4⟩;have hkk:=(((hk1.trans hk2).trans hk3).trans hk4)
 go_wp2_with (fail);generalize hds:Sp.dg l.tail=ds at *
 clear h hr1 hr2 hr3 hds
 go_loopw [6] (fun n wr=>∃ (k:Nat) (m:Int),k<=ds.length/\n = .int .i64 m/\0<=m/\m<=1000000/\wr=w4.iter ⟨ds.toArray⟩ k/\Sp.AE ds 0=Sp.AE (ds.drop k) m) (fun _ wr=>ds.length-wr.iterPos w4.heap.size)
 case atStart=>exact⟨0,0,by omega,rfl,by omega,by omega,rfl,rfl⟩
 case round =>
  obtain⟨k,m,hk,rfl,hm0,hm1,rfl,he⟩:=hrel;have HE:=Ab he;clear he;by_cases hlt:k<ds.length
  ·have hlt2:k<(⟨ds.toArray⟩:ByteArray).size:=by rw[Aw];exact hlt
   have hc:=Aa hall ds[k] (List.getElem_mem hlt);have hbyte:((⟨ds.toArray⟩:ByteArray)[k]'hlt2)=ds[k]:=by simp[ByteArray.getElem_eq_getElem_data]
   have hnext:∀ty,(Instr.next (.pointer (some ⟨w4.heap.size,0,none⟩)) true ty).run Tryz.prog (w4.iter ⟨ds.toArray⟩ k) = .ok (.tuple #[.bool true,.int .i64 k,.int .i32 ds[k].toNat]) (w4.iter ⟨ds.toArray⟩ (k+1)):=fun ty=>by
    have:=run_next_ascii (P:=Tryz.prog) w4 ⟨ds.toArray⟩ k ty hlt2 (by rw[hbyte];omega);rw[hbyte] at this;exact this
   have hstep:Hid (Sp.AE (ds.drop k) m=Sp.AE (ds.drop (k+1)) (min (10*m+((ds[k].toNat:Int)-48)) 1000000)):=by
    unfold Hid;rw[List.drop_eq_getElem_cons hlt];rfl
   generalize hcc:ds[k].toNat=c at *;have HC:=Ab hcc;clear hcc hbyte
   go_wp2_with (fail)
   go_roundw
   case rel=>exact⟨k+1,_,by omega,rfl,by omega,by omega,rfl,(Aa HE).trans (Aa hstep)⟩
   case measure=>rw[Bc,Bc];omega
  ·have hnext:∀ty,(Instr.next (.pointer (some ⟨w4.heap.size,0,none⟩)) true ty).run Tryz.prog (w4.iter ⟨ds.toArray⟩ k) = .ok (.tuple #[.bool false]) (w4.iter ⟨ds.toArray⟩ k):=fun ty =>
    run_next_end (P:=Tryz.prog) w4 ⟨ds.toArray⟩ k ty (by rw[Aw];exact hlt)
   go_wp2_with (fail);have hkz:Ad R w (w4.iter ⟨ds.toArray⟩ k):=hkk.alloc _
   have hrz:RD (w4.iter ⟨ds.toArray⟩ k) R t (Sp.dgR l.tail) tw dp fr:=hr4.alloc _;have hmz:Sp.AE ds 0=m:=by rw[Aa HE,List.drop_eq_nil_of_le (by omega)];rfl
   go_ret2
   refine⟨hkz,?_⟩;cases b with
   | false=>exact Or.inl ⟨_,_,by rw[Aa hE,if_neg (by intro h;rw[h] at hem;cases hem),hmz],rfl,hrz⟩
   | true=>exact Or.inr ⟨by rw[Aa hE,if_pos (by simpa using hem)],_,_,rfl,hrz⟩
theorem XK{w:World}{R:Nat}{t:ByteArray}{l:Sp.By}{tw:Bool}{dp fr:Int}(h:RD w R t l tw dp fr)(k0:Sp.tk l 101=false)(k1:Sp.tk l 69=true)(k2:Sp.tk l.tail 45=true) :
  Calls Tryz.prog 224 #[.pointer (some ⟨R,0,none⟩)] w fun e w'=>Ad R w w'/\EW (Sp.AR l) e w' R t tw dp fr:=by
 have K0:=Ab k0;have K1:=Ab k1;have K2:=Ab k2;have hE:Hid (Sp.AR l=if Sp.dg l.tail.tail=[] then none else some (- Sp.AE (Sp.dg l.tail.tail) 0,Sp.dgR l.tail.tail)):=by
  unfold Hid Sp.AR;simp[k0,k1,k2]
 obtain⟨b,hem⟩:∃b,(Sp.dg l.tail.tail).isEmpty=b:=⟨_,rfl⟩
 have hall:=Ab (FA l.tail.tail);clear k0 k1 k2
 go_enter func224,ntmps224
 go_wp2_with (fail);refine (AF 101 _ rfl h (Aa K0)).mono ?_
 rintro e w1 ⟨rfl,hr1,hk1⟩
 go_wp2_with (fail);refine (Am 69 _ rfl hr1 (Aa K1)).mono ?_
 rintro e w2 ⟨rfl,hr2,hk2⟩
 go_wp2_with (fail);refine (Am 45 _ rfl hr2 (Aa K2)).mono ?_
 rintro e w3 ⟨rfl,hr3,hk3⟩
 go_wp2_with (fail);refine (AC hr3).mono ?_
 rintro e w4 ⟨rfl,hr4,hk4⟩;have hkk:=(((hk1.trans hk2).trans hk3).trans hk4)
 go_wp2_with (fail);generalize hds:Sp.dg l.tail.tail=ds at *
 clear h hr1 hr2 hr3 hds
 go_loopw [6] (fun n wr=>∃ (k:Nat) (m:Int),k<=ds.length/\n = .int .i64 m/\0<=m/\m<=1000000/\wr=w4.iter ⟨ds.toArray⟩ k/\Sp.AE ds 0=Sp.AE (ds.drop k) m) (fun _ wr=>ds.length-wr.iterPos w4.heap.size)
 case atStart=>exact⟨0,0,by omega,rfl,by omega,by omega,rfl,rfl⟩
 case round =>
  obtain⟨k,m,hk,rfl,hm0,hm1,rfl,he⟩:=hrel;have HE:=Ab he;clear he;by_cases hlt:k<ds.length
  ·have hlt2:k<(⟨ds.toArray⟩:ByteArray).size:=by rw[Aw];exact hlt
   have hc:=Aa hall ds[k] (List.getElem_mem hlt);have hbyte:((⟨ds.toArray⟩:ByteArray)[k]'hlt2)=ds[k]:=by simp[ByteArray.getElem_eq_getElem_data]
   have hnext:∀ty,(Instr.next (.pointer (some ⟨w4.heap.size,0,none⟩)) true ty).run Tryz.prog (w4.iter ⟨ds.toArray⟩ k) = .ok (.tuple #[.bool true,.int .i64 k,.int .i32 ds[k].toNat]) (w4.iter ⟨ds.toArray⟩ (k+1)):=fun ty=>by
    have:=run_next_ascii (P:=Tryz.prog) w4 ⟨ds.toArray⟩ k ty hlt2 (by rw[hbyte];omega);rw[hbyte] at this;exact this
   have hstep:Hid (Sp.AE (ds.drop k) m=Sp.AE (ds.drop (k+1)) (min (10*m+((ds[k].toNat:Int)-48)) 1000000)):=by
    unfold Hid;rw[List.drop_eq_getElem_cons hlt];rfl
   generalize hcc:ds[k].toNat=c at *;have HC:=Ab hcc;clear hcc hbyte
   go_wp2_with (fail)
   go_roundw
   case rel=>exact⟨k+1,_,by omega,rfl,by omega,by omega,rfl,(Aa HE).trans (Aa hstep)⟩
   case measure=>rw[Bc,Bc];omega
  ·have hnext:∀ty,(Instr.next (.pointer (some ⟨w4.heap.size,0,none⟩)) true ty).run Tryz.prog (w4.iter ⟨ds.toArray⟩ k) = .ok (.tuple #[.bool false]) (w4.iter ⟨ds.toArray⟩ k):=fun ty =>
    run_next_end (P:=Tryz.prog) w4 ⟨ds.toArray⟩ k ty (by rw[Aw];exact hlt)
   go_wp2_with (fail);have hkz:Ad R w (w4.iter ⟨ds.toArray⟩ k):=hkk.alloc _
   have hrz:RD (w4.iter ⟨ds.toArray⟩ k) R t (Sp.dgR l.tail.tail) tw dp fr:=hr4.alloc _;have hmz:Sp.AE ds 0=m:=by rw[Aa HE,List.drop_eq_nil_of_le (by omega)];rfl
   go_ret2
   refine⟨hkz,?_⟩;cases b with
   | false=>exact Or.inl ⟨_,_,by rw[Aa hE,if_neg (by intro h;rw[h] at hem;cases hem),hmz],rfl,hrz⟩
   | true=>exact Or.inr ⟨by rw[Aa hE,if_pos (by simpa using hem)],_,_,rfl,hrz⟩
theorem XJ{w:World}{R:Nat}{t:ByteArray}{l:Sp.By}{tw:Bool}{dp fr:Int}(h:RD w R t l tw dp fr)(k0:Sp.tk l 101=false)(k1:Sp.tk l 69=true)(k2:Sp.tk l.tail 45=false)(k3:Sp.tk l.tail 43=true) :
  Calls Tryz.prog 224 #[.pointer (some ⟨R,0,none⟩)] w fun e w'=>Ad R w w'/\EW (Sp.AR l) e w' R t tw dp fr:=by
 have K0:=Ab k0;have K1:=Ab k1;have K2:=Ab k2;have K3:=Ab k3;have hE:Hid (Sp.AR l=if Sp.dg l.tail.tail=[] then none else some (Sp.AE (Sp.dg l.tail.tail) 0,Sp.dgR l.tail.tail)):=by
  unfold Hid Sp.AR;simp[k0,k1,k2,k3]
 obtain⟨b,hem⟩:∃b,(Sp.dg l.tail.tail).isEmpty=b:=⟨_,rfl⟩
 have hall:=Ab (FA l.tail.tail);clear k0 k1 k2 k3
 go_enter func224,ntmps224
 go_wp2_with (fail);refine (AF 101 _ rfl h (Aa K0)).mono ?_
 rintro e w1 ⟨rfl,hr1,hk1⟩
 go_wp2_with (fail);refine (Am 69 _ rfl hr1 (Aa K1)).mono ?_
 rintro e w2 ⟨rfl,hr2,hk2⟩
 go_wp2_with (fail);refine (AF 45 _ rfl hr2 (Aa K2)).mono ?_
 rintro e w3 ⟨rfl,hr3,hk3⟩
 go_wp2_with (fail);refine (Am 43 _ rfl hr3 (Aa K3)).mono ?_
 rintro e w4 ⟨rfl,hr4,hk4⟩
 go_wp2_with (fail);refine (AC hr4).mono ?_
 rintro e w5 ⟨rfl,hr5,hk5⟩;have hkk:=((((hk1.trans hk2).trans hk3).trans hk4).trans hk5)
 go_wp2_with (fail);generalize hds:Sp.dg l.tail.tail=ds at *
 clear h hr1 hr2 hr3 hr4 hds
 go_loopw [6] (fun n wr=>∃ (k:Nat) (m:Int),k<=ds.length/\n = .int .i64 m/\0<=m/\m<=1000000/\wr=w5.iter ⟨ds.toArray⟩ k/\Sp.AE ds 0=Sp.AE (ds.drop k) m) (fun _ wr=>ds.length-wr.iterPos w5.heap.size)
 case atStart=>exact⟨0,0,by omega,rfl,by omega,by omega,rfl,rfl⟩
 case round =>
  obtain⟨k,m,hk,rfl,hm0,hm1,rfl,he⟩:=hrel;have HE:=Ab he;clear he;by_cases hlt:k<ds.length
  ·have hlt2:k<(⟨ds.toArray⟩:ByteArray).size:=by rw[Aw];exact hlt
   have hc:=Aa hall ds[k] (List.getElem_mem hlt);have hbyte:((⟨ds.toArray⟩:ByteArray)[k]'hlt2)=ds[k]:=by simp[ByteArray.getElem_eq_getElem_data]
   have hnext:∀ty,(Instr.next (.pointer (some ⟨w5.heap.size,0,none⟩)) true ty).run Tryz.prog (w5.iter ⟨ds.toArray⟩ k) = .ok (.tuple #[.bool true,.int .i64 k,.int .i32 ds[k].toNat]) (w5.iter ⟨ds.toArray⟩ (k+1)):=fun ty=>by
    have:=run_next_ascii (P:=Tryz.prog) w5 ⟨ds.toArray⟩ k ty hlt2 (by rw[hbyte];omega);rw[hbyte] at this;exact this
   have hstep:Hid (Sp.AE (ds.drop k) m=Sp.AE (ds.drop (k+1)) (min (10*m+((ds[k].toNat:Int)-48)) 1000000)):=by
    unfold Hid;rw[List.drop_eq_getElem_cons hlt];rfl
   generalize hcc:ds[k].toNat=c at *;have HC:=Ab hcc;clear hcc hbyte
   go_wp2_with (fail)
   go_roundw
   case rel=>exact⟨k+1,_,by omega,rfl,by omega,by omega,rfl,(Aa HE).trans (Aa hstep)⟩
   case measure=>rw[Bc,Bc];omega
  ·have hnext:∀ty,(Instr.next (.pointer (some ⟨w5.heap.size,0,none⟩)) true ty).run Tryz.prog (w5.iter ⟨ds.toArray⟩ k) = .ok (.tuple #[.bool false]) (w5.iter ⟨ds.toArray⟩ k):=fun ty =>
    run_next_end (P:=Tryz.prog) w5 ⟨ds.toArray⟩ k ty (by rw[Aw];exact hlt)
   go_wp2_with (fail);have hkz:Ad R w (w5.iter ⟨ds.toArray⟩ k):=hkk.alloc _
   have hrz:RD (w5.iter ⟨ds.toArray⟩ k) R t (Sp.dgR l.tail.tail) tw dp fr:=hr5.alloc _;have hmz:Sp.AE ds 0=m:=by rw[Aa HE,List.drop_eq_nil_of_le (by omega)];rfl
   go_ret2
   refine⟨hkz,?_⟩;cases b with
   | false=>exact Or.inl ⟨_,_,by rw[Aa hE,if_neg (by intro h;rw[h] at hem;cases hem),hmz],rfl,hrz⟩
   | true=>exact Or.inr ⟨by rw[Aa hE,if_pos (by simpa using hem)],_,_,rfl,hrz⟩
theorem XI{w:World}{R:Nat}{t:ByteArray}{l:Sp.By}{tw:Bool}{dp fr:Int}(h:RD w R t l tw dp fr)(k0:Sp.tk l 101=false)(k1:Sp.tk l 69=true)(k2:Sp.tk l.tail 45=false)(k3:Sp.tk l.tail 43=false) :
  Calls Tryz.prog 224 #[.pointer (some ⟨R,0,none⟩)] w fun e w'=>Ad R w w'/\EW (Sp.AR l) e w' R t tw dp fr:=by
 have K0:=Ab k0;have K1:=Ab k1;have K2:=Ab k2;have K3:=Ab k3;have hE:Hid (Sp.AR l=if Sp.dg l.tail=[] then none else some (Sp.AE (Sp.dg l.tail) 0,Sp.dgR l.tail)):=by
  unfold Hid Sp.AR;simp[k0,k1,k2,k3]
 obtain⟨b,hem⟩:∃b,(Sp.dg l.tail).isEmpty=b:=⟨_,rfl⟩
 have hall:=Ab (FA l.tail);clear k0 k1 k2 k3
 go_enter func224,ntmps224
 go_wp2_with (fail);refine (AF 101 _ rfl h (Aa K0)).mono ?_
 rintro e w1 ⟨rfl,hr1,hk1⟩
 go_wp2_with (fail);refine (Am 69 _ rfl hr1 (Aa K1)).mono ?_
 rintro e w2 ⟨rfl,hr2,hk2⟩
 go_wp2_with (fail);refine (AF 45 _ rfl hr2 (Aa K2)).mono ?_
 rintro e w3 ⟨rfl,hr3,hk3⟩
 go_wp2_with (fail);refine (AF 43 _ rfl hr3 (Aa K3)).mono ?_
 rintro e w4 ⟨rfl,hr4,hk4⟩
 go_wp2_with (fail);refine (AC hr4).mono ?_
 rintro e w5 ⟨rfl,hr5,hk5⟩;have hkk:=((((hk1.trans hk2).trans hk3).trans hk4).trans hk5)
 go_wp2_with (fail);generalize hds:Sp.dg l.tail=ds at *
 clear h hr1 hr2 hr3 hr4 hds
 go_loopw [6] (fun n wr=>∃ (k:Nat) (m:Int),k<=ds.length/\n = .int .i64 m/\0<=m/\m<=1000000/\wr=w5.iter ⟨ds.toArray⟩ k/\Sp.AE ds 0=Sp.AE (ds.drop k) m) (fun _ wr=>ds.length-wr.iterPos w5.heap.size)
 case atStart=>exact⟨0,0,by omega,rfl,by omega,by omega,rfl,rfl⟩
 case round =>
  obtain⟨k,m,hk,rfl,hm0,hm1,rfl,he⟩:=hrel;have HE:=Ab he;clear he;by_cases hlt:k<ds.length
  ·have hlt2:k<(⟨ds.toArray⟩:ByteArray).size:=by rw[Aw];exact hlt
   have hc:=Aa hall ds[k] (List.getElem_mem hlt);have hbyte:((⟨ds.toArray⟩:ByteArray)[k]'hlt2)=ds[k]:=by simp[ByteArray.getElem_eq_getElem_data]
   have hnext:∀ty,(Instr.next (.pointer (some ⟨w5.heap.size,0,none⟩)) true ty).run Tryz.prog (w5.iter ⟨ds.toArray⟩ k) = .ok (.tuple #[.bool true,.int .i64 k,.int .i32 ds[k].toNat]) (w5.iter ⟨ds.toArray⟩ (k+1)):=fun ty=>by
    have:=run_next_ascii (P:=Tryz.prog) w5 ⟨ds.toArray⟩ k ty hlt2 (by rw[hbyte];omega);rw[hbyte] at this;exact this
   have hstep:Hid (Sp.AE (ds.drop k) m=Sp.AE (ds.drop (k+1)) (min (10*m+((ds[k].toNat:Int)-48)) 1000000)):=by
    unfold Hid;rw[List.drop_eq_getElem_cons hlt];rfl
   generalize hcc:ds[k].toNat=c at *;have HC:=Ab hcc;clear hcc hbyte
   go_wp2_with (fail)
   go_roundw
   case rel=>exact⟨k+1,_,by omega,rfl,by omega,by omega,rfl,(Aa HE).trans (Aa hstep)⟩
   case measure=>rw[Bc,Bc];omega
  ·have hnext:∀ty,(Instr.next (.pointer (some ⟨w5.heap.size,0,none⟩)) true ty).run Tryz.prog (w5.iter ⟨ds.toArray⟩ k) = .ok (.tuple #[.bool false]) (w5.iter ⟨ds.toArray⟩ k):=fun ty =>
    run_next_end (P:=Tryz.prog) w5 ⟨ds.toArray⟩ k ty (by rw[Aw];exact hlt)
   go_wp2_with (fail);have hkz:Ad R w (w5.iter ⟨ds.toArray⟩ k):=hkk.alloc _
   have hrz:RD (w5.iter ⟨ds.toArray⟩ k) R t (Sp.dgR l.tail) tw dp fr:=hr5.alloc _;have hmz:Sp.AE ds 0=m:=by rw[Aa HE,List.drop_eq_nil_of_le (by omega)];rfl
   go_ret2
   refine⟨hkz,?_⟩;cases b with
   | false=>exact Or.inl ⟨_,_,by rw[Aa hE,if_neg (by intro h;rw[h] at hem;cases hem),hmz],rfl,hrz⟩
   | true=>exact Or.inr ⟨by rw[Aa hE,if_pos (by simpa using hem)],_,_,rfl,hrz⟩
theorem Uv{w:World}{R:Nat}{t:ByteArray}{l:Sp.By}{tw:Bool}{dp fr:Int}(h:RD w R t l tw dp fr)(k0:Sp.tk l 101=false)(k1:Sp.tk l 69=false) :
  Calls Tryz.prog 224 #[.pointer (some ⟨R,0,none⟩)] w fun e w'=>Ad R w w'/\EW (Sp.AR l) e w' R t tw dp fr:=by
 have hE:Hid (Sp.AR l=some (0,l)):=by unfold Hid Sp.AR;simp[k0,k1]
 have K0:=Ab k0;have K1:=Ab k1;clear k0 k1
 go_enter func224,ntmps224
 go_wp2_with (fail);refine (AF 101 _ rfl h (Aa K0)).mono ?_
 rintro e w1 ⟨rfl,hr1,hk1⟩
 go_wp2_with (fail);refine (AF 69 _ rfl hr1 (Aa K1)).mono ?_
 rintro e w2 ⟨rfl,hr2,hk2⟩
 go_wp2_with (fail)
 go_ret2
 exact⟨hk1.trans hk2,Or.inl ⟨0,l,Aa hE,rfl,hr2⟩⟩
theorem B6{w:World}{R:Nat}{t:ByteArray}{l:Sp.By}{tw:Bool}{dp fr:Int}(h:RD w R t l tw dp fr) :
  Calls Tryz.prog 224 #[.pointer (some ⟨R,0,none⟩)] w fun e w'=>Ad R w w'/\EW (Sp.AR l) e w' R t tw dp fr:=by
 by_cases k0:Sp.tk l 101=true
 ·by_cases k2:Sp.tk l.tail 45=true
  ·exact XN h k0 k2
  ·by_cases k3:Sp.tk l.tail 43=true
   ·exact XM h k0 (Ak k2) k3
   ·exact XL h k0 (Ak k2) (Ak k3)
 ·by_cases k1:Sp.tk l 69=true
  ·by_cases k2:Sp.tk l.tail 45=true
   ·exact XK h (Ak k0) k1 k2
   ·by_cases k3:Sp.tk l.tail 43=true
    ·exact XJ h (Ak k0) k1 (Ak k2) k3
    ·exact XI h (Ak k0) k1 (Ak k2) (Ak k3)
  ·exact Uv h (Ak k0) (Ak k1)
end Go.Proofs.YtdpomdelmdofmaaGreatDoor

set_option maxHeartbeats 2000000
namespace Go.Proofs.YtdpomdelmdofmaaGreatDoor
open Go.Proofs.Tryz
open Go.RowKit
def AD(n:Sp.Nm):Value:=.agg #[.bool n.1,.string ⟨n.2.1.toArray⟩,.int .i64 n.2.2]
theorem SX(s:ByteArray)(w:World)(hlim:s.size<=281474976710656) :
  Calls Tryz.prog 265 #[.string s] w fun e w'=>e = .returned (.string s)/\Below w.heap.size w w':=by
 go_enter func265,ntmps265
 go_wp2_with (fail);refine (Tryz.stringslite_Clone s _ hlim).mono ?_
 rintro e w1 ⟨rfl,hb⟩
 go_wp2_with (fail)
 go_ret;exact⟨rfl,hb⟩
theorem FK(l:Sp.By)(c:UInt8):(Lib.trimLeftB l c).length<=l.length:=by
 unfold Lib.trimLeftB;exact (List.dropWhile_sublist _).length_le
theorem FJ(l:Sp.By)(c:UInt8):(Lib.trimRightB l c).length<=l.length:=by
 unfold Lib.trimRightB;rw[List.length_reverse];exact Nat.le_trans (List.dropWhile_sublist _).length_le (by simp)
theorem DG(ng:Bool)(ds:Sp.By)(ex:Int)(w:World)(h0:-10000000<=ex)(h1:ex<=10000000)(hl:ds.length<=4000) :
  Calls Tryz.prog 225 #[.bool ng,.string ⟨ds.toArray⟩,.int .i64 ex] w fun e w'=>e = .returned (AD (Sp.Co ng ds ex))/\Below w.heap.size w w':=by
 have hq:Hid (Sp.Co ng ds ex=if Lib.trimRightB (Lib.trimLeftB ds 48) 48=[] then (false,[],0) else (ng,Lib.trimRightB (Lib.trimLeftB ds 48) 48,ex+(Lib.trimLeftB ds 48).length-(Lib.trimRightB (Lib.trimLeftB ds 48) 48).length)):=rfl;have l1:=FK ds 48;have l2:=FJ (Lib.trimLeftB ds 48) 48;have cL:∀W:World,Calls Tryz.prog 263 #[.string ⟨ds.toArray⟩,.string ⟨#[48]⟩] W fun e w'=>e = .returned (.string ⟨(Lib.trimLeftB ds 48).toArray⟩)/\w'=W:=fun W=>Tryz.strings_TrimLeft_one ⟨ds.toArray⟩ 48 (by decide) W;have cR:∀W:World,Calls Tryz.prog 264 #[.string ⟨(Lib.trimLeftB ds 48).toArray⟩,.string ⟨#[48]⟩] W fun e w'=>e = .returned (.string ⟨(Lib.trimRightB (Lib.trimLeftB ds 48) 48).toArray⟩)/\w'=W:=fun W=>Tryz.strings_TrimRight_one ⟨(Lib.trimLeftB ds 48).toArray⟩ 48 (by decide) W (by rw[Aw];omega);generalize Lib.trimRightB (Lib.trimLeftB ds 48) 48=wl at *;generalize Lib.trimLeftB ds 48=dl at *;have CL:=Ab cL;have CR:=Ab cR;clear cL cR;by_cases hw:wl=[]
 ·have hr:Hid (Sp.Co ng ds ex=(false,[],0)):=by rw[Hid,Aa hq,if_pos hw]
  clear hq;subst hw
  go_enter func225,ntmps225
  go_wp2_with (fail);refine (Aa CL _).mono ?_
  rintro e w' ⟨rfl,rfl⟩
  go_wp2_with (fail);refine (Aa CR _).mono ?_
  rintro e w' ⟨rfl,rfl⟩
  go_wp2_with (fail);rw[Aa hr]
  refine bodyPost_ret (v:=AD (false,[],0)) (by simp[results,results225,go_sem,AD]) rfl ⟨rfl,?_⟩;exact (Below.refl _ _).alloc (Nat.le_refl _) _
 ·have he:=Nt hw;have hr:Hid (Sp.Co ng ds ex=(ng,wl,ex+dl.length-wl.length)):=by rw[Hid,Aa hq,if_neg hw]
  clear hq hw
  go_enter func225,ntmps225
  go_wp2_with (fail);refine (Aa CL _).mono ?_
  rintro e w' ⟨rfl,rfl⟩
  go_wp2_with (fail);refine (Aa CR _).mono ?_
  rintro e w' ⟨rfl,rfl⟩
  go_wp2_with (fail);refine (SX _ _ (by rw[Aw];omega)).mono ?_
  rintro e w2 ⟨rfl,hb⟩;have g0:w2.cell? ⟨w.heap.size,0,none⟩=some (.bool false):=(hb.cell (p:=⟨w.heap.size,0,none⟩) (by simp)).trans (by simp);have g1:w2.cell? ⟨w.heap.size,1,none⟩=some (.string ⟨#[]⟩):=(hb.cell (p:=⟨w.heap.size,1,none⟩) (by simp)).trans (by simp);have g2:w2.cell? ⟨w.heap.size,2,none⟩=some (.int .i64 0):=(hb.cell (p:=⟨w.heap.size,2,none⟩) (by simp)).trans (by simp);have hf:∀j,w2.frozen? ⟨w.heap.size,j,none⟩=(w.alloc (.cells #[.bool false,.string ⟨#[]⟩,.int .i64 0] 108)).frozen? ⟨w.heap.size,j,none⟩:=fun j=>hb.frozen (p:=⟨w.heap.size,j,none⟩) (by simp)
  go_wp2_with (fail);rw[Aa hr]
  refine bodyPost_ret (v:=AD (ng,wl,ex+dl.length-wl.length)) (by simp[results,results225,go_sem,AD,g0,g1,g2]) rfl ⟨rfl,?_⟩;exact ((((Below.refl w.heap.size w).alloc (Nat.le_refl _) _).trans (hb.mono (by simp))).setCell (by simp) _ |>.setCell (by simp) _).setCell (by simp) _
end Go.Proofs.YtdpomdelmdofmaaGreatDoor

namespace Go.Proofs.YtdpomdelmdofmaaGreatDoor
open Go.Proofs.Tryz
open Go.RowKit
theorem Gl{l:Sp.By}{n:Int}{r:Sp.By}(h:Sp.AR l=some (n,r)):-1000000<=n/\n<=1000000:=by
 unfold Sp.AR at h;have b:=fun l'=>Uw (Sp.dg l') (FA l') 0 (by omega) (by omega);have b1:=b l.tail;have b2:=b l.tail.tail;split at h
 ·split at h
  ·split at h
   ·cases h
   ·injection h with h;injection h with h h';omega
  ·split at h
   ·split at h
    ·cases h
    ·injection h with h;injection h with h h';omega
   ·split at h
    ·cases h
    ·injection h with h;injection h with h h';omega
 ·injection h with h;injection h with h h';omega
def B5(o:Option (Sp.Nm×Sp.By))(e:Ending)(w':World)(R:Nat)(t:ByteArray)(tw:Bool)(dp fr:Int):Prop :=
 (∃n l',o=some (n,l')/\e = .returned (.tuple #[AD n,.bool true])/\RD w' R t l' tw dp (max (max fr n.2.2) (-n.2.2))) \/
  (o=none/\e = .returned (.tuple #[AD (false,[],0),.bool false]) /\ ∃l',RD w' R t l' tw dp fr)
theorem Ea{l:Sp.By}{d:UInt8}{ds:Sp.By}(h:Sp.dg l=d::ds)(c:UInt8):Sp.tk l c=(d == c):=by
 cases l with
 | nil=>simp[Sp.dg] at h
 | cons a r =>
  unfold Sp.dg at h;split at h
  ·injection h with h1 h2;subst h1;rfl
  ·cases h
theorem B9(d:UInt8)(ds:Sp.By)(h:0<(⟨(d::ds).toArray⟩:ByteArray).size):(((⟨(d::ds).toArray⟩:ByteArray)[0]'h).toNat:Int)=(d.toNat:Int):=by
 simp[ByteArray.getElem_eq_getElem_data]
theorem Ax(d:UInt8)(ds:Sp.By):0<(⟨(d::ds).toArray⟩:ByteArray).size:=by rw[Aw];simp
theorem Dk{l f r:Sp.By}(h:Sp.BJ l=some (f,r)):f.length+r.length<=l.length:=by
 unfold Sp.BJ at h;have b:=BM l.tail;split at h
 ·rename_i k;have:=AO k;split at h
  ·cases h
  ·injection h with h;injection h with h h';subst h h';omega
 ·injection h with h;injection h with h h';subst h h';simp
theorem Iq{w:World}{R q:Nat}{t:ByteArray}{tw:Bool}{dp fr:Int}(h:RP w R t q tw dp fr)(o:Obj)(v v':Int)(x y z:Value)(b:Nat)(hb:b≠R)(hv:v=v') :
  RP ((((((w.alloc o).setCell ⟨R,4,none⟩ (.int .i64 v)).setCell ⟨b,0,none⟩ x).setCell ⟨b,1,none⟩ y).setCell ⟨b,2,none⟩ z).drew) R t q tw dp v':=by
 subst hv;have h1:=(h.alloc o).set4 v;exact ((h1.kept ((((Ad.refl b _).setCell (p:=⟨b,0,none⟩) rfl x).setCell (p:=⟨b,1,none⟩) rfl y).setCell (p:=⟨b,2,none⟩) rfl z) (by omega))).drew
theorem Gd(ng:Bool)(ds:Sp.By)(e:Int):(Sp.Co ng ds e).2.2=0\/(e<=(Sp.Co ng ds e).2.2/\(Sp.Co ng ds e).2.2<=e+ds.length):=by
 unfold Sp.Co;have h1:=FK ds 48;have h2:=FJ (Lib.trimLeftB ds 48) 48;simp only;split
 ·left;rfl
 ·right;simp only;omega
def BA(w:World)(b:Nat):Prop:=w.heap[b]? = some (.cells #[.bool false,.string ⟨#[]⟩,.int .i64 0] 108 (0,0))
section
variable{w:World}{b:Nat}
theorem BA.c0(h:BA w b):w.cell? ⟨b,0,none⟩=some (.bool false):=by simp[World.cell?,show w.heap[b]? = _ from h]
theorem BA.c1(h:BA w b):w.cell? ⟨b,1,none⟩=some (.string ⟨#[]⟩):=by simp[World.cell?,show w.heap[b]? = _ from h]
theorem BA.c2(h:BA w b):w.cell? ⟨b,2,none⟩=some (.int .i64 0):=by simp[World.cell?,show w.heap[b]? = _ from h]
theorem BA.fz(h:BA w b)(o:Nat):w.frozen? ⟨b,o,none⟩=false:=by simp[World.frozen?,show w.heap[b]? = _ from h]
theorem BA.kept{X:Nat}{w':World}(h:BA w b)(hk:Ad X w w')(hx:b≠X):BA w' b:=(hk.block b (Array.getElem?_eq_some_iff.1 h).1 hx).trans h
theorem BA.new(w:World):BA (w.alloc (.cells #[.bool false,.string ⟨#[]⟩,.int .i64 0] 108)) w.heap.size:=by
 show (w.heap.push _)[w.heap.size]? = _;simp
end
end Go.Proofs.YtdpomdelmdofmaaGreatDoor

namespace Go.Proofs.YtdpomdelmdofmaaGreatDoor.Sp
abbrev V:=DataW Unit
def BV(k:Nat):V:=.lit (.int .i64 k)
def Bj(n:Nm):V:=.agg [.lit (.bool n.1),.lit (.string n.2.1),.lit (.int .i64 n.2.2)]
def Az(s:By):V:=.lit (.string s)
def Ar(es:List V):V:=.slice es []
def Av(es:List (Lit×V)):V:=.map es
abbrev Fl:=Bool×Int×Int
def words:List By:=[[110,117,108,108],[116,114,117,101],[102,97,108,115,101]]
def Cv(l:By):Nat->List By->Option (Nat×By)
 | _,[]=>none
 | k,x::r=>if Lib.hasPrefix l x then some (k,l.drop x.length) else Cv l (k+1) r
def lst{σ:Type}(cl:UInt8)(item:By->σ->Option (By×σ)):Nat->By->σ->Option (By×σ)
 | 0,_,_=>none
 | n+1,l,s=>match item (skB l) s with
  | none=>none
  | some (l1,s1)=>if tk (skB l1) cl then some ((skB l1).tail,s1) else if tk (skB l1) 44 then lst cl item n (skB l1).tail s1 else none
def Bh{σ:Type}(op cl:UInt8)(item:By->σ->Option (By×σ))(l:By)(s:σ):Option (By×σ) :=
 if tk l op then (if tk (skB l.tail) cl then some ((skB l.tail).tail,s) else lst cl item ((skB l.tail).length+1) (skB l.tail) s) else none
def C7(rd:By->Fl->Option (V×By×Fl))(l:By)(s:List V×Fl):Option (By×(List V×Fl)) :=
 match rd l s.2 with
 | none=>none
 | some (v,r,fl)=>some (r,(s.1++[v],fl))
def CJ(rd:By->Fl->Option (V×By×Fl))(l:By)(s:V×Fl):Option (By×(V×Fl)) :=
 match quo l with
 | none=>none
 | some (k,l1)=>if tk (skB l1) 58 then (match rd (skB (skB l1).tail) s.2 with
  | none=>none
  | some (v,r,fl)=>some (r,(DataW.put s.1 (.string k) v,(fl.1 || Maps.has s.1 (.string k),fl.2)))) else none
def val:Nat->Int->By->Fl->Option (V×By×Fl)
 | 0,_,_,_=>none
 | f+1,lv,l,fl =>
  if pk l=123 then (match Bh 123 125 (CJ (val f (lv+1))) l (Av [],(fl.1,(max fl.2.1 lv,fl.2.2))) with
   | none=>none
   | some (r,(v,fl'))=>some (v,r,fl'))
  else if pk l=91 then (match Bh 91 93 (C7 (val f (lv+1))) l ([],(fl.1,(max fl.2.1 lv,fl.2.2))) with
   | none=>none
   | some (r,(es,fl'))=>some (Ar es,r,fl'))
  else if pk l=34 then (match quo l with
   | none=>none
   | some (s,r)=>some (Az s,r,(fl.1,(max fl.2.1 lv,fl.2.2))))
  else if pk l=45\/(48<=pk l/\pk l<=57) then (match num l with
   | none=>none
   | some (n,r)=>some (Bj n,r,(fl.1,(max fl.2.1 lv,max (max fl.2.2 n.2.2) (-n.2.2)))))
  else match Cv l 0 words with
   | none=>none
   | some (k,r)=>some (BV k,r,(fl.1,(max fl.2.1 lv,fl.2.2)))
theorem AX(l:By):(skB l).length<=l.length:=by
 induction l with
 | nil=>simp[skB]
 | cons c r ih =>
  unfold skB;split
  ·simp;omega
  ·simp
theorem Pv(l:By)(ws:List By)(hw:∀x∈ws,x≠[]):∀ (k n:Nat) (r:By),Cv l k ws=some (n,r)->r.length<l.length:=by
 induction ws with
 | nil=>intro k n r h;cases h
 | cons x ws ih =>
  intro k n r h;unfold Cv at h;split at h
  ·rename_i hp;unfold Lib.hasPrefix at hp;have h3:=(List.isPrefixOf_iff_prefix.1 hp).length_le;have h4:0<x.length:=List.length_pos_iff.2 (hw x (by simp));injection h with h;injection h with h1 h2;subst h2;simp;omega
  ·exact ih (fun y hy=>hw y (by simp[hy])) _ _ _ h
theorem US(f:Nat):∀ (l s r:By),CN f l=some (s,r)->r.length<=l.length:=by
 induction f with
 | zero=>intro l s r h;cases h
 | succ f ih =>
  intro l s r h;unfold CN at h;split at h
  ·injection h with h;injection h with h1 h2;subst h2;simp
  ·split at h
   ·cases h
   ·rename_i c r1 hc;have:=KJ hc;split at h
    ·cases h
    ·rename_i s1 r2 hx;have h3:=ih _ _ _ hx;injection h with h;injection h with h1 h2;subst h2;omega
theorem F8{l s r:By}(h:quo l=some (s,r)):r.length<l.length:=by
 unfold quo at h;split at h
 ·rename_i k;have:=AO k;have:=US _ _ _ _ h;omega
 ·cases h
theorem Wm{σ:Type}(cl:UInt8)(item:By->σ->Option (By×σ))(hi:∀l s l' s',item l s=some (l',s')->l'.length<l.length)(n:Nat):∀ (l:By) (s:σ) (r:By) (s':σ),lst cl item n l s=some (r,s')->r.length<l.length:=by
 induction n with
 | zero=>intro l s r s' h;cases h
 | succ n ih =>
  intro l s r s' h;unfold lst at h;split at h
  ·cases h
  ·rename_i l1 s1 h1;have a:=hi _ _ _ _ h1;have b:=AX l;have c:=AX l1;split at h
   ·rename_i k;have:=AO k;injection h with h;injection h with h2 h3;subst h2;omega
   ·split at h
    ·rename_i k;have:=AO k;have:=ih _ _ _ _ h;omega
    ·cases h
theorem J2{σ:Type}{op cl:UInt8}{item:By->σ->Option (By×σ)}(hi:∀l s l' s',item l s=some (l',s')->l'.length<l.length){l:By}{s:σ}{r:By}{s':σ}(h:Bh op cl item l s=some (r,s')):r.length<l.length:=by
 unfold Bh at h;split at h
 ·rename_i k;have:=AO k;have b:=AX l.tail;split at h
  ·rename_i k2;have:=AO k2;injection h with h;injection h with h2 h3;subst h2;omega
  ·have:=Wm cl item hi _ _ _ _ _ h;omega
 ·cases h
theorem OV{l:By}{n:Nm}{r:By}(h:num l=some (n,r)):r.length<l.length:=by
 have hf:∀ {l:By} {n r},AR l=some (n,r)->r.length<=l.length:=by
  intro l n r h;unfold AR at h;have a:=BM l.tail;have b:=BM l.tail.tail;have c:=List.length_tail (l:=l);have d:=List.length_tail (l:=l.tail)
  repeat' split at h
  all_goals first|(injection h with h;injection h with h1 h2;subst h2;omega)|cases h
 have hb:∀ {b:Bool} {l:By} {n r},BH b l=some (n,r)->r.length<l.length:=by
  intro b l n r h;unfold BH at h;have a:=BM l;split at h
  ·cases h
  ·rename_i hne;have hne2:0<(dg l).length:=by
    apply List.length_pos_iff.2;intro e;rw[e] at hne;simp at hne
   split at h
   ·cases h
   ·rename_i f r1 h1;have:=Dk h1;split at h
    ·cases h
    ·rename_i e r2 h2;have:=hf h2;injection h with h;injection h with h3 h4;subst h4;omega
 unfold num at h;split at h
 ·have:=hb h;have:=List.length_tail (l:=l);omega
 ·exact hb h
theorem Ep(f:Nat):∀ (lv:Int) (l:By) (fl:Fl) (v:V) (r:By) (fl':Fl),val f lv l fl=some (v,r,fl')->r.length<l.length:=by
 induction f with
 | zero=>intro lv l fl v r fl' h;cases h
 | succ f ih =>
  intro lv l fl v r fl' h;unfold val at h;have he:∀l s l' s',C7 (val f (lv+1)) l s=some (l',s')->l'.length<l.length:=by
   intro l s l' s' h;unfold C7 at h;split at h
   ·cases h
   ·rename_i v r fl hv;have:=ih _ _ _ _ _ _ hv;injection h with h;injection h with h1 h2;subst h1;exact this
  have hm:∀l s l' s',CJ (val f (lv+1)) l s=some (l',s')->l'.length<l.length:=by
   intro l s l' s' h;unfold CJ at h;split at h
   ·cases h
   ·rename_i k l1 hq;have a:=F8 hq;have b:=AX l1;split at h
    ·have c:=AX (skB l1).tail;have d:=List.length_tail (l:=skB l1);split at h
     ·cases h
     ·rename_i v r fl hv;have:=ih _ _ _ _ _ _ hv;injection h with h;injection h with h1 h2;subst h1;omega
    ·cases h
  split at h
  ·split at h
   ·cases h
   ·rename_i h1;have:=J2 hm h1;injection h with h;injection h with h2 h3;injection h3 with h3 h4;subst h3;omega
  ·split at h
   ·split at h
    ·cases h
    ·rename_i h1;have:=J2 he h1;injection h with h;injection h with h2 h3;injection h3 with h3 h4;subst h3;omega
   ·split at h
    ·split at h
     ·cases h
     ·rename_i h1;have:=F8 h1;injection h with h;injection h with h2 h3;injection h3 with h3 h4;subst h3;omega
    ·split at h
     ·split at h
      ·cases h
      ·rename_i h1;have:=OV h1;injection h with h;injection h with h2 h3;injection h3 with h3 h4;subst h3;omega
     ·split at h
      ·cases h
      ·rename_i h1;have:=Pv _ _ (by decide) _ _ _ h1;injection h with h;injection h with h2 h3;injection h3 with h3 h4;subst h3;omega
end Go.Proofs.YtdpomdelmdofmaaGreatDoor.Sp
