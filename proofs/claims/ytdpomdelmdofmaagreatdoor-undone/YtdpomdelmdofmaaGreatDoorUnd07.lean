import Derived.Test.YtdpomdelmdofmaaGreatDoorUnd06
import Derived.Deep.RegionHeld3
import Derived.Deep.AppendLies
import Derived.Deep.DrawnRows
import Derived.Deep.RegionLaw
namespace Go.Proofs.YtdpomdelmdofmaaGreatDoor
open Go.Proofs.Tryz
section
set_option maxHeartbeats 4000000
open Go.RowKit
theorem RD.uniq{w:World}{R:Nat}{t t':ByteArray}{l l':Sp.By}{tw tw':Bool}{dp fr dp' fr':Int}(h:RD w R t l tw dp fr)(h':RD w R t' l' tw' dp' fr'):t=t'/\l=l'/\tw=tw'/\dp=dp'/\fr=fr':=by
 obtain⟨p,a,h⟩:=h;obtain⟨p',a',h'⟩:=h';have e:=(show w.heap[R]? = _ from h).symm.trans (show w.heap[R]? = _ from h');simp at e;obtain⟨e1,e2,e3,e4,e5⟩:=e;subst e1;have:p=p':=by omega
 subst this;exact⟨rfl,a.eq.symm.trans a'.eq,e3,e4,e5⟩
structure ItemOk{σ:Type}(g:FuncId)(caps:Array Value)(R:Nat)(t:ByteArray)(N:Nat)(item:Sp.By->σ->Option (Sp.By×σ))(I:World->Sp.By->σ->Prop)(J:World->Prop):Prop where
 rd:∀w l s,I w l s -> ∃tw dp fr,RD w R t l tw dp fr
 move:∀w w' l l' s tw dp fr,I w l s->RD w R t l tw dp fr->RD w' R t l' tw dp fr->Ad R w w'->l'.length<=l.length->I w' l' s
 out:∀w l s,I w l s->J w
 len:∀l s l' s',item l s=some (l',s')->l'.length<l.length
 call:∀w l s,I w l s->l.length<N->Calls Tryz.prog g caps w fun e w' =>
  (∃l' s',item l s=some (l',s')/\e = .returned (.bool true)/\I w' l' s')\/(item l s=none/\e = .returned (.bool false)/\J w')
def OY{σ:Type}(o:Option (Sp.By×σ))(e:Ending)(w':World)(I:World->Sp.By->σ->Prop)(J:World->Prop):Prop :=
 (∃l' s',o=some (l',s')/\e = .returned (.bool true)/\I w' l' s')\/(o=none/\e = .returned (.bool false)/\J w')
theorem T7{σ:Type}(p0 p1 p2:Value)(op cl:UInt8)(opn cln:Int)(hopn:opn=op.toNat)(hcln:cln=cl.toNat)(R:Nat)(t:ByteArray)(N:Nat)(item:Sp.By->σ->Option (Sp.By×σ))(I:World->Sp.By->σ->Prop)(J:World->Prop)
  (K:ItemOk 219 #[p0,p1,p2] R t N item I J) (w:World) (l:Sp.By) (s:σ) (hI:I w l s) (hN:l.length<=N) :
  Calls Tryz.prog 216 #[.pointer (some ⟨R,0,none⟩),.int .u8 opn,.int .u8 cln,.func (.func 219) #[] #[p0,p1,p2]] w fun e w'=>OY (Sp.Bh op cl item l s) e w' I J:=by
 obtain⟨tw,dp,fr,hr⟩:=K.rd _ _ _ hI;have HI:=Ab hI;have HO:=Ab hopn;have HC:=Ab hcln;clear hI hopn hcln;by_cases k1:Sp.tk l op=true
 ·have K1:=Ab k1;have hl1:=AO k1;clear k1
  go_enter func216,ntmps216
  go_wp2_with (fail);refine (Am op opn (Aa HO) hr (Aa K1)).mono ?_
  rintro e w1 ⟨rfl,hr1,hk1⟩
  go_wp2_with (fail);refine (B4 hr1).mono ?_
  rintro e w2 ⟨rfl,hr2,hk2⟩;have hsk:=Sp.AX l.tail;have I2:=Ab (K.move _ _ _ _ _ _ _ _ (Aa HI) hr hr2 (hk1.trans hk2) (by first|exact Nat.le_refl _|omega|(simp only[List.length_tail];omega)));by_cases k2:Sp.tk (Sp.skB l.tail) cl=true
  ·have K2:=Ab k2;clear k2
   go_wp2_with (fail);refine (Am cl cln (Aa HC) hr2 (Aa K2)).mono ?_
   rintro e w3 ⟨rfl,hr3,hk3⟩
   go_wp2_with (fail)
   go_ret;refine Or.inl ⟨_,s,?_,rfl,K.move _ _ _ _ _ _ _ _ (Aa I2) hr2 hr3 hk3 (by first|exact Nat.le_refl _|omega|(simp only[List.length_tail];omega))⟩
   unfold Sp.Bh;rw[Aa K1,Aa K2];rfl
  ·have K2:=Ab (Ak k2);clear k2
   go_wp2_with (fail);refine (AF cl cln (Aa HC) hr2 (Aa K2)).mono ?_
   rintro e w3 ⟨rfl,hr3,hk3⟩;have I3:=Ab (K.move _ _ _ _ _ _ _ _ (Aa I2) hr2 hr3 hk3 (by first|exact Nat.le_refl _|omega|(simp only[List.length_tail];omega)));have hE:Hid (Sp.Bh op cl item l s=Sp.lst cl item ((Sp.skB l.tail).length+1) (Sp.skB l.tail) s):=by
    unfold Hid Sp.Bh;rw[Aa K1,Aa K2];rfl
   have hb:(Sp.skB l.tail).length<N:=by omega
   generalize Sp.skB l.tail=l2 at *;clear hr hr1 hr2 hk1 hk2 hk3 K1 K2 HI I2 hl1 hsk hN
   go_wp2_with (fail)
   go_loopw [18] (fun _ wr=>∃ (n:Nat) (l':Sp.By) (s':σ),I wr l' s'/\l'.length<n/\l'.length<N/\Sp.lst cl item (l2.length+1) l2 s=Sp.lst cl item n l' s') (fun _ wr=>left wr R)
   case atStart=>exact⟨_,l2,s,Aa I3,Nat.lt_succ_self _,hb,rfl⟩
   case round =>
    obtain⟨n,l',s',hi,hn,hlN,he⟩:=hrel;obtain⟨m,rfl⟩:∃m,n=m+1:=⟨n-1,by omega⟩
    obtain⟨tw,dp,fr,hr⟩:=K.rd _ _ _ hi;have HI:=Ab hi;have HE:=Ab he;have HL:=Ab hr.left;have hsk:=Sp.AX l';clear hi he I3 hr3
    go_wp2_with (fail);refine (B4 hr).mono ?_
    rintro e w4 ⟨rfl,hr4,hk4⟩;have I4:=Ab (K.move _ _ _ _ _ _ _ _ (Aa HI) hr hr4 hk4 (by first|exact Nat.le_refl _|omega|(simp only[List.length_tail];omega)))
    go_wp2_with (fail);refine (K.call _ _ _ (Aa I4) (by omega)).mono ?_
    rintro e w5 hc;rcases hc with⟨l5,s5,hit,rfl,hI5⟩|⟨hit,rfl,hJ⟩
    ·obtain⟨tw5,dp5,fr5,hr5⟩:=K.rd _ _ _ hI5;have I5:=Ab hI5;have HIT:=Ab hit;have hl5:=K.len _ _ _ _ hit;have hsk5:=Sp.AX l5;clear hI5 hit
     go_wp2_with (fail);refine (B4 hr5).mono ?_
     rintro e w6 ⟨rfl,hr6,hk6⟩;have I6:=Ab (K.move _ _ _ _ _ _ _ _ (Aa I5) hr5 hr6 hk6 (by first|exact Nat.le_refl _|omega|(simp only[List.length_tail];omega)));by_cases k3:Sp.tk (Sp.skB l5) cl=true
     ·have K3:=Ab k3;clear k3
      go_wp2_with (fail);refine (Am cl cln (Aa HC) hr6 (Aa K3)).mono ?_
      rintro e w7 ⟨rfl,hr7,hk7⟩
      go_wp2_with (fail)
      go_ret;refine Or.inl ⟨_,s5,?_,rfl,K.move _ _ _ _ _ _ _ _ (Aa I6) hr6 hr7 hk7 (by first|exact Nat.le_refl _|omega|(simp only[List.length_tail];omega))⟩
      rw[Aa hE,Aa HE,Sp.lst,Aa HIT];simp only;rw[Aa K3];rfl
     ·have K3:=Ab (Ak k3);clear k3
      go_wp2_with (fail);refine (AF cl cln (Aa HC) hr6 (Aa K3)).mono ?_
      rintro e w7 ⟨rfl,hr7,hk7⟩;have I7:=Ab (K.move _ _ _ _ _ _ _ _ (Aa I6) hr6 hr7 hk7 (by first|exact Nat.le_refl _|omega|(simp only[List.length_tail];omega)));by_cases k4:Sp.tk (Sp.skB l5) 44=true
      ·have K4:=Ab k4;have hl4:=AO k4;clear k4
       go_wp2_with (fail);refine (Am 44 _ rfl hr7 (Aa K4)).mono ?_
       rintro e w8 ⟨rfl,hr8,hk8⟩;have I8:=Ab (K.move _ _ _ _ _ _ _ _ (Aa I7) hr7 hr8 hk8 (by first|exact Nat.le_refl _|omega|(simp only[List.length_tail];omega)))
       go_wp2_with (fail)
       go_roundw
       case rel =>
        refine⟨m,_,s5,Aa I8,by omega,by omega,?_⟩;rw[Aa HE,Sp.lst,Aa HIT];simp only;rw[Aa K3,Aa K4];rfl
       case measure=>rw[hr8.left,Aa HL];omega
      ·have K4:=Ab (Ak k4);clear k4
       go_wp2_with (fail);refine (AF 44 _ rfl hr7 (Aa K4)).mono ?_
       rintro e w8 ⟨rfl,hr8,hk8⟩
       go_wp2_with (fail)
       go_ret;refine Or.inr ⟨?_,rfl,K.out _ _ _ (K.move _ _ _ _ _ _ _ _ (Aa I7) hr7 hr8 hk8 (by first|exact Nat.le_refl _|omega|(simp only[List.length_tail];omega)))⟩
       rw[Aa hE,Aa HE,Sp.lst,Aa HIT];simp only;rw[Aa K3,Aa K4];rfl
    ·have HIT:=Ab hit;clear hit
     go_wp2_with (fail)
     go_ret;refine Or.inr ⟨?_,rfl,hJ⟩
     rw[Aa hE,Aa HE,Sp.lst,Aa HIT]
 ·have K1:=Ab (Ak k1);clear k1
  go_enter func216,ntmps216
  go_wp2_with (fail);refine (AF op opn (Aa HO) hr (Aa K1)).mono ?_
  rintro e w1 ⟨rfl,hr1,hk1⟩
  go_wp2_with (fail)
  go_ret;refine Or.inr ⟨?_,rfl,K.out _ _ _ (K.move _ _ _ _ _ _ _ _ (Aa HI) hr hr1 hk1 (by first|exact Nat.le_refl _|omega|(simp only[List.length_tail];omega)))⟩
  unfold Sp.Bh;rw[Aa K1];rfl
theorem T6{σ:Type}(p0 p1 p2:Value)(op cl:UInt8)(opn cln:Int)(hopn:opn=op.toNat)(hcln:cln=cl.toNat)(R:Nat)(t:ByteArray)(N:Nat)(item:Sp.By->σ->Option (Sp.By×σ))(I:World->Sp.By->σ->Prop)(J:World->Prop)
  (K:ItemOk 217 #[p0,p1,p2] R t N item I J) (w:World) (l:Sp.By) (s:σ) (hI:I w l s) (hN:l.length<=N) :
  Calls Tryz.prog 216 #[.pointer (some ⟨R,0,none⟩),.int .u8 opn,.int .u8 cln,.func (.func 217) #[] #[p0,p1,p2]] w fun e w'=>OY (Sp.Bh op cl item l s) e w' I J:=by
 obtain⟨tw,dp,fr,hr⟩:=K.rd _ _ _ hI;have HI:=Ab hI;have HO:=Ab hopn;have HC:=Ab hcln;clear hI hopn hcln;by_cases k1:Sp.tk l op=true
 ·have K1:=Ab k1;have hl1:=AO k1;clear k1
  go_enter func216,ntmps216
  go_wp2_with (fail);refine (Am op opn (Aa HO) hr (Aa K1)).mono ?_
  rintro e w1 ⟨rfl,hr1,hk1⟩
  go_wp2_with (fail);refine (B4 hr1).mono ?_
  rintro e w2 ⟨rfl,hr2,hk2⟩;have hsk:=Sp.AX l.tail;have I2:=Ab (K.move _ _ _ _ _ _ _ _ (Aa HI) hr hr2 (hk1.trans hk2) (by first|exact Nat.le_refl _|omega|(simp only[List.length_tail];omega)));by_cases k2:Sp.tk (Sp.skB l.tail) cl=true
  ·have K2:=Ab k2;clear k2
   go_wp2_with (fail);refine (Am cl cln (Aa HC) hr2 (Aa K2)).mono ?_
   rintro e w3 ⟨rfl,hr3,hk3⟩
   go_wp2_with (fail)
   go_ret;refine Or.inl ⟨_,s,?_,rfl,K.move _ _ _ _ _ _ _ _ (Aa I2) hr2 hr3 hk3 (by first|exact Nat.le_refl _|omega|(simp only[List.length_tail];omega))⟩
   unfold Sp.Bh;rw[Aa K1,Aa K2];rfl
  ·have K2:=Ab (Ak k2);clear k2
   go_wp2_with (fail);refine (AF cl cln (Aa HC) hr2 (Aa K2)).mono ?_
   rintro e w3 ⟨rfl,hr3,hk3⟩;have I3:=Ab (K.move _ _ _ _ _ _ _ _ (Aa I2) hr2 hr3 hk3 (by first|exact Nat.le_refl _|omega|(simp only[List.length_tail];omega)));have hE:Hid (Sp.Bh op cl item l s=Sp.lst cl item ((Sp.skB l.tail).length+1) (Sp.skB l.tail) s):=by
    unfold Hid Sp.Bh;rw[Aa K1,Aa K2];rfl
   have hb:(Sp.skB l.tail).length<N:=by omega
   generalize Sp.skB l.tail=l2 at *;clear hr hr1 hr2 hk1 hk2 hk3 K1 K2 HI I2 hl1 hsk hN
   go_wp2_with (fail)
   go_loopw [18] (fun _ wr=>∃ (n:Nat) (l':Sp.By) (s':σ),I wr l' s'/\l'.length<n/\l'.length<N/\Sp.lst cl item (l2.length+1) l2 s=Sp.lst cl item n l' s') (fun _ wr=>left wr R)
   case atStart=>exact⟨_,l2,s,Aa I3,Nat.lt_succ_self _,hb,rfl⟩
   case round =>
    obtain⟨n,l',s',hi,hn,hlN,he⟩:=hrel;obtain⟨m,rfl⟩:∃m,n=m+1:=⟨n-1,by omega⟩
    obtain⟨tw,dp,fr,hr⟩:=K.rd _ _ _ hi;have HI:=Ab hi;have HE:=Ab he;have HL:=Ab hr.left;have hsk:=Sp.AX l';clear hi he I3 hr3
    go_wp2_with (fail);refine (B4 hr).mono ?_
    rintro e w4 ⟨rfl,hr4,hk4⟩;have I4:=Ab (K.move _ _ _ _ _ _ _ _ (Aa HI) hr hr4 hk4 (by first|exact Nat.le_refl _|omega|(simp only[List.length_tail];omega)))
    go_wp2_with (fail);refine (K.call _ _ _ (Aa I4) (by omega)).mono ?_
    rintro e w5 hc;rcases hc with⟨l5,s5,hit,rfl,hI5⟩|⟨hit,rfl,hJ⟩
    ·obtain⟨tw5,dp5,fr5,hr5⟩:=K.rd _ _ _ hI5;have I5:=Ab hI5;have HIT:=Ab hit;have hl5:=K.len _ _ _ _ hit;have hsk5:=Sp.AX l5;clear hI5 hit
     go_wp2_with (fail);refine (B4 hr5).mono ?_
     rintro e w6 ⟨rfl,hr6,hk6⟩;have I6:=Ab (K.move _ _ _ _ _ _ _ _ (Aa I5) hr5 hr6 hk6 (by first|exact Nat.le_refl _|omega|(simp only[List.length_tail];omega)));by_cases k3:Sp.tk (Sp.skB l5) cl=true
     ·have K3:=Ab k3;clear k3
      go_wp2_with (fail);refine (Am cl cln (Aa HC) hr6 (Aa K3)).mono ?_
      rintro e w7 ⟨rfl,hr7,hk7⟩
      go_wp2_with (fail)
      go_ret;refine Or.inl ⟨_,s5,?_,rfl,K.move _ _ _ _ _ _ _ _ (Aa I6) hr6 hr7 hk7 (by first|exact Nat.le_refl _|omega|(simp only[List.length_tail];omega))⟩
      rw[Aa hE,Aa HE,Sp.lst,Aa HIT];simp only;rw[Aa K3];rfl
     ·have K3:=Ab (Ak k3);clear k3
      go_wp2_with (fail);refine (AF cl cln (Aa HC) hr6 (Aa K3)).mono ?_
      rintro e w7 ⟨rfl,hr7,hk7⟩;have I7:=Ab (K.move _ _ _ _ _ _ _ _ (Aa I6) hr6 hr7 hk7 (by first|exact Nat.le_refl _|omega|(simp only[List.length_tail];omega)));by_cases k4:Sp.tk (Sp.skB l5) 44=true
      ·have K4:=Ab k4;have hl4:=AO k4;clear k4
       go_wp2_with (fail);refine (Am 44 _ rfl hr7 (Aa K4)).mono ?_
       rintro e w8 ⟨rfl,hr8,hk8⟩;have I8:=Ab (K.move _ _ _ _ _ _ _ _ (Aa I7) hr7 hr8 hk8 (by first|exact Nat.le_refl _|omega|(simp only[List.length_tail];omega)))
       go_wp2_with (fail)
       go_roundw
       case rel =>
        refine⟨m,_,s5,Aa I8,by omega,by omega,?_⟩;rw[Aa HE,Sp.lst,Aa HIT];simp only;rw[Aa K3,Aa K4];rfl
       case measure=>rw[hr8.left,Aa HL];omega
      ·have K4:=Ab (Ak k4);clear k4
       go_wp2_with (fail);refine (AF 44 _ rfl hr7 (Aa K4)).mono ?_
       rintro e w8 ⟨rfl,hr8,hk8⟩
       go_wp2_with (fail)
       go_ret;refine Or.inr ⟨?_,rfl,K.out _ _ _ (K.move _ _ _ _ _ _ _ _ (Aa I7) hr7 hr8 hk8 (by first|exact Nat.le_refl _|omega|(simp only[List.length_tail];omega)))⟩
       rw[Aa hE,Aa HE,Sp.lst,Aa HIT];simp only;rw[Aa K3,Aa K4];rfl
    ·have HIT:=Ab hit;clear hit
     go_wp2_with (fail)
     go_ret;refine Or.inr ⟨?_,rfl,hJ⟩
     rw[Aa hE,Aa HE,Sp.lst,Aa HIT]
 ·have K1:=Ab (Ak k1);clear k1
  go_enter func216,ntmps216
  go_wp2_with (fail);refine (AF op opn (Aa HO) hr (Aa K1)).mono ?_
  rintro e w1 ⟨rfl,hr1,hk1⟩
  go_wp2_with (fail)
  go_ret;refine Or.inr ⟨?_,rfl,K.out _ _ _ (K.move _ _ _ _ _ _ _ _ (Aa HI) hr hr1 hk1 (by first|exact Nat.le_refl _|omega|(simp only[List.length_tail];omega)))⟩
  unfold Sp.Bh;rw[Aa K1];rfl
end

section
open Go.RowKit
def Fi(f:Nat)(lv:Int)(l:Sp.By)(fl:Sp.Fl)(e:Ending)(w w':World)(R:Nat)(t:ByteArray):Prop :=
 (∃d r fl' p,Sp.val f lv l fl=some (d,r,fl')/\e = .returned (.tuple #[.pointer p,.bool true])/\RD w' R t r fl'.1 fl'.2.1 fl'.2.2/\Tr f w.heap.size w' (.pointer p) d) \/
  (Sp.val f lv l fl=none /\ ∃p,e = .returned (.tuple #[.pointer p,.bool false]) /\ ∃r tw dp fr,RD w' R t r tw dp fr)
def EM(f:Nat):Prop:=∀ (R:Nat) (t:ByteArray) (lv:Int) (l:Sp.By) (tw:Bool) (dp fr:Int) (w:World),RD w R t l tw dp fr->Af w->NG<=R->l.length<f->0<=lv->lv+f<=5000 ->
 Calls Tryz.prog 137 #[.pointer (some ⟨R,0,none⟩),.int .i64 lv] w fun e w'=>Ad R w w'/\Fi f lv l (tw,dp,fr) e w w' R t
structure DS(w0:World)(R p0 p1 p2 vb N1:Nat):Prop where
 r:R<w0.heap.size
 ng:NG<=R
 a0:w0.heap.size<=p0/\p0<N1
 a1:w0.heap.size<=p1/\p1<N1
 a2:w0.heap.size<=p2/\p2<N1
 av:w0.heap.size<=vb/\vb<N1
 d0:p0≠vb
 d1:p1≠vb
 d2:p2≠vb
structure JE(f R:Nat)(t:ByteArray)(lv:Int)(w0:World)(p0 p1 p2 vb N1:Nat)(w:World)(l:Sp.By)(s:List Sp.V×Sp.Fl):Prop where
 rd:RD w R t l s.2.1 s.2.2.1 s.2.2.2
 kept:Ad R w0 w
 laid:Af w
 b0:w.heap[p0]? = some (.cells #[.pointer (some ⟨R,0,none⟩)] 153 (0,0))
 b1:w.heap[p1]? = some (.cells #[.int .i64 lv] 3 (0,0))
 b2:w.heap[p2]? = some (.cells #[.pointer (some ⟨vb,0,none⟩)] 80 (0,0))
 sz:N1<=w.heap.size
 len:s.1.length+l.length<=2001
 el:∃sl ps,VB w vb 5 n0 [] sl (.map none)/\w.ownsRow N1 80 1 sl ps.length ps/\TrL f N1 sl.ownBlock w ps s.1
def RdJ(R:Nat)(t:ByteArray)(w0:World)(p2 vb:Nat)(w:World):Prop:=Ad R w0 w/\(∃l tw dp fr,RD w R t l tw dp fr)/\w.heap[p2]? = some (.cells #[.pointer (some ⟨vb,0,none⟩)] 80 (0,0))
theorem QD:(Tryz.prog.info? 80).map (fun i=>(i.zero,i.size,i.bytes))=some (some (.pointer none),1,8):=by kernel_rfl
theorem Po{f R:Nat}{t:ByteArray}{lv:Int}{w0:World}{p0 p1 p2 vb N1:Nat}(B:DS w0 R p0 p1 p2 vb N1){w w2 w3:World}{l r:Sp.By}{s:List Sp.V×Sp.Fl}(hI:JE f R t lv w0 p0 p1 p2 vb N1 w l s)(hk2:Ad R w w2)
  {tw:Bool} {dp fr:Int} (hr2:RD w2 R t r tw dp fr) {sl:Value} {ps:List Value} (hvb:VB w vb 5 n0 [] sl (.map none)) (hown:w.ownsRow N1 80 1 sl ps.length ps) (hal:TrL f N1 sl.ownBlock w ps s.1)
  {p:Option Addr} {o:Obj} {g cap:Nat} (hown3:w3.ownsRow N1 80 1 (.slice (some ⟨g,0,none⟩) (ps.length+1) cap) (ps.length+1) (ps++[.pointer p])) (hgrow:(w2.alloc o).grownBy w3 sl.ownBlock) (hat:sl.ownBlock=some g\/g=w2.heap.size+1) :
  Ad R w0 (w3.setCell ⟨vb,5,none⟩ (.slice (some ⟨g,0,none⟩) (ps.length+1) cap))/\RD (w3.setCell ⟨vb,5,none⟩ (.slice (some ⟨g,0,none⟩) (ps.length+1) cap)) R t r tw dp fr /\
  (w3.setCell ⟨vb,5,none⟩ (.slice (some ⟨g,0,none⟩) (ps.length+1) cap)).heap[p2]? = some (.cells #[.pointer (some ⟨vb,0,none⟩)] 80 (0,0)) /\
  ∀ (d:Sp.V) (fl:Sp.Fl),fl=(tw,dp,fr)->Tr f w.heap.size w2 (.pointer p) d->r.length<l.length->JE f R t lv w0 p0 p1 p2 vb N1 (w3.setCell ⟨vb,5,none⟩ (.slice (some ⟨g,0,none⟩) (ps.length+1) cap)) r (s.1++[d],fl):=by
 have bR:=B.r;have a0:=B.a0;have a1:=B.a1;have a2:=B.a2;have av:=B.av;have d0:=B.d0;have d1:=B.d1;have d2:=B.d2;have hsz:=hI.sz;have hs2:=hk2.size;have gs:=hgrow.size;have hsa:(w2.alloc o).heap.size=w2.heap.size+1:=by simp
 -- blocks of w2 that are no elements' row
 have k3:∀k,k<w2.heap.size->some k≠sl.ownBlock->w3.heap[k]? = w2.heap[k]?:=fun k h1 h2=>(hgrow.block k (by omega) h2).trans (Below.heap_alloc w2 o k h1);have nlow:∀k,k<N1->some k≠sl.ownBlock:=fun k hk h=>by have:=(AA hown k h.symm).2;omega
 have k4:∀k,k<w2.heap.size->some k≠sl.ownBlock->k≠vb->(w3.setCell ⟨vb,5,none⟩ (.slice (some ⟨g,0,none⟩) (ps.length+1) cap)).heap[k]? = w2.heap[k]?:=fun k h1 h2 h3=>(Below.heap_setCell _ _ _ _ h3).trans (k3 k h1 h2);have hg:N1<=g:=(AA hown3 g rfl).2;have kx:Ad R w0 (w3.setCell ⟨vb,5,none⟩ (.slice (some ⟨g,0,none⟩) (ps.length+1) cap)):=by
  have hk:=hI.kept.trans hk2;refine⟨hgrow.os.trans hk.os,hgrow.tape.trans hk.tape,hgrow.output.trans hk.output,?_,?_⟩
  ·have:=hk.size;simp[World.setCell];omega
  ·intro k h1 h2;exact (k4 k (by have:=hk.size;omega) (nlow k (by omega)) (by omega)).trans (hk.block k h1 h2)
 have hrd:RD (w3.setCell ⟨vb,5,none⟩ (.slice (some ⟨g,0,none⟩) (ps.length+1) cap)) R t r tw dp fr:=by
  obtain⟨q,ha,hq⟩:=hr2;exact⟨q,ha,(k4 R (RP.lt hq) (nlow R (by omega)) (by omega)).trans hq⟩
 have box:∀ (k:Nat) (ob:Obj),w0.heap.size<=k->k<N1->k≠vb->w.heap[k]? = some ob->(w3.setCell ⟨vb,5,none⟩ (.slice (some ⟨g,0,none⟩) (ps.length+1) cap)).heap[k]? = some ob:=fun k ob h1 h2 h3 h4 =>
  (k4 k (by omega) (nlow k h2) h3).trans ((hk2.block k (by omega) (by omega)).trans h4)
 refine⟨kx,hrd,box _ _ a2.1 a2.2 d2 hI.b2,?_⟩;rintro d fl rfl hrep hlen;refine⟨hrd,kx,hI.laid.below ⟨hgrow.os.trans hk2.os,hgrow.tape.trans hk2.tape,hgrow.output.trans hk2.output,by simp[World.setCell];omega,fun k hk=>(k4 k (by have:=B.ng;have:=hI.laid.ng;omega) (nlow k (by have:=B.ng;omega)) (by have:=B.ng;omega)).trans (hk2.block k (by have:=hI.laid.ng;omega) (by have:=B.ng;omega))⟩,box _ _ a0.1 a0.2 d0 hI.b0,box _ _ a1.1 a1.2 d1 hI.b1,box _ _ a2.1 a2.2 d2 hI.b2,by simp[World.setCell];omega,by have:=hI.len;simp only[List.length_append,List.length_cons,List.length_nil];omega,?_⟩;refine⟨.slice (some ⟨g,0,none⟩) (ps.length+1) cap,ps++[.pointer p],?_,?_,?_⟩
 ·have h5:=(k3 vb (by omega) (nlow vb (by omega))).trans (hvb.kept (hk2.block vb hvb.lt (by omega)));simp only[VB,World.setCell,Array.getElem?_modify];rw[if_pos trivial,h5];rfl
 ·have:(ps++[Value.pointer p]).length=ps.length+1:=by simp
  rw[this];exact AZ hown3 (fun g' hg'=>by
   have:g'=g:=by simpa[Value.ownBlock] using hg'.symm
   subst this;exact Below.heap_setCell _ _ _ _ (show g'≠vb by omega))
 ·refine TrL.snoc hal hrep hsz ?_ ?_
  ·intro k h0 h1 h2;have h3:some k≠sl.ownBlock:=fun h=>h1 h.symm;refine⟨(k4 k (by omega) h3 (by omega)).trans (hk2.block k h2 (by omega)),?_⟩;intro h;have hgk:g=k:=by simpa[Value.ownBlock] using h
   rcases hat with h4|h4
   ·exact h3 (by rw[h4,hgk])
   ·omega
  ·intro k h1 h2;have h3:some k≠sl.ownBlock:=fun h=>by have:=(AA hown k h.symm).1;omega
   refine⟨k4 k h2 h3 (by omega),?_⟩;intro h;have hgk:g=k:=by simpa[Value.ownBlock] using h
   rcases hat with h4|h4
   ·exact h3 (by rw[h4,hgk])
   ·omega
end

section
set_option maxRecDepth 100000
set_option maxHeartbeats 4000000
open Go.RowKit
theorem UZ{f R:Nat}{t:ByteArray}{lv:Int}{w0:World}{p0 p1 p2 vb N1:Nat}(B:DS w0 R p0 p1 p2 vb N1)(hV:EM f)(hlv:0<=lv)(w:World)(l:Sp.By)(s:List Sp.V×Sp.Fl)(hI:JE f R t lv w0 p0 p1 p2 vb N1 w l s)(hl:l.length<f)(hb:lv+f<=4999) :
  Calls Tryz.prog 219 #[.pointer (some ⟨p0,0,none⟩),.pointer (some ⟨p1,0,none⟩),.pointer (some ⟨p2,0,none⟩)] w fun e w' =>
  (∃l' s',Sp.C7 (Sp.val f (lv+1)) l s=some (l',s')/\e = .returned (.bool true)/\JE f R t lv w0 p0 p1 p2 vb N1 w' l' s')\/(Sp.C7 (Sp.val f (lv+1)) l s=none/\e = .returned (.bool false)/\RdJ R t w0 p2 vb w'):=by
 obtain⟨i0,hi0,hz0,hz1,hz2⟩:=info_parts QD;have c0:w.cell? ⟨p0,0,none⟩=some (.pointer (some ⟨R,0,none⟩)):=by simp[World.cell?,hI.b0]
 have c1:w.cell? ⟨p1,0,none⟩=some (.int .i64 lv):=by simp[World.cell?,hI.b1]
 have hlv2:lv<=4999:=by omega
 go_enter func219,ntmps219
 go_wp2_with (fail);refine (hV R t (lv+1) l _ _ _ w hI.rd hI.laid B.ng hl (by omega) (by omega)).mono ?_
 rintro e w2 ⟨hk2,hc⟩;clear c0 c1;obtain⟨sl,ps,hvb,hown,hal⟩:=hI.el;have bR:=B.r;have a2:=B.a2;have av:=B.av;have d2:=B.d2;have hsz:=hI.sz;have hb2:w2.heap[p2]? = some (.cells #[.pointer (some ⟨vb,0,none⟩)] 80 (0,0)):=(hk2.block p2 (by omega) (by omega)).trans hI.b2;have hvb2:=hvb.kept (hk2.block vb hvb.lt (by omega));have hown2:=AZ hown (fun g hg=>hk2.block g (AA hown g hg).1 (by have:=(AA hown g hg).2;omega));have q2:w2.cell? ⟨p2,0,none⟩=some (.pointer (some ⟨vb,0,none⟩)):=by simp[World.cell?,hb2]
 have q5:w2.cell? ⟨vb,5,none⟩=some sl:=by simp[World.cell?,show w2.heap[vb]? = _ from hvb2]
 have z5:w2.frozen? ⟨vb,5,none⟩=false:=by simp[World.frozen?,show w2.heap[vb]? = _ from hvb2]
 have hs2:=hk2.size;have hw2:=(Array.getElem?_eq_some_iff.1 hb2).1;have hwv:=hvb2.lt;have n2:some p2≠sl.ownBlock:=fun h=>by have:=(AA hown _ h.symm).2;omega
 have nv:some vb≠sl.ownBlock:=fun h=>by have:=(AA hown _ h.symm).2;omega
 have q2':∀o,(w2.alloc o).cell? ⟨p2,0,none⟩=some (.pointer (some ⟨vb,0,none⟩)):=fun o=>by rw[World.cell?_of_block (w:=w2) (Below.heap_alloc w2 o p2 hw2)];exact q2
 have q5':∀o,(w2.alloc o).cell? ⟨vb,5,none⟩=some sl:=fun o=>by rw[World.cell?_of_block (w:=w2) (Below.heap_alloc w2 o vb hwv)];exact q5
 have z5':∀o,(w2.alloc o).frozen? ⟨vb,5,none⟩=false:=fun o=>by rw[World.frozen?_of_block (w:=w2) (Below.heap_alloc w2 o vb hwv)];exact z5
 have hpl:ps.length<=2001:=by have:=hal.length;have:=hI.len;omega
 rcases hc with⟨d,r,fl',p,hs,rfl,hr2,hrep⟩|⟨hs,p,rfl,r,tw,dp,fr,hr2⟩
 ·have HS:=Ab hs;clear hs
  go_wp2_with (fail)
  go_region_law ((refine step_append_lies _ (by rfl) _ _ _ (by rfl) N1 80 i0 _ 1 8 underlying106 hi0 hz0 hz1 hz2 rfl (by decide) sl ps.length ps (by rfl) ((hown2.alloc _).drew) ⟨w2.heap.size,0,none⟩ 1 1 [.pointer p] (by rfl) (by rfl) (World.news_of_block (cs:=#[.pointer p]) (t:=80) (fr:=(0,0)) (heap_alloc_new w2 _)) (by simp[Value.oneCell']) (by decide) (by unfold maxLen;omega) (by omega) (by simp;omega) (w2.heap.size+1) (by simp) ?_;intro g cap w3 hown3 hgrow hat hlt;have zz:w3.frozen? ⟨vb,5,none⟩=false:=(hgrow.frozen_far ⟨vb,5,none⟩ (by simp;omega) nv).trans (z5' _);have yy:w3.cell? ⟨vb,5,none⟩=some sl:=(hgrow.cell_far ⟨vb,5,none⟩ (by simp;omega) nv).trans (q5' _);have xx:w3.cell? ⟨p2,0,none⟩=some (.pointer (some ⟨vb,0,none⟩)):=(hgrow.cell_far ⟨p2,0,none⟩ (by simp;omega) n2).trans (q2' _)))
  all_goals (
   have hf:=Po B hI hk2 hr2 hvb hown hal hown3 (World.grownBy.mk hgrow.os hgrow.tape hgrow.output hgrow.size hgrow.block) hat
   have hlen:=Sp.Ep _ _ _ _ _ _ _ (Aa HS)
   go_wp2_with (fail)
   go_ret;refine Or.inl ⟨r,(s.1++[d],fl'),?_,rfl,hf.2.2.2 d fl' rfl hrep hlen⟩
   unfold Sp.C7;have:=Aa HS;rw[show (s.2.1,s.2.2.1,s.2.2.2)=s.2 from rfl] at this;rw[this])
 ·have HS:=Ab hs;clear hs
  go_wp2_with (fail)
  go_region_law ((refine step_append_lies _ (by rfl) _ _ _ (by rfl) N1 80 i0 _ 1 8 underlying106 hi0 hz0 hz1 hz2 rfl (by decide) sl ps.length ps (by rfl) ((hown2.alloc _).drew) ⟨w2.heap.size,0,none⟩ 1 1 [.pointer p] (by rfl) (by rfl) (World.news_of_block (cs:=#[.pointer p]) (t:=80) (fr:=(0,0)) (heap_alloc_new w2 _)) (by simp[Value.oneCell']) (by decide) (by unfold maxLen;omega) (by omega) (by simp;omega) (w2.heap.size+1) (by simp) ?_;intro g cap w3 hown3 hgrow hat hlt;have zz:w3.frozen? ⟨vb,5,none⟩=false:=(hgrow.frozen_far ⟨vb,5,none⟩ (by simp;omega) nv).trans (z5' _);have yy:w3.cell? ⟨vb,5,none⟩=some sl:=(hgrow.cell_far ⟨vb,5,none⟩ (by simp;omega) nv).trans (q5' _);have xx:w3.cell? ⟨p2,0,none⟩=some (.pointer (some ⟨vb,0,none⟩)):=(hgrow.cell_far ⟨p2,0,none⟩ (by simp;omega) n2).trans (q2' _)))
  all_goals (
   have hf:=Po B hI hk2 hr2 hvb hown hal hown3 (World.grownBy.mk hgrow.os hgrow.tape hgrow.output hgrow.size hgrow.block) hat
   go_wp2_with (fail)
   go_ret;refine Or.inr ⟨?_,rfl,hf.1,⟨r,tw,dp,fr,hf.2.1⟩,hf.2.2.1⟩
   unfold Sp.C7;have:=Aa HS;rw[show (s.2.1,s.2.2.1,s.2.2.2)=s.2 from rfl] at this;rw[this])
end

section
set_option maxHeartbeats 4000000
open Go.RowKit
def Yb(f:Nat)(lv:Int)(l:Sp.By)(fl:Sp.Fl)(e:Ending)(w w':World)(R:Nat)(t:ByteArray):Prop :=
 (∃es r fl' p,Sp.Bh 91 93 (Sp.C7 (Sp.val f (lv+1))) l ([],fl)=some (r,(es,fl'))/\e = .returned (.tuple #[.pointer p,.bool true])/\RD w' R t r fl'.1 fl'.2.1 fl'.2.2/\Tr (f+1) w.heap.size w' (.pointer p) (Sp.Ar es)) \/
  (Sp.Bh 91 93 (Sp.C7 (Sp.val f (lv+1))) l ([],fl)=none /\ ∃p,e = .returned (.tuple #[.pointer p,.bool false]) /\ ∃r tw dp fr,RD w' R t r tw dp fr)
theorem Jt(f:Nat)(lv:Int)(l:Sp.By)(s:List Sp.V×Sp.Fl)(l':Sp.By)(s':List Sp.V×Sp.Fl)(h:Sp.C7 (Sp.val f lv) l s=some (l',s')):l'.length<l.length:=by
 unfold Sp.C7 at h;split at h
 ·cases h
 ·rename_i v r fl hv;have:=Sp.Ep _ _ _ _ _ _ _ hv;injection h with h;injection h with h1 h2;subst h1;exact this
theorem Ya{f R:Nat}{t:ByteArray}{lv:Int}{w0:World}{p0 p1 p2 vb N1:Nat}(B:DS w0 R p0 p1 p2 vb N1)(hV:EM f)(hlv:0<=lv)(hb:lv+f<=4999) :
  ItemOk 219 #[.pointer (some ⟨p0,0,none⟩),.pointer (some ⟨p1,0,none⟩),.pointer (some ⟨p2,0,none⟩)] R t f (Sp.C7 (Sp.val f (lv+1))) (JE f R t lv w0 p0 p1 p2 vb N1) (RdJ R t w0 p2 vb) where
 rd:=fun w l s h=>⟨_,_,_,h.rd⟩
 move:=fun w w' l l' s tw dp fr h h1 h2 hk hl=>by
  obtain⟨_,_,e1,e2,e3⟩:=h.rd.uniq h1;have bR:=B.r;have hsz:=h.sz;have a0:=B.a0;have a1:=B.a1;have a2:=B.a2;have av:=B.av;refine⟨by rw[e1,e2,e3];exact h2,h.kept.trans hk,h.laid.kept hk B.ng,(hk.block p0 (by omega) (by omega)).trans h.b0,(hk.block p1 (by omega) (by omega)).trans h.b1,(hk.block p2 (by omega) (by omega)).trans h.b2,by have:=hk.size;omega,by have:=h.len;omega,?_⟩;obtain⟨sl,ps,hvb,hown,hal⟩:=h.el;refine⟨sl,ps,hvb.kept (hk.block vb hvb.lt (by omega)),AZ hown (fun g hg=>hk.block g (AA hown g hg).1 (by have:=(AA hown g hg).2;omega)),hal.move fun k h3 h5 h4=>⟨hk.block k h4 (by omega),h5⟩⟩
 out:=fun w l s h=>⟨h.kept,⟨_,_,_,_,h.rd⟩,h.b2⟩
 len:=fun l s l' s' h=>Jt _ _ _ _ _ _ h
 call:=fun w l s h hl=>UZ B hV hlv w l s h hl hb
theorem Hl{w:World}{B B' e n:Nat}{v:Value}{xs:List Value}(h:w.ownsRow B e 1 v n xs)(hB:B'<=B):w.ownsRow B' e 1 v n xs :=
 ⟨h.1,h.2.imp id fun ⟨g,cap,cur,a,b,c⟩=>⟨g,cap,cur,a,Nat.le_trans hB b,c⟩⟩
theorem Y5(w:World)(o0 o1 o2 o3:Obj):((((w.alloc o0).alloc o1).alloc o2).alloc o3).heap[w.heap.size]? = some o0/\((((w.alloc o0).alloc o1).alloc o2).alloc o3).heap[w.heap.size+1]? = some o1 /\
  ((((w.alloc o0).alloc o1).alloc o2).alloc o3).heap[w.heap.size+1+1]? = some o2/\((((w.alloc o0).alloc o1).alloc o2).alloc o3).heap[w.heap.size+1+1+1]? = some o3:=by
 have h (k:Nat):((((w.alloc o0).alloc o1).alloc o2).alloc o3).heap[k]? = ((((w.heap.push o0).push o1).push o2).push o3)[k]?:=rfl;rw[h,h,h,h];simp only[Array.getElem?_push,Array.size_push];refine⟨?_,?_,?_,?_⟩
 ·rw[if_neg (by omega),if_neg (by omega),if_neg (by omega),if_pos trivial]
 ·rw[if_neg (by omega),if_neg (by omega),if_pos trivial]
 ·rw[if_neg (by omega),if_pos trivial]
 ·rw[if_pos trivial]
theorem WS{f R:Nat}{t:ByteArray}{lv:Int}{w0:World}{p0 p1 p2 vb N1:Nat}(B:DS w0 R p0 p1 p2 vb N1){w:World}{l:Sp.By}{s:List Sp.V×Sp.Fl}(h:JE f R t lv w0 p0 p1 p2 vb N1 w l s) :
  Tr (f+1) w0.heap.size w (.pointer (some ⟨vb,0,none⟩)) (Sp.Ar s.1):=by
 have av:=B.av;obtain⟨sl,ps,hvb,hown,hal⟩:=h.el;exact hal.arr av.1 av.2 hvb (Hl hown (Nat.zero_le _)) fun g hg=>(AA hown g hg).2
theorem ST{f R:Nat}{t:ByteArray}{lv:Int}{l:Sp.By}{tw:Bool}{dp fr:Int}{w:World}(hV:EM f)(h:RD w R t l tw dp fr)(hT:Af w)(hR:NG<=R)(hl:l.length<=f)(hlv:0<=lv)(hb:lv+f<=4999) :
  Calls Tryz.prog 181 #[.pointer (some ⟨R,0,none⟩),.int .i64 lv] w fun e w'=>Ad R w w'/\Yb f lv l (tw,dp,fr) e w w' R t:=by
 have hRl:=h.lt;have h2000:l.length<=2000:=by obtain⟨p,ha,_⟩:=h;have:=ha.len;have:=ha.small;omega
 have B:DS w R w.heap.size (w.heap.size+1) (w.heap.size+1+1+1) (w.heap.size+1+1) (w.heap.size+4):=⟨hRl,hR,by omega,by omega,by omega,by omega,by omega,by omega,by omega⟩
 have hI:Hid (∀W,W=((((w.alloc (.cells #[.pointer (some ⟨R,0,none⟩)] 153)).alloc (.cells #[.int .i64 lv] 3)).alloc (.cells #[.int .i64 5,.bool false,.string ⟨#[]⟩,.int .i64 0,.string ⟨#[]⟩,.slice none 0 0,.map none] 111)).alloc (.cells #[.pointer (some ⟨w.heap.size+1+1,0,none⟩)] 80)) ->
   JE f R t lv w w.heap.size (w.heap.size+1) (w.heap.size+1+1+1) (w.heap.size+1+1) (w.heap.size+4) W l ([],(tw,dp,fr))):=by
  rintro W rfl;have hf:=Y5 w (.cells #[.pointer (some ⟨R,0,none⟩)] 153) (.cells #[.int .i64 lv] 3) (.cells #[.int .i64 5,.bool false,.string ⟨#[]⟩,.int .i64 0,.string ⟨#[]⟩,.slice none 0 0,.map none] 111) (.cells #[.pointer (some ⟨w.heap.size+1+1,0,none⟩)] 80);have hk:=((((Ad.refl R w).alloc (.cells #[.pointer (some ⟨R,0,none⟩)] 153)).alloc (.cells #[.int .i64 lv] 3)).alloc (.cells #[.int .i64 5,.bool false,.string ⟨#[]⟩,.int .i64 0,.string ⟨#[]⟩,.slice none 0 0,.map none] 111)).alloc (.cells #[.pointer (some ⟨w.heap.size+1+1,0,none⟩)] 80);refine⟨(((h.alloc _).alloc _).alloc _).alloc _,hk,hT.kept hk hR,hf.1,hf.2.1,hf.2.2.2,by simp,by simp;omega,.slice none 0 0,[],hf.2.2.1,World.ownsRow_nil _ _ _ _,TrL.nil _ _ _ _⟩
 have K:=Ya (t:=t) B hV hlv hb;clear hT
 go_enter func181,ntmps181
 go_wp2_with (fail);refine (T7 _ _ _ 91 93 91 93 rfl rfl R t f _ _ _ K _ l ([],(tw,dp,fr)) (Aa hI _ rfl) hl).mono ?_
 rintro e w5 hc;rcases hc with⟨l',s',hs,rfl,hI5⟩|⟨hs,rfl,hJ⟩
 ·have HS:=Ab hs;have hb2:=hI5.b2;have q2:w5.cell? ⟨w.heap.size+1+1+1,0,none⟩=some (.pointer (some ⟨w.heap.size+1+1,0,none⟩)):=by simp[World.cell?,hb2]
  have HI:=Ab hI5;clear hs hI5 hb2 hI
  go_wp2_with (fail)
  go_ret2
  refine⟨(Aa HI).kept,Or.inl ⟨s'.1,l',s'.2,_,Aa HS,rfl,(Aa HI).rd,WS B (Aa HI)⟩⟩
 ·have HS:=Ab hs;have hb2:=hJ.2.2;have q2:w5.cell? ⟨w.heap.size+1+1+1,0,none⟩=some (.pointer (some ⟨w.heap.size+1+1,0,none⟩)):=by simp[World.cell?,hb2]
  have HJ:=Ab hJ;clear hs hJ hb2 hI
  go_wp2_with (fail)
  go_ret2
  exact⟨(Aa HJ).1,Or.inr ⟨Aa HS,_,rfl,(Aa HJ).2.1⟩⟩
end

section
open Go.RowKit
structure F4(f R:Nat)(t:ByteArray)(lv:Int)(w0:World)(p0 p1 p2 vb m N1:Nat)(w:World)(l:Sp.By)(s:Sp.V×Sp.Fl):Prop where
 rd:RD w R t l s.2.1 s.2.2.1 s.2.2.2
 kept:Ad R w0 w
 laid:Af w
 b0:w.heap[p0]? = some (.cells #[.pointer (some ⟨R,0,none⟩)] 153 (0,0))
 b1:w.heap[p1]? = some (.cells #[.int .i64 lv] 3 (0,0))
 b2:w.heap[p2]? = some (.cells #[.pointer (some ⟨vb,0,none⟩)] 80 (0,0))
 sz:N1<=w.heap.size
 bm:w0.heap.size<=m/\m<N1/\m≠p0/\m≠p1/\m≠p2/\m≠vb
 hvb:VB w vb 6 n0 [] (.slice none 0 0) (.map (some m))
 el:∃n D es,n+l.length<=2001/\s.1=Sp.Av es/\w.ownsMap Tryz.prog 9 RV m n (.map D)/\TrM f N1 w D es
theorem MT{f R:Nat}{t:ByteArray}{lv:Int}{w0:World}{p0 p1 p2 vb m N1:Nat}(B:DS w0 R p0 p1 p2 vb N1){w w':World}{l l':Sp.By}{s:Sp.V}{fl fl':Sp.Fl}(h:F4 f R t lv w0 p0 p1 p2 vb m N1 w l (s,fl))(hr:RD w' R t l' fl'.1 fl'.2.1 fl'.2.2)(hk:Ad R w w')(hl:l'.length<=l.length) :
  F4 f R t lv w0 p0 p1 p2 vb m N1 w' l' (s,fl'):=by
 have bR:=B.r;have hsz:=h.sz;have a0:=B.a0;have a1:=B.a1;have a2:=B.a2;have av:=B.av;have bm:=h.bm;refine⟨hr,h.kept.trans hk,h.laid.kept hk B.ng,(hk.block p0 (by omega) (by omega)).trans h.b0,(hk.block p1 (by omega) (by omega)).trans h.b1,(hk.block p2 (by omega) (by omega)).trans h.b2,by have:=hk.size;omega,bm,h.hvb.kept (hk.block vb h.hvb.lt (by omega)),?_⟩;obtain⟨n,D,es,hn,he,ho,hp⟩:=h.el;refine⟨n,D,es,by omega,he,AJ ho (hk.block m (B0 ho) (by omega)),hp.move fun k h3 h4=>hk.block k h4 (by omega)⟩
theorem Ip{f R:Nat}{t:ByteArray}{lv:Int}{w0:World}{p0 p1 p2 vb m N1:Nat}(B:DS w0 R p0 p1 p2 vb N1){w w5 w6:World}{l r:Sp.By}{s:Sp.V×Sp.Fl}(hI:F4 f R t lv w0 p0 p1 p2 vb m N1 w l s)(hk:Ad R w w5)
  {tw:Bool} {dp fr:Int} (hr5:RD w5 R t r tw dp fr) {n:Nat} {D:List (Lit×DataW Value)} {es:List (Lit×Sp.V)} (hn:n+l.length<=2001) (he:s.1=Sp.Av es) (hp:TrM f N1 w D es)
  {x:Value} {k:Lit} (hown6:w6.ownsMap Tryz.prog 9 RV m (n+1) (DataW.put (.map D) k (.held x))) (hgrow:w5.grownBy w6 (some m)) :
  Ad R w0 w6/\RD w6 R t r tw dp fr/\w6.heap[p2]? = some (.cells #[.pointer (some ⟨vb,0,none⟩)] 80 (0,0)) /\
  ∀ (d:Sp.V),Tr f w.heap.size w5 x d->r.length<l.length->F4 f R t lv w0 p0 p1 p2 vb m N1 w6 r (DataW.put s.1 k d,(tw,dp,fr)):=by
 have bR:=B.r;have hsz:=hI.sz;have a0:=B.a0;have a1:=B.a1;have a2:=B.a2;have av:=B.av;have bm:=hI.bm;have hs5:=hk.size;have gs:=hgrow.size;have k6:∀j,j<w5.heap.size->j≠m->w6.heap[j]? = w5.heap[j]?:=fun j h1 h2=>hgrow.block j h1 (by simpa using h2);have kx:Ad R w0 w6:=by
  have hk0:=hI.kept.trans hk;refine⟨hgrow.os.trans hk0.os,hgrow.tape.trans hk0.tape,hgrow.output.trans hk0.output,by have:=hk0.size;omega,fun j h1 h2=>(k6 j (by have:=hk0.size;omega) (by omega)).trans (hk0.block j h1 h2)⟩
 have hrd:RD w6 R t r tw dp fr:=by
  obtain⟨q,ha,hq⟩:=hr5;exact⟨q,ha,(k6 R (RP.lt hq) (by omega)).trans hq⟩
 have box:∀ (j:Nat) (ob:Obj),w0.heap.size<=j->j<N1->j≠m->w.heap[j]? = some ob->w6.heap[j]? = some ob:=fun j ob h1 h2 h3 h4 =>
  (k6 j (by omega) h3).trans ((hk.block j (by omega) (by omega)).trans h4)
 refine⟨kx,hrd,box _ _ a2.1 a2.2 (by omega) hI.b2,?_⟩;intro d hrep hlen;refine⟨hrd,kx,hI.laid.below ⟨hgrow.os.trans hk.os,hgrow.tape.trans hk.tape,hgrow.output.trans hk.output,by omega,fun j hj=>(k6 j (by have:=hI.laid.ng;omega) (by have:=B.ng;omega)).trans (hk.block j (by have:=hI.laid.ng;omega) (by have:=B.ng;omega))⟩,
  box _ _ a0.1 a0.2 (by omega) hI.b0,box _ _ a1.1 a1.2 (by omega) hI.b1,box _ _ a2.1 a2.2 (by omega) hI.b2,by omega,bm,box _ _ av.1 av.2 (by omega) hI.hvb,?_⟩
 obtain⟨D',es',e1,e2,hp'⟩:=hp.put (k:=k) (w6:=w6) hrep hsz (fun j h1 h2=>(k6 j (by omega) (by omega)).trans (hk.block j h2 (by omega))) (fun j h1 h2=>k6 j h2 (by omega));refine⟨n+1,D',es',by omega,?_,?_,hp'⟩
 ·rw[he];exact e2
 ·rw[<- e1];exact hown6
theorem Pk(f:Nat):∀ (l s r:Sp.By),Sp.CN f l=some (s,r)->s.length+4*r.length<=4*l.length:=by
 induction f with
 | zero=>intro l s r h;cases h
 | succ f ih =>
  intro l s r h;unfold Sp.CN at h;split at h
  ·injection h with h;injection h with h1 h2;subst h1;subst h2;simp;omega
  ·split at h
   ·cases h
   ·rename_i c r1 hc;have a:=KJ hc;have b:=KG (c:Int);split at h
    ·cases h
    ·rename_i s1 r2 hx;have h3:=ih _ _ _ hx;injection h with h;injection h with h1 h2;subst h1;subst h2;simp only[List.length_append];omega
theorem Xg{l s r:Sp.By}(h:Sp.quo l=some (s,r)):s.length<=4*l.length:=by
 unfold Sp.quo at h;split at h
 ·have:=Pk _ _ _ _ h;have:=List.length_tail (l:=l);omega
 ·cases h
end

section
set_option maxHeartbeats 4000000
open Go.RowKit
theorem YR{w:World}{R:Nat}{t:ByteArray}{l:Sp.By}{tw:Bool}{dp fr:Int}(h:RD w R t l tw dp fr)(hT:Af w)(hR:NG<=R)(k1:Sp.tk l 92=false)(c n:Nat)(hd:Sp.dec l=(c,n))(e1:decide ((c:Int)<32)=true) :
  Calls Tryz.prog 220 #[.pointer (some ⟨R,0,none⟩)] w fun e w'=>Ad R w w'/\Er (Sp.chr l) e w' R t tw dp fr:=by
 have K1:=Ab k1;have hn:n<=l.length:=by have:=Gq l;rw[hd] at this;exact this
 have HE:Hid (Sp.chr l=none):=by
  unfold Hid Sp.chr;rw[k1,hd];have:c<32:=by simp at e1;omega
  simp[this]
 clear k1
 go_enter func220,ntmps220
 go_wp2_with (fail);refine (AF 92 _ rfl h (Aa K1)).mono ?_
 rintro e w1 ⟨rfl,hr1,hk1⟩;have hT1:=hT.kept hk1 hR;obtain⟨q,ha,hq⟩:=hr1;have c0:=hq.c0;have c1:=hq.c1;have b2:(q:Int)<=(t.size:Int):=by have:=ha.le;omega
 have b3:(q:Int)+n<=2000:=by have:=ha.le;have:=ha.small;have:=ha.len;omega
 have cD:∀W:World,Lib.Utf8Tabs 1 2 W->Calls Tryz.prog 230 #[.string (t.extract q t.size)] W fun e w'=>e = .returned (.tuple #[.int .i32 c,.int .i64 n])/\Below W.heap.size W w':=fun W hW=>by
  have:=Tryz.utf8_DecodeRuneInString (t.extract q t.size) W hW;rw[Kh,ha.eq,hd] at this;exact this
 have CD:=Ab cD;have HQ:=Ab hq;have HA:=Ab ha;have HD:=Ab hd;clear hq ha h hT cD hd
 go_wp2_with (fail)
 go_region_with (go_at_call 230;refine (Aa CD _ ?_).mono ?_;exact hT1.utf8;rintro e w' ⟨rfl,hb⟩)
 all_goals (
  replace hb:Below w1.heap.size w1 w':=⟨hb.os,hb.tape,hb.output,hb.size,hb.block⟩
  go_wp2_with (fail)
  go_ret2
  exact⟨hk1.trans (Ad.of_below hb),Or.inr ⟨Aa HE,0,l,rfl,⟨q,Aa HA,(Aa HQ).kept (Ad.of_below (X:=R+1) hb) (by omega)⟩⟩⟩)
theorem YQ{w:World}{R:Nat}{t:ByteArray}{l:Sp.By}{tw:Bool}{dp fr:Int}(h:RD w R t l tw dp fr)(hT:Af w)(hR:NG<=R)(k1:Sp.tk l 92=false)(c n:Nat)(hd:Sp.dec l=(c,n))(e1:decide ((c:Int)<32)=false)(e2:((c:Int) == 65533)=false) :
  Calls Tryz.prog 220 #[.pointer (some ⟨R,0,none⟩)] w fun e w'=>Ad R w w'/\Er (Sp.chr l) e w' R t tw dp fr:=by
 have K1:=Ab k1;have hn:n<=l.length:=by have:=Gq l;rw[hd] at this;exact this
 have HE:Hid (Sp.chr l=some (c,l.drop n)):=by
  unfold Hid Sp.chr;rw[k1,hd];have h1:¬ c<32:=by simp at e1;omega
  have h2:¬ c=65533:=by intro h;subst h;simp at e2
  simp[h1,h2]
 clear k1
 go_enter func220,ntmps220
 go_wp2_with (fail);refine (AF 92 _ rfl h (Aa K1)).mono ?_
 rintro e w1 ⟨rfl,hr1,hk1⟩;have hT1:=hT.kept hk1 hR;obtain⟨q,ha,hq⟩:=hr1;have c0:=hq.c0;have c1:=hq.c1;have b2:(q:Int)<=(t.size:Int):=by have:=ha.le;omega
 have b3:(q:Int)+n<=2000:=by have:=ha.le;have:=ha.small;have:=ha.len;omega
 have cD:∀W:World,Lib.Utf8Tabs 1 2 W->Calls Tryz.prog 230 #[.string (t.extract q t.size)] W fun e w'=>e = .returned (.tuple #[.int .i32 c,.int .i64 n])/\Below W.heap.size W w':=fun W hW=>by
  have:=Tryz.utf8_DecodeRuneInString (t.extract q t.size) W hW;rw[Kh,ha.eq,hd] at this;exact this
 have CD:=Ab cD;have HQ:=Ab hq;have HA:=Ab ha;have HD:=Ab hd;clear hq ha h hT cD hd
 go_wp2_with (fail)
 go_region_with (go_at_call 230;refine (Aa CD _ ?_).mono ?_;exact hT1.utf8;rintro e w' ⟨rfl,hb⟩)
 all_goals (
  replace hb:Below w1.heap.size w1 w':=⟨hb.os,hb.tape,hb.output,hb.size,hb.block⟩
  have hq2:RP w' R t q tw dp fr:=(Aa HQ).kept (Ad.of_below (X:=R+1) hb) (by omega);have d1:=hq2.c1;have f1:=hq2.fz 1;have hfin:RD (w'.setCell ⟨R,1,none⟩ (.int .i64 ((q:Int)+n))) R t (l.drop n) tw dp fr:=⟨q+n,(Aa HA).add n hn,hq2.set1 (q+n)⟩
  have HF:=Ab hfin;clear hq2 hfin
  go_wp2_with (fail)
  go_ret2
  exact⟨(hk1.trans (Ad.of_below hb)).setCell rfl _,Or.inl ⟨c,l.drop n,Aa HE,rfl,Aa HF⟩⟩)
theorem YP{w:World}{R:Nat}{t:ByteArray}{l:Sp.By}{tw:Bool}{dp fr:Int}(h:RD w R t l tw dp fr)(hT:Af w)(hR:NG<=R)(k1:Sp.tk l 92=false)(c n:Nat)(hd:Sp.dec l=(c,n))(e1:decide ((c:Int)<32)=false)(e2:((c:Int) == 65533)=true)(e3:decide ((n:Int)<2)=true) :
  Calls Tryz.prog 220 #[.pointer (some ⟨R,0,none⟩)] w fun e w'=>Ad R w w'/\Er (Sp.chr l) e w' R t tw dp fr:=by
 have K1:=Ab k1;have hn:n<=l.length:=by have:=Gq l;rw[hd] at this;exact this
 have HE:Hid (Sp.chr l=none):=by
  unfold Hid Sp.chr;rw[k1,hd];have h1:c=65533:=by simp at e2;omega
  have h2:n<2:=by simp at e3;omega
  simp[h1,h2]
 clear k1
 go_enter func220,ntmps220
 go_wp2_with (fail);refine (AF 92 _ rfl h (Aa K1)).mono ?_
 rintro e w1 ⟨rfl,hr1,hk1⟩;have hT1:=hT.kept hk1 hR;obtain⟨q,ha,hq⟩:=hr1;have c0:=hq.c0;have c1:=hq.c1;have b2:(q:Int)<=(t.size:Int):=by have:=ha.le;omega
 have b3:(q:Int)+n<=2000:=by have:=ha.le;have:=ha.small;have:=ha.len;omega
 have cD:∀W:World,Lib.Utf8Tabs 1 2 W->Calls Tryz.prog 230 #[.string (t.extract q t.size)] W fun e w'=>e = .returned (.tuple #[.int .i32 c,.int .i64 n])/\Below W.heap.size W w':=fun W hW=>by
  have:=Tryz.utf8_DecodeRuneInString (t.extract q t.size) W hW;rw[Kh,ha.eq,hd] at this;exact this
 have CD:=Ab cD;have HQ:=Ab hq;have HA:=Ab ha;have HD:=Ab hd;clear hq ha h hT cD hd
 go_wp2_with (fail)
 go_region_with (go_at_call 230;refine (Aa CD _ ?_).mono ?_;exact hT1.utf8;rintro e w' ⟨rfl,hb⟩)
 all_goals (
  replace hb:Below w1.heap.size w1 w':=⟨hb.os,hb.tape,hb.output,hb.size,hb.block⟩
  go_wp2_with (fail)
  go_ret2
  exact⟨hk1.trans (Ad.of_below hb),Or.inr ⟨Aa HE,0,l,rfl,⟨q,Aa HA,(Aa HQ).kept (Ad.of_below (X:=R+1) hb) (by omega)⟩⟩⟩)
theorem YO{w:World}{R:Nat}{t:ByteArray}{l:Sp.By}{tw:Bool}{dp fr:Int}(h:RD w R t l tw dp fr)(hT:Af w)(hR:NG<=R)(k1:Sp.tk l 92=false)(c n:Nat)(hd:Sp.dec l=(c,n))(e1:decide ((c:Int)<32)=false)(e2:((c:Int) == 65533)=true)(e3:decide ((n:Int)<2)=false) :
  Calls Tryz.prog 220 #[.pointer (some ⟨R,0,none⟩)] w fun e w'=>Ad R w w'/\Er (Sp.chr l) e w' R t tw dp fr:=by
 have K1:=Ab k1;have hn:n<=l.length:=by have:=Gq l;rw[hd] at this;exact this
 have HE:Hid (Sp.chr l=some (c,l.drop n)):=by
  unfold Hid Sp.chr;rw[k1,hd];have h1:c=65533:=by simp at e2;omega
  have h2:¬ n<2:=by simp at e3;omega
  have h3:¬ c<32:=by omega
  simp[h1,h2]
 clear k1
 go_enter func220,ntmps220
 go_wp2_with (fail);refine (AF 92 _ rfl h (Aa K1)).mono ?_
 rintro e w1 ⟨rfl,hr1,hk1⟩;have hT1:=hT.kept hk1 hR;obtain⟨q,ha,hq⟩:=hr1;have c0:=hq.c0;have c1:=hq.c1;have b2:(q:Int)<=(t.size:Int):=by have:=ha.le;omega
 have b3:(q:Int)+n<=2000:=by have:=ha.le;have:=ha.small;have:=ha.len;omega
 have cD:∀W:World,Lib.Utf8Tabs 1 2 W->Calls Tryz.prog 230 #[.string (t.extract q t.size)] W fun e w'=>e = .returned (.tuple #[.int .i32 c,.int .i64 n])/\Below W.heap.size W w':=fun W hW=>by
  have:=Tryz.utf8_DecodeRuneInString (t.extract q t.size) W hW;rw[Kh,ha.eq,hd] at this;exact this
 have CD:=Ab cD;have HQ:=Ab hq;have HA:=Ab ha;have HD:=Ab hd;clear hq ha h hT cD hd
 go_wp2_with (fail)
 go_region_with (go_at_call 230;refine (Aa CD _ ?_).mono ?_;exact hT1.utf8;rintro e w' ⟨rfl,hb⟩)
 all_goals (
  replace hb:Below w1.heap.size w1 w':=⟨hb.os,hb.tape,hb.output,hb.size,hb.block⟩
  have hq2:RP w' R t q tw dp fr:=(Aa HQ).kept (Ad.of_below (X:=R+1) hb) (by omega);have d1:=hq2.c1;have f1:=hq2.fz 1;have hfin:RD (w'.setCell ⟨R,1,none⟩ (.int .i64 ((q:Int)+n))) R t (l.drop n) tw dp fr:=⟨q+n,(Aa HA).add n hn,hq2.set1 (q+n)⟩
  have HF:=Ab hfin;clear hq2 hfin
  go_wp2_with (fail)
  go_ret2
  exact⟨(hk1.trans (Ad.of_below hb)).setCell rfl _,Or.inl ⟨c,l.drop n,Aa HE,rfl,Aa HF⟩⟩)
theorem L0{w:World}{R:Nat}{t:ByteArray}{l:Sp.By}{tw:Bool}{dp fr:Int}(h:RD w R t l tw dp fr)(hT:Af w)(hR:NG<=R) :
  Calls Tryz.prog 220 #[.pointer (some ⟨R,0,none⟩)] w fun e w'=>Ad R w w'/\Er (Sp.chr l) e w' R t tw dp fr:=by
 by_cases k1:Sp.tk l 92=true
 ·have hE:Hid (Sp.chr l=Sp.esc l.tail):=by unfold Hid Sp.chr;rw[k1];rfl
  have K1:=Ab k1;clear k1
  go_enter func220,ntmps220
  go_wp2_with (fail);refine (Am 92 _ rfl h (Aa K1)).mono ?_
  rintro e w1 ⟨rfl,hr1,hk1⟩
  go_wp2_with (fail);refine (Qb hr1 (hT.kept hk1 hR) hR).mono ?_
  rintro e w2 ⟨hk2,hc⟩;rcases hc with⟨n,l',hs,rfl,hr2⟩|⟨hs,n,l',rfl,hr2⟩
  ·have HS:=Ab hs;clear hs
   go_wp2_with (fail)
   go_ret2
   exact⟨hk1.trans hk2,Or.inl ⟨n,l',by rw[Aa hE];exact Aa HS,rfl,hr2⟩⟩
  ·have HS:=Ab hs;clear hs
   go_wp2_with (fail)
   go_ret2
   exact⟨hk1.trans hk2,Or.inr ⟨by rw[Aa hE];exact Aa HS,n,l',rfl,hr2⟩⟩
 ·have k1:=Ak k1;obtain⟨c,n,hd⟩:∃c n,Sp.dec l=(c,n):=⟨_,_,rfl⟩
  by_cases h1:c<32
  ·exact YR h hT hR k1 c n hd (by simp;omega)
  ·by_cases h2:c=65533
   ·by_cases h3:n<2
    ·exact YP h hT hR k1 c n hd (by simp;omega) (by simp;omega) (by simp;omega)
    ·exact YO h hT hR k1 c n hd (by simp;omega) (by simp;omega) (by simp;omega)
   ·exact YQ h hT hR k1 c n hd (by simp;omega) (by simp;omega)
end
end Go.Proofs.YtdpomdelmdofmaaGreatDoor
