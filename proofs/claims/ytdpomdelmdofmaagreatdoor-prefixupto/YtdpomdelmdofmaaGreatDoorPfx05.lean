import Derived.Test.YtdpomdelmdofmaaGreatDoorPfx04
import Derived.Laws.Rows
import Derived.Lib.IndexBytes
import Derived.Deep.RegionWith
open Go.Proofs.Tryz renaming prog->AI
open Go.Instr renaming index->AS
open Go renaming World->AT
open Go.Lib renaming decode_at->A1,decodeN->A2,decodeGo->A4
open ByteArray renaming get!->A3,mk->A5
open List renaming length->A6
open Or renaming inl->Bs
set_option maxHeartbeats 2000000
namespace Go.Proofs.YtdpomdelmdofmaaGreatDoor
open Go.Proofs.Tryz Go.RowKit
variable{w:AT}{R:Nat}{t:ByteArray}{l:By}{tw:Bool}{dp fr:Int}
def Nn(j:Nat):UInt8:=(FX.getD j (0,0)).1
def Qe(j:Nat):Nat:=(FX.getD j (0,0)).2
theorem XQ(w:AT):(AS 335 (.agg Ci) (.int .i64 0)).run AI w=.ok (.agg #[.int .u8 34,.int .i32 34]) w:=by kernel_rfl
theorem XP(w:AT):(AS 335 (.agg Ci) (.int .i64 1)).run AI w=.ok (.agg #[.int .u8 92,.int .i32 92]) w:=by kernel_rfl
theorem XO(w:AT):(AS 335 (.agg Ci) (.int .i64 2)).run AI w=.ok (.agg #[.int .u8 47,.int .i32 47]) w:=by kernel_rfl
theorem XN(w:AT):(AS 335 (.agg Ci) (.int .i64 3)).run AI w=.ok (.agg #[.int .u8 98,.int .i32 8]) w:=by kernel_rfl
theorem XM(w:AT):(AS 335 (.agg Ci) (.int .i64 4)).run AI w=.ok (.agg #[.int .u8 102,.int .i32 12]) w:=by kernel_rfl
theorem XL(w:AT):(AS 335 (.agg Ci) (.int .i64 5)).run AI w=.ok (.agg #[.int .u8 110,.int .i32 10]) w:=by kernel_rfl
theorem XK(w:AT):(AS 335 (.agg Ci) (.int .i64 6)).run AI w=.ok (.agg #[.int .u8 114,.int .i32 13]) w:=by kernel_rfl
theorem XJ(w:AT):(AS 335 (.agg Ci) (.int .i64 7)).run AI w=.ok (.agg #[.int .u8 116,.int .i32 9]) w:=by kernel_rfl
theorem WD(j:Nat)(hj:j<8)(w:AT):(AS 335 (.agg Ci) (.int .i64 j)).run AI w=.ok (.agg #[.int .u8 (Nn j).toNat,.int .i32 (Qe j)]) w:=by
 match j,hj with
 | 0,_=>exact XQ w
 | 1,_=>exact XP w
 | 2,_=>exact XO w
 | 3,_=>exact XN w
 | 4,_=>exact XM w
 | 5,_=>exact XL w
 | 6,_=>exact XK w
 | 7,_=>exact XJ w
theorem Nl(l:By)(j:Nat)(hj:j<8):D8 l (FX.drop j)=if Zn l (Nn j) then some (Qe j,l.tail) else D8 l (FX.drop (j+1)):=by
 match j,hj with
 | 0,_=>rfl
 | 1,_=>rfl
 | 2,_=>rfl
 | 3,_=>rfl
 | 4,_=>rfl
 | 5,_=>rfl
 | 6,_=>rfl
 | 7,_=>rfl
def Eh(o:Option (Nat×By))(e:Ending)(w':AT)(R:Nat)(t:ByteArray)(tw:Bool)(dp fr:Int):Prop:=
 (∃n l',o=some (n,l')/\e=.returned (.tuple #[.int .i32 n,.bool true])/\RD w' R t l' tw dp fr) \/
  (o=none /\ ∃n l',e=.returned (.tuple #[.int .i32 n,.bool false])/\RD w' R t l' tw dp fr)
theorem Ok(h:RD w R t l tw dp fr)(hT:Af w)(hR:NG<=R)(k1:Zn l 117=false):
  Calls AI 261 #[.pointer (some ⟨R,0,none⟩)] w fun e w'=>Ae R w w'/\Eh (aW l) e w' R t tw dp fr:=by
 have hE:Hid (aW l=D8 l FX):=by unfold Hid aW;rw[k1];rfl
 have K1:=Ab k1;clear k1
 go_enter func261,ntmps261
 go_wp2_with (fail);refine (AP 117 _ rfl h (Aa K1)).mono ?_
 rintro e w1 ⟨rfl,q6,q4⟩;obtain⟨tt,fz,q5⟩:=(hT.kept q4 hR).esc;clear h hT
 go_wp2_with (refine wpList_load_row rfl 335 _ rfl 7 rfl tt _ fz _ q5 underlying335 rfl (by kernel_rfl) ?_)
 clear q5
 go_loopw [13] (fun i wr=>∃j:Nat,j<=8/\i=.int .i64 j/\RD wr R t l tw dp fr/\Ae R w wr/\D8 l FX=D8 l (FX.drop j)) (fun i _=>8-(intOf i).toNat)
 case atStart=>exact⟨0,by omega,rfl,q6,q4,rfl⟩
 case round=>
  obtain⟨j,q8,rfl,hr,hk,he⟩:=hrel;have HE:=Ab he;clear he q6 q4;by_cases hlt:j<8
  ·have q7:=WD j hlt
   go_wp2_with (fail);by_cases k2:Zn l (Nn j)=true
   ·have K2:=Ab k2;clear k2;refine (Ar (Nn j) _ rfl (hr.alloc _) (Aa K2)).mono ?_;rintro e w2 ⟨rfl,q0,hk2⟩;have d1:w2.cell? ⟨wr.heap.size,1,none⟩=some (.int .i32 (Qe j)):=by
     rw[hk2.cell (by simp) (by have:=hr.lt;simp;omega)];simp
    go_wp2_with (fail)
    go_ret2
    refine⟨(hk.alloc _).trans hk2,Bs ⟨Qe j,l.tail,?_,rfl,q0⟩⟩;rw[Aa hE,Aa HE,Nl l j hlt,Aa K2];rfl
   ·have K2:=Ab (AA k2);clear k2;refine (AP (Nn j) _ rfl (hr.alloc _) (Aa K2)).mono ?_;rintro e w2 ⟨rfl,q0,hk2⟩
    go_wp2_with (fail)
    go_roundw
    case rel=>exact⟨j+1,by omega,by go_num,q0,(hk.alloc _).trans hk2,by rw[Aa HE,Nl l j hlt,Aa K2];rfl⟩
    case measure=>simp[intOf];omega
  ·go_wp2_with (fail)
   go_ret2
   refine⟨hk,Or.inr ⟨?_,0,l,rfl,hr⟩⟩;rw[Aa hE,Aa HE,show j=8 by omega];rfl
theorem Qd(h:RD w R t l tw dp fr)(hT:Af w)(hR:NG<=R):
  Calls AI 261 #[.pointer (some ⟨R,0,none⟩)] w fun e w'=>Ae R w w'/\Eh (aW l) e w' R t tw dp fr:=by
 by_cases k1:Zn l 117=true
 ·have hE:Hid (aW l=DG l.tail):=by unfold Hid aW;rw[k1];rfl
  have K1:=Ab k1;clear k1 hT
  go_enter func261,ntmps261
  go_wp2_with (fail);refine (Ar 117 _ rfl h (Aa K1)).mono ?_
  rintro e w1 ⟨rfl,q5,q4⟩
  go_wp2_with (fail);refine (PH q5).mono ?_
  rintro e w2 ⟨hk2,hc⟩;rcases hc with⟨n,l',hs,rfl,q0⟩|⟨hs,n,l',rfl,q0⟩
  ·have HS:=Ab hs;clear hs
   go_wp2_with (fail)
   go_ret2
   exact⟨q4.trans hk2,Bs ⟨n,l',by rw[Aa hE];exact Aa HS,rfl,q0⟩⟩
  ·have HS:=Ab hs;clear hs
   go_wp2_with (fail)
   go_ret2
   exact⟨q4.trans hk2,Or.inr ⟨by rw[Aa hE];exact Aa HS,n,l',rfl,q0⟩⟩
 ·exact Ok h hT hR (AA k1)
theorem AU(l:By):(⟨l.toArray⟩:ByteArray).size=l.length:=by rfl
theorem J4(t:ByteArray)(p:Nat):A4 (t.extract p t.size)=ZU (t.data.toList.drop p):=by
 unfold A4 ZU;have e:t.extract p t.size=⟨(t.data.toList.drop p).toArray⟩:=by
  have:=Lib.extract_to_end t p;have h2:(t.extract p t.size).data=(t.data.toList.drop p).toArray:=by grind
  exact congrArg A5 h2
 rw[e,AU]
theorem J3(l:By):(ZU l).2<=l.length:=by
 unfold ZU;split
 ·simp
 ·rename_i h;rw[A1];rw[AU];unfold A2
  grind
theorem UP(l:By):(ZU l).1<=1114111:=by
 unfold ZU;split
 ·simp
 ·rw[A1];have h0:=(A3 (⟨l.toArray⟩:ByteArray) 0).toNat_lt;simp only[Nat.zero_add];generalize (A3 (⟨l.toArray⟩:ByteArray) 0).toNat=b0 at *;unfold A2
  grind
theorem BH{c:UInt8}(h:Zn l c=true):l.tail.length+1=l.length:=by
 cases l with
 | nil=>simp[Zn] at h
 | cons d r=>simp
theorem Na(k n:Nat)(l:By)(m:Nat)(r:By)(h:Cx k n l=some (m,r)):r.length+k<=l.length:=by
 induction k generalizing n l with
 | zero=>grind [Cx,Zt,EU]
 | succ k ih=>
  rw[Cx] at h;cases l with
  | nil=>simp[Zt,EU] at h
  | cons c l=>
   grind
theorem TB(l:By)(m:Nat)(r:By)(h:DG l=some (m,r)):r.length<l.length/\m<=1114111:=by
 unfold DG at h;cases hx:Cx 4 0 l with
 | none=>grind
 | some x=>
  obtain⟨a,r1⟩:=x;have h1:=Na _ _ _ _ _ hx;have h2:=LY hx;rw[hx] at h;simp only at h;by_cases c1:a<55296\/57344<=a
  ·grind
  ·rw[if_neg c1] at h;by_cases c2:56320<=a
   ·grind
   ·rw[if_neg c2] at h;by_cases c3:Zn r1 92=true
    ·rw[if_pos c3] at h;by_cases c4:Zn r1.tail 117=true
     ·rw[if_pos c4] at h;have k1:=BH c3;have k2:=BH c4;cases hy:Cx 4 0 r1.tail.tail with
      | none=>grind
      | some y=>
       obtain⟨b,r2⟩:=y;have g1:=Na _ _ _ _ _ hy
       grind
     grind
    grind
theorem Sm(l:By)(T:List (UInt8×Nat))(hT:∀x∈T,x.2<=1114111)(m:Nat)(r:By)(h:D8 l T=some (m,r)):r.length<l.length/\m<=1114111:=by
 induction T with
 | nil=>cases h
 | cons x T ih=>
  obtain⟨c,n⟩:=x;rw[D8] at h;by_cases k:Zn l c=true
  ·rw[if_pos k] at h;simp at h;have:=BH k;have h3:=hT (c,n) (by simp);grind
  grind
theorem WR(l:By)(h:l≠[]):1<=(ZU l).2:=by
 grind [ZU,A1,A2]
theorem KB{m:Nat}{r:By}(h:Z5 l=some (m,r)):r.length<l.length/\m<=1114111:=by
 unfold Z5 at h;by_cases k:Zn l 92=true
 ·rw[if_pos k] at h;have k1:=BH k;unfold aW at h;by_cases k2:Zn l.tail 117=true
  ·rw[if_pos k2] at h;have k3:=BH k2;have:=TB _ _ _ h;omega
  ·rw[if_neg k2] at h;have:=Sm _ FX (by decide) _ _ h;omega
 ·rw[if_neg k] at h;by_cases c:(ZU l).1<32\/((ZU l).1=65533/\(ZU l).2<2)
  ·grind
  ·rw[if_neg c] at h;simp only[Option.some.injEq,Prod.mk.injEq] at h;have h1:=UP l;have q0:l≠[]:=by rintro rfl;simp[ZU] at c
   have h2:=WR l q0
   grind [ZU,Z5,aW]
theorem Pk(r:Int):(Lib.encodeRune r).length<=4:=by
 have:=Lib.runeCells_le r
 grind [Lib.byteCells_encodeRune,Lib.byteCells_length]
theorem O9(c:UInt8):aN c=Cw c.toNat:=rfl
theorem XV(h:Cw (Zt l)=true):l.take 1++dg l.tail=dg l/\ZH l.tail=ZH l/\1<=l.length:=by
 cases l with
 | nil=>simp[Zt,Cw] at h
 | cons d r=>
  have:aN d=true:=by rw[O9];exact h
  simp[dg,ZH,this]
theorem YK(h:Cw (Zt l)=false):dg l=[]/\ZH l=l:=by
 cases l with
 | nil=>simp[dg,ZH]
 | cons d r=>
  have:aN d=false:=by rw[O9];exact h
  simp[dg,ZH,this]
theorem AK(h:RD w R t l tw dp fr):
  Calls AI 222 #[.pointer (some ⟨R,0,none⟩)] w fun e w'=>e=.returned (.string ⟨(dg l).toArray⟩)/\RD w' R t (ZH l) tw dp fr/\Ae R w w':=by
 obtain⟨p,ha,hp⟩:=h;have c0:=hp.c0;have c1:=hp.c1;have HP:=Ab hp;have HA:=Ab ha;clear hp ha
 go_enter func222,ntmps222
 go_wp2_with (fail);clear c0 c1
 go_loopw [8] (fun _ wr=>∃l' k,RD wr R t l' tw dp fr/\k<=l.length/\l'=l.drop k/\l.take k++dg l'=dg l/\ZH l'=ZH l/\Ae R w wr) (fun _ wr=>left wr R)
 case atStart=>exact⟨l,0,⟨p,Aa HA,Aa HP⟩,Nat.zero_le _,rfl,rfl,rfl,Ae.refl R w⟩
 case round=>
  obtain⟨l',k,hr,qb,q6,q7,q8,hk⟩:=hrel;have H1:=Ab q6;have H2:=Ab q7;have H3:=Ab q8;have HL:=Ab hr.left;clear q6 q7 q8;by_cases hd:Cw (Zt l')=true
  ·have HD:=Ab hd;clear hd
   go_wp2_with (fail);refine (Ev hr).mono ?_
   rintro e w1 ⟨rfl,q5,q4⟩
   go_wp2_with (fail);refine (BD _ _ (Jv l')).mono ?_
   rintro e w2 ⟨rfl,rfl⟩;rw[Aa HD];obtain⟨q,ha,hq⟩:=q5;have c1:=hq.c1;have f1:=hq.fz 1;have hs:=ha.small;have q9:=ha.le;have HQ:=Ab hq;have q0:=Ab ha;clear hq ha hr
   go_wp2_with (fail);have hy:=XV (Aa HD)
   have hn:RD (w2.setCell ⟨R,1,none⟩ (.int .i64 ((q:Int)+1))) R t l'.tail tw dp fr:=⟨q+1,by simpa using (Aa q0).add 1 hy.2.2,(Aa HQ).set1 (q+1)⟩
   go_roundw
   case rel=>exact⟨l'.tail,k+1,hn,by have:=hy.2.2;rw[Aa H1] at this;simp at this;omega,by rw[Aa H1];simp,by rw[<- Aa H2,<- hy.1,Aa H1,<- List.append_assoc,<- List.take_add],by rw[<- Aa H3];exact hy.2.1,(hk.trans q4).setCell rfl _⟩
   case measure=>
    have h1:=hy.2.2;rw[Aa HL,hn.left];simp;omega
  ·have HD:=Ab (show Cw (Zt l')=false by simpa using hd);clear hd
   go_wp2_with (fail);refine (Ev hr).mono ?_
   rintro e w1 ⟨rfl,q5,q4⟩
   go_wp2_with (fail);refine (BD _ _ (Jv l')).mono ?_
   rintro e w2 ⟨rfl,rfl⟩;rw[Aa HD];obtain⟨q,ha,hq⟩:=q5;have c0:=hq.c0;have c1:=hq.c1;have b1:(p:Int)<=(q:Int):=by have:=ha.len;have:=(Aa HA).len;have:=(Aa HA).le;have:=ha.le;have e:=congrArg A6 (Aa H1);simp at e;omega
   have b2:(q:Int)<=(t.size:Int):=by have:=ha.le;omega
   have HQ:=Ab hq;have q0:=Ab ha;clear hq ha hr
   go_wp2_with (fail)
   go_quiet (fail)
   go_wp2_with (fail);have hz:=YK (Aa HD)
   have hx:t.extract p q=⟨(dg l).toArray⟩:=by
    have e1:=Lib.extract_data t p q;rw[(Aa HA).eq] at e1;have e2:=congrArg A6 (Aa H1);have e3:=(Aa q0).len;have e4:=(Aa HA).len;have e5:=(Aa HA).le;have e6:=(Aa q0).le;simp at e2;have e7:q-p=k:=by omega
    have e8:=Aa H2;rw[hz.1,List.append_nil] at e8;rw[e7,e8] at e1;have:(t.extract p q).data=(dg l).toArray:=by rw[<- e1]
    exact congrArg A5 this
   rw[hx]
   go_ret;refine⟨rfl,?_,(hk.trans q4).drewN _⟩
   rw[<- Aa H3,hz.2];exact⟨q,Aa q0,(Aa HQ).drewN _⟩
theorem Sx(h:l=[]):l.isEmpty=true:=by subst h;rfl
theorem Nq(h:¬ l=[]):l.isEmpty=false:=by simpa using h
def WC(o:Option (By×By))(e:Ending)(w':AT)(R:Nat)(t:ByteArray)(tw:Bool)(dp fr:Int):Prop:=
 (∃s l',o=some (s,l')/\e=.returned (.tuple #[.string ⟨s.toArray⟩,.bool true])/\RD w' R t l' tw dp fr) \/
  (o=none /\ ∃s l',e=.returned (.tuple #[.string s,.bool false])/\RD w' R t l' tw dp fr)
theorem Bd(h:RD w R t l tw dp fr):
  Calls AI 223 #[.pointer (some ⟨R,0,none⟩)] w fun e w'=>Ae R w w'/\WC (BP l) e w' R t tw dp fr:=by
 by_cases k1:Zn l 46=true
 ·have K1:=Ab k1;by_cases hd:dg l.tail=[]
  ·have hE:Hid (BP l=none):=by unfold Hid BP;rw[if_pos k1,if_pos hd]
   have he:=Sx hd;clear k1 hd
   go_enter func223,ntmps223
   go_wp2_with (fail);refine (Ar 46 _ rfl h (Aa K1)).mono ?_
   rintro e w1 ⟨rfl,q4,q0⟩
   go_wp2_with (fail);refine (AK q4).mono ?_
   rintro e w2 ⟨rfl,q5,hk2⟩
   go_wp2_with (fail)
   go_ret2
   exact⟨q0.trans hk2,Or.inr ⟨Aa hE,_,_,rfl,q5⟩⟩
  ·have hE:Hid (BP l=some (dg l.tail,ZH l.tail)):=by unfold Hid BP;rw[if_pos k1,if_neg hd]
   have he:=Nq hd;clear k1 hd
   go_enter func223,ntmps223
   go_wp2_with (fail);refine (Ar 46 _ rfl h (Aa K1)).mono ?_
   rintro e w1 ⟨rfl,q4,q0⟩
   go_wp2_with (fail);refine (AK q4).mono ?_
   rintro e w2 ⟨rfl,q5,hk2⟩
   go_wp2_with (fail)
   go_ret2
   exact⟨q0.trans hk2,Bs ⟨_,_,Aa hE,rfl,q5⟩⟩
 ·have hE:Hid (BP l=some ([],l)):=by unfold Hid BP;rw[if_neg k1]
  have K1:=Ab (AA k1);clear k1
  go_enter func223,ntmps223
  go_wp2_with (fail);refine (AP 46 _ rfl h (Aa K1)).mono ?_
  rintro e w1 ⟨rfl,q4,q0⟩
  go_wp2_with (fail)
  go_ret2
  exact⟨q0,Bs ⟨[],l,Aa hE,rfl,q4⟩⟩
theorem SK(l:By):∀c∈dg l,48<=c.toNat/\c.toNat<=57:=by
 induction l with
 | nil=>intro c hc;simp[dg] at hc
 | cons d r ih=>
  intro c hc;unfold dg at hc;by_cases hd:aN d=true
  ·rw[if_pos hd] at hc;rcases List.mem_cons.1 hc with rfl|hc
   ·simpa[aN] using hd
   ·exact ih c hc
  ·rw[if_neg hd] at hc;cases hc
theorem B9(l:By):(dg l).length+(ZH l).length=l.length:=by
 induction l with
 | nil=>rfl
 | cons d r ih=>
  unfold dg ZH;by_cases hd:aN d=true
  ·rw[if_pos hd,if_pos hd];simp;omega
  ·rw[if_neg hd,if_neg hd];simp
theorem UB(ds:By)(hd:∀c∈ds,48<=c.toNat/\c.toNat<=57):∀n:Int,0<=n->n<=1000000->0<=CW ds n/\CW ds n<=1000000:=by
 induction ds with
 | nil=>intro n h0 h1;exact⟨h0,h1⟩
 | cons c r ih=>
  intro n h0 h1;have hc:=hd c (by simp);exact ih (fun x hx=>hd x (by simp[hx])) _ (by omega) (by omega)
end Go.Proofs.YtdpomdelmdofmaaGreatDoor
