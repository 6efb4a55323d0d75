import Derived.Test.YtdpomdelmdofmaaGreatDoorRea04
import Derived.Lib.IndexBytes
import Derived.Deep.RegionWith
import Derived.Laws.RangeAny
open Go.Proofs.Tryz renaming prog->AI
open Go.Lib renaming decode_at->AS,decodeN->AT,decodeGo->A2
open ByteArray renaming get!->A1,mk->A3
open List renaming length->A4
open Or renaming inl->A5
open Go.Instr renaming next->A6
set_option maxHeartbeats 8000000
namespace Go.Proofs.YtdpomdelmdofmaaGreatDoor
open Go.Proofs.Tryz Go.RowKit
variable{l:By}{w:World}{R:Nat}{t:ByteArray}{tw:Bool}{dp fr:Int}
theorem Bc(l:By):(⟨l.toArray⟩:ByteArray).size=l.length:=by rfl
theorem La(t:ByteArray)(p:Nat):A2 (t.extract p t.size)=fG (t.data.toList.drop p):=by
 unfold A2 fG;have e:t.extract p t.size=⟨(t.data.toList.drop p).toArray⟩:=by
  have:=Lib.extract_to_end t p;have h2:(t.extract p t.size).data=(t.data.toList.drop p).toArray:=by grind
  exact congrArg A3 h2
 rw[e,Bc]
theorem IR(l:By):(fG l).2<=l.length:=by
 unfold fG;split
 ·simp
 ·rename_i h;rw[AS];rw[Bc];unfold AT
  grind
theorem Xi(l:By):(fG l).1<=1114111:=by
 unfold fG;split
 ·simp
 ·rw[AS];have h0:=(A1 (⟨l.toArray⟩:ByteArray) 0).toNat_lt;simp only[Nat.zero_add];generalize (A1 (⟨l.toArray⟩:ByteArray) 0).toNat=b0 at *;unfold AT
  grind
theorem Bb{c:UInt8}(h:eA l c=true):l.tail.length+1=l.length:=by
 cases l with
 | nil=>simp[eA] at h
 | cons d r=>simp
theorem OL(k n:Nat)(l:By)(m:Nat)(r:By)(h:Ce k n l=some (m,r)):r.length+k<=l.length:=by
 induction k generalizing n l with
 | zero=>grind [Ce,eS,Eu]
 | succ k ih=>
  rw[Ce] at h;cases l with
  | nil=>simp[eS,Eu] at h
  | cons c l=>
   grind
theorem N3(l:By)(m:Nat)(r:By)(h:B8 l=some (m,r)):r.length<l.length/\m<=1114111:=by
 unfold B8 at h;cases hx:Ce 4 0 l with
 | none=>grind
 | some x=>
  obtain⟨a,r1⟩:=x;have h1:=OL _ _ _ _ _ hx;have h2:=Nz hx;rw[hx] at h;simp only at h;by_cases c1:a<55296\/57344<=a
  ·grind
  ·rw[if_neg c1] at h;by_cases c2:56320<=a
   ·grind
   ·rw[if_neg c2] at h;by_cases c3:eA r1 92=true
    ·rw[if_pos c3] at h;by_cases c4:eA r1.tail 117=true
     ·rw[if_pos c4] at h;have k1:=Bb c3;have k2:=Bb c4;cases hy:Ce 4 0 r1.tail.tail with
      | none=>grind
      | some y=>
       obtain⟨b,r2⟩:=y;have g1:=OL _ _ _ _ _ hy
       grind
     grind
    grind
theorem MS(l:By)(T:List (UInt8×Nat))(hT:∀x∈T,x.2<=1114111)(m:Nat)(r:By)(h:Ev l T=some (m,r)):r.length<l.length/\m<=1114111:=by
 induction T with
 | nil=>cases h
 | cons x T ih=>
  obtain⟨c,n⟩:=x;rw[Ev] at h;by_cases k:eA l c=true
  ·rw[if_pos k] at h;simp at h;have:=Bb k;have h3:=hT (c,n) (by simp);grind
  grind
theorem Q7(l:By)(h:l≠[]):1<=(fG l).2:=by
 grind [fG,AS,AT]
theorem LM{m:Nat}{r:By}(h:fS l=some (m,r)):r.length<l.length/\m<=1114111:=by
 unfold fS at h;by_cases k:eA l 92=true
 ·rw[if_pos k] at h;have k1:=Bb k;unfold gZ at h;by_cases k2:eA l.tail 117=true
  ·rw[if_pos k2] at h;have k3:=Bb k2;have:=N3 _ _ _ h;omega
  ·rw[if_neg k2] at h;have:=MS _ F0 (by decide) _ _ h;omega
 ·rw[if_neg k] at h;by_cases c:(fG l).1<32\/((fG l).1=65533/\(fG l).2<2)
  ·grind
  ·rw[if_neg c] at h;simp only[Option.some.injEq,Prod.mk.injEq] at h;have h1:=Xi l;have hne:l≠[]:=by rintro rfl;simp[fG] at c
   have h2:=Q7 l hne
   grind [fG,fS,gZ]
theorem LI(r:Int):(Lib.encodeRune r).length<=4:=by
 have:=Lib.runeCells_le r
 grind [Lib.byteCells_encodeRune,Lib.byteCells_length]
theorem QK(c:UInt8):fK c=CF c.toNat:=rfl
theorem aN(h:CF (eS l)=true):l.take 1++dg l.tail=dg l/\fQ l.tail=fQ l/\1<=l.length:=by
 cases l with
 | nil=>simp[eS,CF] at h
 | cons d r=>
  have:fK d=true:=by rw[QK];exact h
  simp[dg,fQ,this]
theorem cJ(h:CF (eS l)=false):dg l=[]/\fQ l=l:=by
 cases l with
 | nil=>simp[dg,fQ]
 | cons d r=>
  have:fK d=false:=by rw[QK];exact h
  simp[dg,fQ,this]
theorem Fw(h:RD w R t l tw dp fr):
  Calls AI 222 #[.pointer (some ⟨R,0,none⟩)] w fun e w'=>e=.returned (.string ⟨(dg l).toArray⟩)/\RD w' R t (fQ l) tw dp fr/\Ae R w w':=by
 obtain⟨p,ha,hp⟩:=h;have c0:=hp.c0;have c1:=hp.c1;have HP:=Ab hp;have HA:=Ab ha;clear hp ha
 go_enter func222,ntmps222
 go_wp2_with (fail);clear c0 c1
 go_loopw [8] (fun _ wr=>∃l' k,RD wr R t l' tw dp fr/\k<=l.length/\l'=l.drop k/\l.take k++dg l'=dg l/\fQ l'=fQ l/\Ae R w wr) (fun _ wr=>left wr R)
 case atStart=>exact⟨l,0,⟨p,Aa HA,Aa HP⟩,Nat.zero_le _,rfl,rfl,rfl,Ae.refl R w⟩
 case round=>
  obtain⟨l',k,hr,q9,q8,q6,q7,hk⟩:=hrel;have H1:=Ab q8;have H2:=Ab q6;have H3:=Ab q7;have HL:=Ab hr.left;clear q8 q6 q7;by_cases hd:CF (eS l')=true
  ·have HD:=Ab hd;clear hd
   go_wp2_with (fail);refine (Ku hr).mono ?_
   rintro e w1 ⟨rfl,q5,q4⟩
   go_wp2_with (fail);refine (BL _ _ (Kt l')).mono ?_
   rintro e w2 ⟨rfl,rfl⟩;rw[Aa HD];obtain⟨q,ha,hq⟩:=q5;have c1:=hq.c1;have f1:=hq.fz 1;have hs:=ha.small;have qb:=ha.le;have HQ:=Ab hq;have q0:=Ab ha;clear hq ha hr
   go_wp2_with (fail);have hy:=aN (Aa HD)
   have hn:RD (w2.setCell ⟨R,1,none⟩ (.int .i64 ((q:Int)+1))) R t l'.tail tw dp fr:=⟨q+1,by simpa using (Aa q0).add 1 hy.2.2,(Aa HQ).set1 (q+1)⟩
   go_roundw
   case rel=>exact⟨l'.tail,k+1,hn,by have:=hy.2.2;rw[Aa H1] at this;grind,by rw[Aa H1];simp,by rw[<- Aa H2,<- hy.1,Aa H1,<- List.append_assoc,<- List.take_add],by rw[<- Aa H3];grind,(hk.trans q4).setCell rfl _⟩
   case measure=>
    have h1:=hy.2.2;rw[Aa HL,hn.left];simp;omega
  ·have HD:=Ab (show CF (eS l')=false by simpa using hd);clear hd
   go_wp2_with (fail);refine (Ku hr).mono ?_
   rintro e w1 ⟨rfl,q5,q4⟩
   go_wp2_with (fail);refine (BL _ _ (Kt l')).mono ?_
   rintro e w2 ⟨rfl,rfl⟩;rw[Aa HD];obtain⟨q,ha,hq⟩:=q5;have c0:=hq.c0;have c1:=hq.c1;have b1:(p:Int)<=(q:Int):=by have:=ha.len;have:=(Aa HA).len;have:=(Aa HA).le;have:=ha.le;have e:=congrArg A4 (Aa H1);grind
   have b2:(q:Int)<=(t.size:Int):=by have:=ha.le;omega
   have HQ:=Ab hq;have q0:=Ab ha;clear hq ha hr
   go_wp2_with (fail)
   go_quiet (fail)
   go_wp2_with (fail);have hz:=cJ (Aa HD)
   have hx:t.extract p q=⟨(dg l).toArray⟩:=by
    have e1:=Lib.extract_data t p q;rw[(Aa HA).eq] at e1;have e2:=congrArg A4 (Aa H1);have e3:=(Aa q0).len;have e4:=(Aa HA).len;have e5:=(Aa HA).le;have e6:=(Aa q0).le;simp at e2;have e7:q-p=k:=by omega
    have e8:=Aa H2;rw[hz.1,List.append_nil] at e8;rw[e7,e8] at e1;have:(t.extract p q).data=(dg l).toArray:=by rw[<- e1]
    exact congrArg A3 this
   rw[hx]
   go_ret;refine⟨rfl,?_,(hk.trans q4).drewN _⟩
   rw[<- Aa H3,hz.2];exact⟨q,Aa q0,(Aa HQ).drewN _⟩
theorem UL(h:l=[]):l.isEmpty=true:=by grind
theorem O1(h:¬ l=[]):l.isEmpty=false:=by grind
def Y5(o:Option (By×By))(e:Ending)(w':World)(R:Nat)(t:ByteArray)(tw:Bool)(dp fr:Int):Prop:=
 (∃s l',o=some (s,l')/\e=.returned (.tuple #[.string ⟨s.toArray⟩,.bool true])/\RD w' R t l' tw dp fr) \/
  (o=none /\ ∃s l',e=.returned (.tuple #[.string s,.bool false])/\RD w' R t l' tw dp fr)
theorem OT(h:RD w R t l tw dp fr):
  Calls AI 223 #[.pointer (some ⟨R,0,none⟩)] w fun e w'=>Ae R w w'/\Y5 (Dq l) e w' R t tw dp fr:=by
 by_cases k1:eA l 46=true
 ·have K1:=Ab k1;by_cases hd:dg l.tail=[]
  ·have hE:Hid (Dq l=none):=by grind [Dq,Hid,dg]
   have he:=UL hd;clear k1 hd
   go_enter func223,ntmps223
   go_wp2_with (fail);refine (AG 46 _ rfl h (Aa K1)).mono ?_
   rintro e w1 ⟨rfl,q4,q0⟩
   go_wp2_with (fail);refine (Fw q4).mono ?_
   rintro e w2 ⟨rfl,q5,hk2⟩
   go_wp2_with (fail)
   go_ret2
   exact⟨q0.trans hk2,Or.inr ⟨Aa hE,_,_,rfl,q5⟩⟩
  ·have hE:Hid (Dq l=some (dg l.tail,fQ l.tail)):=by grind [Dq,Hid,dg]
   have he:=O1 hd;clear k1 hd
   go_enter func223,ntmps223
   go_wp2_with (fail);refine (AG 46 _ rfl h (Aa K1)).mono ?_
   rintro e w1 ⟨rfl,q4,q0⟩
   go_wp2_with (fail);refine (Fw q4).mono ?_
   rintro e w2 ⟨rfl,q5,hk2⟩
   go_wp2_with (fail)
   go_ret2
   exact⟨q0.trans hk2,A5 ⟨_,_,Aa hE,rfl,q5⟩⟩
 ·have hE:Hid (Dq l=some ([],l)):=by grind [Dq,Hid,dg]
  have K1:=Ab (A7 k1);clear k1
  go_enter func223,ntmps223
  go_wp2_with (fail);refine (Bk 46 _ rfl h (Aa K1)).mono ?_
  rintro e w1 ⟨rfl,q4,q0⟩
  go_wp2_with (fail)
  go_ret2
  exact⟨q0,A5 ⟨[],l,Aa hE,rfl,q4⟩⟩
theorem UY(l:By):∀c∈dg l,48<=c.toNat/\c.toNat<=57:=by
 induction l with
 | nil=>intro c hc;simp[dg] at hc
 | cons d r ih=>
  intro c hc;unfold dg at hc;by_cases hd:fK d=true
  ·rw[if_pos hd] at hc;rcases List.mem_cons.1 hc with rfl|hc
   ·simpa[fK] using hd
   grind
  grind
theorem Cz(l:By):(dg l).length+(fQ l).length=l.length:=by
 induction l with
 | nil=>rfl
 | cons d r ih=>
  unfold dg fQ
  grind
theorem WU(ds:By)(hd:∀c∈ds,48<=c.toNat/\c.toNat<=57):∀n:Int,0<=n->n<=1000000->0<=B5 ds n/\B5 ds n<=1000000:=by
 induction ds with
 | nil=>intro n h0 h1;exact⟨h0,h1⟩
 | cons c r ih=>
  intro n h0 h1;have hc:=hd c (by simp);exact ih (by grind) _ (by omega) (by omega)
def UA(o:Option (Int×By))(e:Ending)(w':World)(R:Nat)(t:ByteArray)(tw:Bool)(dp fr:Int):Prop:=
 (∃n l',o=some (n,l')/\e=.returned (.tuple #[.int .i64 n,.bool true])/\RD w' R t l' tw dp fr) \/
  (o=none /\ ∃n l',e=.returned (.tuple #[.int .i64 n,.bool false])/\RD w' R t l' tw dp fr)
theorem OG(w:World)(s:ByteArray)(k:Nat):(w.iter s k).iterPos w.heap.size=k:=by
 simp_all
theorem WT(h:RD w R t l tw dp fr)(k0:eA l 101=false)(k1:eA l 69=false):
  Calls AI 224 #[.pointer (some ⟨R,0,none⟩)] w fun e w'=>Ae R w w'/\UA (Cb l) e w' R t tw dp fr:=by
 have hE:Hid (Cb l=some (0,l)):=by unfold Hid Cb;grind
 have K0:=Ab k0;have K1:=Ab k1;clear k0 k1
 go_enter func224,ntmps224
 go_wp2_with (fail);refine (Bk 101 _ rfl h (Aa K0)).mono ?_
 rintro e w1 ⟨rfl,q4,q0⟩
 go_wp2_with (fail);refine (Bk 69 _ rfl q4 (Aa K1)).mono ?_
 rintro e w2 ⟨rfl,q5,hk2⟩
 go_wp2_with (fail)
 go_ret2
 exact⟨q0.trans hk2,A5 ⟨0,l,Aa hE,rfl,q5⟩⟩
theorem OX(h:RD w R t l tw dp fr):
  Calls AI 224 #[.pointer (some ⟨R,0,none⟩)] w fun e w'=>Ae R w w'/\UA (Cb l) e w' R t tw dp fr:=by
 have hf:(eA l 101=true\/eA l 101=false/\eA l 69=true)\/eA l 101=false/\eA l 69=false:=by grind
 rcases hf with hf|⟨k0,k1⟩
 rotate_left
 ·exact WT h k0 k1
 have hs:(eA l.tail 45=true/\Hid (Cb l=if dg l.tail.tail=[] then none else some (- B5 (dg l.tail.tail) 0,fQ l.tail.tail))) \/
   (eA l.tail 45=false/\eA l.tail 43=true/\Hid (Cb l=if dg l.tail.tail=[] then none else some (B5 (dg l.tail.tail) 0,fQ l.tail.tail))) \/
   (eA l.tail 45=false/\eA l.tail 43=false/\Hid (Cb l=if dg l.tail=[] then none else some (B5 (dg l.tail) 0,fQ l.tail))):=by
  unfold Hid Cb;grind
 have HS:=Ab hs;have HF:=Ab hf;clear hs hf
 go_enter func224,ntmps224
 go_wp2_with (fail);rcases Aa HF with k|⟨k0,k⟩
 refine (AG 101 _ rfl h k).mono ?_;rintro e w1 ⟨rfl,q8,q5⟩
 rotate_left
 refine (Bk 101 _ rfl h k0).mono ?_;rintro e w0 ⟨rfl,qh,qf⟩;clear k0;have HK:=Ab k;clear k
 go_wp2_with (fail);refine (AG 69 _ rfl qh (Aa HK)).mono ?_
 rintro e w1 ⟨rfl,q8,q5⟩;replace q5:=qf.trans q5;have k:=Aa HK;clear qf qh HK
 rotate_left
 all_goals (
  clear k HF
  go_wp2_with (fail);rcases Aa HS with⟨k2,hE⟩|⟨k2,k3,hE⟩|⟨k2,k3,hE⟩
  refine (AG 45 _ rfl q8 k2).mono ?_;rintro e w3 ⟨rfl,q9,q0⟩;obtain⟨L,hL⟩:∃L,L=l.tail.tail:=⟨_,rfl⟩
  rotate_left
  refine (Bk 45 _ rfl q8 k2).mono ?_;rintro e w2 ⟨rfl,qd,hk2⟩;have K3:=Ab k3;clear k3
  go_wp2_with (fail);refine (AG 43 _ rfl qd (Aa K3)).mono ?_
  rintro e w3 ⟨rfl,q9,q0⟩;replace q0:=hk2.trans q0;obtain⟨L,hL⟩:∃L,L=l.tail.tail:=⟨_,rfl⟩
  rotate_left
  refine (Bk 45 _ rfl q8 k2).mono ?_;rintro e w2 ⟨rfl,qd,hk2⟩;have K3:=Ab k3;clear k3
  go_wp2_with (fail);refine (Bk 43 _ rfl qd (Aa K3)).mono ?_
  rintro e w3 ⟨rfl,q9,q0⟩;replace q0:=hk2.trans q0;obtain⟨L,hL⟩:∃L,L=l.tail:=⟨_,rfl⟩
  rotate_left)
 all_goals (
  rw[<- hL] at q9 hE;replace q0:=q5.trans q0;clear hL k2 q8 q5 HS
  go_wp2_with (fail);refine (Fw q9).mono ?_
  rintro e w4 ⟨rfl,qn,qg⟩;have hkk:=q0.trans qg;have qb:=Ab (UY L);obtain⟨b,hem⟩:∃b,(dg L).isEmpty=b:=⟨_,rfl⟩
  go_wp2_with (fail);generalize hds:dg L=ds at *
  clear h q9 q0 qg hds
  go_loopw [6] (fun n wr=>∃ (k:Nat) (m:Int),k<=ds.length/\n=.int .i64 m/\0<=m/\m<=1000000/\wr=w4.iter ⟨ds.toArray⟩ k/\B5 ds 0=B5 (ds.drop k) m) (fun _ wr=>ds.length-wr.iterPos w4.heap.size)
  case atStart=>exact⟨0,0,by omega,rfl,by omega,by omega,rfl,rfl⟩
  obtain⟨k,m,hk,rfl,qo,qp,rfl,he⟩:=hrel;have HE:=Ab he;clear he;by_cases hlt:k<ds.length
  ·have q6:k<(⟨ds.toArray⟩:ByteArray).size:=by rw[Bc];exact hlt
   have hc:=Aa qb ds[k] (List.getElem_mem hlt);have q4:((⟨ds.toArray⟩:ByteArray)[k]'q6)=ds[k]:=by rfl
   have q7:∀ty,(A6 (.pointer (some ⟨w4.heap.size,0,none⟩)) true ty).run AI (w4.iter ⟨ds.toArray⟩ k)=.ok (.tuple #[.bool true,.int .i64 k,.int .i32 ds[k].toNat]) (w4.iter ⟨ds.toArray⟩ (k+1)):=fun ty=>by
    have:=run_next_ascii (P:=AI) w4 ⟨ds.toArray⟩ k ty q6 (by grind)
    grind
   have qj:Hid (B5 (ds.drop k) m=B5 (ds.drop (k+1)) (min (10*m+((ds[k].toNat:Int)-48)) 1000000)):=by
    unfold Hid;rw[List.drop_eq_getElem_cons hlt];rfl
   generalize qe:ds[k].toNat=c at *;have HC:=Ab qe;clear qe q4
   go_wp2_with (fail)
   grind [eA,dg,B5,Cb,fQ,Bc,OG,Hid]
  ·have q7:∀ty,(A6 (.pointer (some ⟨w4.heap.size,0,none⟩)) true ty).run AI (w4.iter ⟨ds.toArray⟩ k)=.ok (.tuple #[.bool false]) (w4.iter ⟨ds.toArray⟩ k):=fun ty=>
    run_next_end (P:=AI) w4 ⟨ds.toArray⟩ k ty (by rw[Bc];exact hlt)
   go_wp2_with (fail);have qk:Ae R w (w4.iter ⟨ds.toArray⟩ k):=hkk.alloc _
   have qi:RD (w4.iter ⟨ds.toArray⟩ k) R t (fQ L) tw dp fr:=qn.alloc _;have qm:B5 ds 0=m:=by rw[Aa HE,List.drop_eq_nil_of_le (by omega)];rfl
   go_ret2
   refine⟨qk,?_⟩;cases b with
   | false=>exact A5 ⟨_,_,by rw[Aa hE,if_neg (by grind),qm],rfl,qi⟩
   | true=>exact Or.inr ⟨by rw[Aa hE,if_pos (by grind)],_,_,rfl,qi⟩)
end Go.Proofs.YtdpomdelmdofmaaGreatDoor
