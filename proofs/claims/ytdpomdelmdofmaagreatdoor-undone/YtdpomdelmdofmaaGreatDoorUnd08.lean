import Derived.Test.YtdpomdelmdofmaaGreatDoorUnd07
namespace Go.Proofs.YtdpomdelmdofmaaGreatDoor
open Go.Proofs.Tryz
section
set_option maxHeartbeats 2000000
open Go.RowKit
theorem NU{B b R:Nat}{p:Value}{bs:List Value}{w w':World}(h:Lib.BuilderAt 119 5 B b p bs w)(hk:Ad R w w')(hR:R<B):Lib.BuilderAt 119 5 B b p bs w':=by
 obtain⟨hB,v,hb,hown,hne⟩:=h;refine⟨hB,v,(hk.block b (Array.getElem?_eq_some_iff.1 hb).1 (by omega)).trans hb,?_,hne⟩;refine⟨hown.1,hown.2.imp id ?_⟩;rintro⟨g,cap,cur,h1,h2,h3,h4⟩;exact⟨g,cap,cur,h1,h2,(hk.block g (Array.getElem?_eq_some_iff.1 h3).1 (by omega)).trans h3,h4⟩
theorem JB{B b R:Nat}{bs:List Value}{w w':World}(h:IsB B b bs w)(hk:Ad R w w')(hR:R<B):IsB B b bs w' :=
 h.imp (fun h=>NU h hk hR) (fun h=>NU h hk hR)
theorem Ad.belowB{X B:Nat}{w a b:World}(h:Ad X w a)(hb:Below B a b)(hB:w.heap.size<=B):Ad X w b :=
 ⟨hb.os.trans h.os,hb.tape.trans h.tape,hb.output.trans h.output,Nat.le_trans h.size hb.size,fun k hk hx=>(hb.block k (by omega)).trans (h.block k hk hx)⟩
def Xb(o:Option (Sp.By×Sp.By))(e:Ending)(w':World)(R:Nat)(t:ByteArray)(tw:Bool)(dp fr:Int):Prop :=
 (∃s l',o=some (s,l')/\e = .returned (.tuple #[.string ⟨s.toArray⟩,.bool true])/\RD w' R t l' tw dp fr) \/
  (o=none /\ ∃s l',e = .returned (.tuple #[.string s,.bool false])/\RD w' R t l' tw dp fr)
theorem JN{w:World}{R:Nat}{t:ByteArray}{l:Sp.By}{tw:Bool}{dp fr:Int}(h:RD w R t l tw dp fr)(hT:Af w)(hR:NG<=R) :
  Calls Tryz.prog 182 #[.pointer (some ⟨R,0,none⟩)] w fun e w'=>Ad R w w'/\Xb (Sp.quo l) e w' R t tw dp fr:=by
 have h2000:l.length<=2000:=by obtain⟨p,ha,_⟩:=h;have:=ha.len;have:=ha.small;omega
 by_cases k1:Sp.tk l 34=true
 ·have hE:Hid (Sp.quo l=Sp.CN (l.length+1) l.tail):=by unfold Hid Sp.quo;rw[k1];rfl
  have K1:=Ab k1;have hl1:=AO k1;clear k1
  go_enter func182,ntmps182
  go_wp2_with (fail);refine (Am 34 _ rfl h (Aa K1)).mono ?_
  rintro e w1 ⟨rfl,hr1,hk1⟩;have hRlt:=hr1.lt;have hT1:=hT.kept hk1 hR;have hz1:=hk1.size;clear h hT
  go_wp2_with (fail)
  go_loopw [10] (fun _ wr=>∃ (l' acc:Sp.By) (f:Nat),RD wr R t l' tw dp fr/\l'.length<f/\acc.length+4*l'.length<=8000/\IsB w1.heap.size w1.heap.size (Lib.byteCells acc) wr/\Ad R w1 wr /\
    Sp.CN (l.length+1) l.tail=(match Sp.CN f l' with|none=>none|some (s,r)=>some (acc++s,r))) (fun _ wr=>left wr R)
  case atStart =>
   refine⟨l.tail,[],l.length+1,hr1.alloc _,by omega,by simp;omega,Lib.fresh_isBuilder _ _ w1,(Ad.refl R w1).alloc _,?_⟩;cases hx:Sp.CN (l.length+1) l.tail with
   | none=>rfl
   | some x=>rfl
  case round =>
   obtain⟨l',acc,f,hr,hf,hal,hB,hk,he⟩:=hrel;have HE:=Ab he;have HL:=Ab hr.left;have HB:=Ab hB;have hTr:=hT1.kept hk hR;have hzr:=hk.size;clear he hr1 hB;obtain⟨f,rfl⟩:∃g,f=g+1:=⟨f-1,by omega⟩
   by_cases k2:Sp.tk l' 34=true
   ·have K2:=Ab k2;clear k2 hT1
    go_wp2_with (fail);refine (Am 34 _ rfl hr (Aa K2)).mono ?_
    rintro e w2 ⟨rfl,hr2,hk2⟩
    go_wp2_with (fail);refine (Tryz.Builder_String_any w1.heap.size w1.heap.size acc _ (JB (Aa HB) hk2 hRlt) (by have:=hk2.size;omega)).mono ?_
    rintro e w3 ⟨rfl,hb3⟩
    go_wp2_with (fail)
    go_ret2
    refine⟨hk1.trans ((hk.trans hk2).belowB hb3 (Nat.le_refl _)),Or.inl ⟨acc,l'.tail,?_,rfl,?_⟩⟩
    ·rw[Aa hE,Aa HE,Sp.CN,Aa K2];simp
    ·obtain⟨q,ha,hq⟩:=hr2;exact⟨q,ha,(hb3.block R hRlt).trans hq⟩
   ·have K2:=Ab (Ak k2);clear k2
    go_wp2_with (fail);refine (AF 34 _ rfl hr (Aa K2)).mono ?_
    rintro e w2 ⟨rfl,hr2,hk2⟩
    go_wp2_with (fail);refine (L0 hr2 (hTr.kept hk2 hR) hR).mono ?_
    rintro e w3 ⟨hk3,hc⟩;rcases hc with⟨n,r,hs,rfl,hr3⟩|⟨hs,n,r,rfl,hr3⟩
    ·have hn:=KJ hs;have HS:=Ab hs;have b1:(0:Int)<=(n:Int):=by omega
     have b2:(n:Int)<=2147483647:=by omega
     have henc:=KG (n:Int);clear hs
     go_wp2_with (fail);refine (L5 w1.heap.size w1.heap.size (Lib.byteCells acc) n (by omega) (by omega) _ (JB (JB (Aa HB) hk2 hRlt) hk3 hRlt) (by rw[Lib.byteCells_length];omega) (by have:=hk2.size;have:=hk3.size;omega)).mono ?_
     rintro e w4 ⟨⟨m,rfl⟩,hB4,hb4⟩
     go_wp2_with (fail);have hr4:RD w4 R t r tw dp fr:=by obtain⟨q,ha,hq⟩:=hr3;exact⟨q,ha,(hb4.block R hRlt).trans hq⟩
     go_roundw
     case rel =>
      refine⟨r,acc++Lib.encodeRune n,f,hr4,by omega,by simp;omega,Or.inr ?_,((hk.trans hk2).trans hk3).belowB hb4 (Nat.le_refl _),?_⟩
      ·rw[Lib.byteCells_append,Lib.byteCells_encodeRune];exact hB4
      ·rw[Aa HE,Sp.CN,Aa K2];simp only[Bool.false_eq_true,if_false];rw[Aa HS];cases hx:Sp.CN f r with
       | none=>simp[hx]
       | some x=>simp[hx]
     case measure=>rw[hr4.left,Aa HL];exact hn.1
    ·have HS:=Ab hs;clear hs
     go_wp2_with (fail)
     go_ret2
     refine⟨hk1.trans ((hk.trans hk2).trans hk3),Or.inr ⟨?_,_,r,rfl,hr3⟩⟩;rw[Aa hE,Aa HE,Sp.CN,Aa K2];simp only[Bool.false_eq_true,if_false];rw[Aa HS]
 ·have hE:Hid (Sp.quo l=none):=by unfold Hid Sp.quo;rw[if_neg k1]
  have K1:=Ab (Ak k1);clear k1 hT
  go_enter func182,ntmps182
  go_wp2_with (fail);refine (AF 34 _ rfl h (Aa K1)).mono ?_
  rintro e w1 ⟨rfl,hr1,hk1⟩
  go_wp2_with (fail)
  go_ret2
  exact⟨hk1,Or.inr ⟨Aa hE,_,l,rfl,hr1⟩⟩
end

section
set_option maxRecDepth 100000
set_option maxHeartbeats 8000000
open Go.RowKit Go.Maps Go.ChangeMaps Go.WideMaps
theorem Cd:Keyed Tryz.prog 9:=string_keyed underlying9
theorem C9(w:World):(zeroValue 80).run Tryz.prog w = .ok (.pointer none) w:=by kernel_rfl
theorem Y2(s:Sp.By)(h:s.length<=8000):keyOf Tryz.prog 9 (.string ⟨s.toArray⟩)=some (.string s):=by
 have:=Go.WideMaps.keyOf_string_mk underlying9 (s:=⟨s.toArray⟩) (by rw[Aw];unfold maxLen;omega);simpa using this
def RH(f:Nat)(R:Nat)(t:ByteArray)(lv:Int)(w0:World)(p0 p1 p2 vb m N1:Nat)(l:Sp.By)(s:Sp.V×Sp.Fl)(e:Ending)(w':World):Prop :=
 (∃l' s',Sp.CJ (Sp.val f (lv+1)) l s=some (l',s')/\e = .returned (.bool true)/\F4 f R t lv w0 p0 p1 p2 vb m N1 w' l' s')\/(Sp.CJ (Sp.val f (lv+1)) l s=none/\e = .returned (.bool false)/\RdJ R t w0 p2 vb w')
theorem PT{f R:Nat}{t:ByteArray}{lv:Int}{w0:World}{p0 p1 p2 vb m N1:Nat}(B:DS w0 R p0 p1 p2 vb N1)(hV:EM f)(hlv:0<=lv)(w:World)(l:Sp.By)(s:Sp.V)(tw:Bool)(dp fr:Int)(hI:F4 f R t lv w0 p0 p1 p2 vb m N1 w l (s,(tw,dp,fr)))(hl:l.length<f)(hb:lv+f<=4999) :
  Calls Tryz.prog 218 #[.pointer (some ⟨R,0,none⟩),.pointer (some ⟨vb,0,none⟩),.int .i64 (lv+1)] w fun e w'=>RH f R t lv w0 p0 p1 p2 vb m N1 l (s,(tw,dp,fr)) e w':=by
 have hml:=Cd;have hmz:=C9;have h2000:l.length<=2000:=by obtain⟨p,ha,_⟩:=hI.rd;have:=ha.len;have:=ha.small;omega
 have HI:=Ab hI;have hr:=hI.rd;simp only at hr;have hT:=hI.laid;clear hI
 go_enter func218,ntmps218
 go_wp2_with (fail);refine (JN hr hT B.ng).mono ?_
 rintro e w1 ⟨hk1,hc⟩;rcases hc with⟨k,l1,hq,rfl,hr1⟩|⟨hq,k,l1,rfl,hr1⟩
 rotate_left
 ·have HQ:=Ab hq;clear hq hT
  go_wp2_with (fail)
  go_ret;refine Or.inr ⟨?_,rfl,?_⟩
  ·unfold Sp.CJ;rw[Aa HQ]
  ·have h9:=MT B (fl':=(tw,dp,fr)) (l':=[]) (w':=w1) (Aa HI);exact⟨(Aa HI).kept.trans hk1,⟨_,_,_,_,hr1⟩,(hk1.block p2 (by have:=B.a2;have:=(Aa HI).sz;omega) (by have:=B.a2;have:=B.r;omega)).trans (Aa HI).b2⟩
 have HQ:=Ab hq;have hql:=Sp.F8 hq;have hqb:=Xg hq;clear hq
 go_wp2_with (fail);refine (B4 hr1).mono ?_
 rintro e w2 ⟨rfl,hr2,hk2⟩;have hs1:=Sp.AX l1;by_cases k1:Sp.tk (Sp.skB l1) 58=true
 rotate_left
 ·have K1:=Ab (Ak k1);clear k1 hT
  go_wp2_with (fail);refine (AF 58 _ rfl hr2 (Aa K1)).mono ?_
  rintro e w3 ⟨rfl,hr3,hk3⟩;have hkk:=(hk1.trans hk2).trans hk3
  go_wp2_with (fail)
  go_ret;refine Or.inr ⟨?_,rfl,?_⟩
  ·unfold Sp.CJ;rw[Aa HQ];simp only;rw[Aa K1];rfl
  ·exact⟨(Aa HI).kept.trans hkk,⟨_,_,_,_,hr3⟩,(hkk.block p2 (by have:=B.a2;have:=(Aa HI).sz;omega) (by have:=B.a2;have:=B.r;omega)).trans (Aa HI).b2⟩
 have K1:=Ab k1;have hl2:=AO k1;clear k1
 go_wp2_with (fail);refine (Am 58 _ rfl hr2 (Aa K1)).mono ?_
 rintro e w3 ⟨rfl,hr3,hk3⟩
 go_wp2_with (fail);refine (B4 hr3).mono ?_
 rintro e w4 ⟨rfl,hr4,hk4⟩;have hs3:=Sp.AX (Sp.skB l1).tail;have hk04:=((hk1.trans hk2).trans hk3).trans hk4
 go_wp2_with (fail);refine (hV R t (lv+1) _ _ _ _ w4 hr4 (hT.kept hk04 B.ng) B.ng (by omega) (by omega) (by omega)).mono ?_
 rintro e w5 ⟨hk5,hc⟩;have hk05:=hk04.trans hk5;have bR:=B.r;have av:=B.av;have a2:=B.a2;have bm:=(Aa HI).bm;have hsz:=(Aa HI).sz;obtain⟨n,D,es,hn,hes,ho,hp⟩:=(Aa HI).el;simp only at hes;have ho5:=AJ ho (hk05.block m (B0 ho) (by omega));have hvb5:=(Aa HI).hvb.kept (hk05.block vb (Aa HI).hvb.lt (by omega));have q6:w5.cell? ⟨vb,6,none⟩=some (.map (some m)):=by simp[World.cell?,show w5.heap[vb]? = _ from hvb5]
 have hkl:keyOf Tryz.prog 9 (.string ⟨k.toArray⟩)=some (.string k):=Y2 k (by omega);have HM:=Ab (show Sp.CJ (Sp.val f (lv+1)) l (s,(tw,dp,fr))=(match Sp.val f (lv+1) (Sp.skB (Sp.skB l1).tail) (tw,dp,fr) with
  | none=>none
  | some (v,r,fl)=>some (r,(DataW.put s (.string k) v,(fl.1 || Maps.has s (.string k),fl.2)))) from by
   unfold Sp.CJ;rw[Aa HQ];simp only;rw[Aa K1];rfl)
 have hhas:Hid (Maps.has s (.string k)=Maps.has (.map D) (.string k)):=by rw[Hid,hes];exact (hp.pt.has _).symm
 have HOO:=Ab ho5;have HKL:=Ab hkl;have HN:=Ab (show n<maxLen by unfold maxLen;omega);have HES:=Ab hes;have HPP:=Ab hp;have HN2:=Ab hn;clear ho5 hkl hes hp hn ho;generalize Sp.skB (Sp.skB l1).tail=l4 at *;rcases hc with⟨d,r,fl',p,hs,rfl,hr5,hrep⟩|⟨hs,p,rfl,r,tw5,dp5,fr5,hr5⟩
 ·have HS:=Ab hs;clear hs hT;cases hh:Maps.has (.map D) (.string k) with
  | false =>
   have HH:=Ab hh;clear hh
   go_wp2_with (first|(at_lookup;refine wpList_lookup_own_ok _ rfl _ _ 109 rfl 9 80 hml underlying109 RV (hmz _) (.held (.pointer none)) [] rfl m n (.map D) rfl (Aa HOO) _ _ rfl (Aa HKL) ?_))
   intro v0 ps0 hv0;clear hv0;rw[Aa HH]
   go_wp2_with (first|(at_mapUpdate;refine wpList_mapUpdate_own _ rfl _ _ _ 109 rfl 9 80 hml underlying109 RV m n (.map D) rfl (Aa HOO) (Aa HN) _ _ _ rfl rfl (Aa HKL) (.held (.pointer p)) [] rfl ?_))
   intro w6 ho6 hg6
   go_wp2_with (fail)
   go_ret;have hf:=Ip B (Aa HI) hk05 hr5 (Aa HN2) (Aa HES) (Aa HPP) ho6 hg6
   refine Or.inl ⟨r,(DataW.put s (.string k) d,(fl'.1,fl'.2)),?_,rfl,?_⟩
   ·rw[Aa HM,Aa HS];simp only;rw[Aa hhas,Aa HH];simp
   ·have hl5:=Sp.Ep _ _ _ _ _ _ _ (Aa HS);exact hf.2.2.2 d (hrep.move hk04.size fun j h1 h2=>rfl) (by omega)
  | true =>
   have HH:=Ab hh;clear hh;obtain⟨q,ha,hq⟩:=hr5;have z2:=hq.fz 2;have y2:=hq.c2;have hr6:RD (w5.setCell ⟨R,2,none⟩ (.bool true)) R t r true fl'.2.1 fl'.2.2:=⟨q,ha,hq.set2 true⟩
   have hk06:Ad R w (w5.setCell ⟨R,2,none⟩ (.bool true)):=hk05.setCell rfl _;have HO6:=Ab (AJ (Aa HOO) (show (w5.setCell ⟨R,2,none⟩ (.bool true)).heap[m]? = w5.heap[m]? from Below.heap_setCell _ _ _ _ (show m≠R by omega)));have q6':(w5.setCell ⟨R,2,none⟩ (.bool true)).cell? ⟨vb,6,none⟩=some (.map (some m)):=(World.cell?_of_block (w:=w5) (Below.heap_setCell _ _ _ _ (show vb≠R by omega))).trans q6
   go_wp2_with (first|(at_lookup;refine wpList_lookup_own_ok _ rfl _ _ 109 rfl 9 80 hml underlying109 RV (hmz _) (.held (.pointer none)) [] rfl m n (.map D) rfl (Aa HOO) _ _ rfl (Aa HKL) ?_))
   intro v0 ps0 hv0;clear hv0;rw[Aa HH]
   go_wp2_with (first|(at_mapUpdate;refine wpList_mapUpdate_own _ rfl _ _ _ 109 rfl 9 80 hml underlying109 RV m n (.map D) rfl (Aa HO6) (Aa HN) _ _ _ rfl rfl (Aa HKL) (.held (.pointer p)) [] rfl ?_))
   intro w6 ho6 hg6
   go_wp2_with (fail)
   go_ret;have hf:=Ip B (Aa HI) hk06 hr6 (Aa HN2) (Aa HES) (Aa HPP) ho6 hg6
   refine Or.inl ⟨r,(DataW.put s (.string k) d,(true,fl'.2)),?_,rfl,?_⟩
   ·rw[Aa HM,Aa HS];simp only;rw[Aa hhas,Aa HH];simp
   ·have hl5:=Sp.Ep _ _ _ _ _ _ _ (Aa HS);exact hf.2.2.2 d (hrep.move hk04.size fun j h1 h2=>Below.heap_setCell _ _ _ _ (show j≠R by have:=hk04.size;omega)) (by omega)
 ·have HS:=Ab hs;clear hs hT;cases hh:Maps.has (.map D) (.string k) with
  | false =>
   have HH:=Ab hh;clear hh
   go_wp2_with (first|(at_lookup;refine wpList_lookup_own_ok _ rfl _ _ 109 rfl 9 80 hml underlying109 RV (hmz _) (.held (.pointer none)) [] rfl m n (.map D) rfl (Aa HOO) _ _ rfl (Aa HKL) ?_))
   intro v0 ps0 hv0;clear hv0;rw[Aa HH]
   go_wp2_with (first|(at_mapUpdate;refine wpList_mapUpdate_own _ rfl _ _ _ 109 rfl 9 80 hml underlying109 RV m n (.map D) rfl (Aa HOO) (Aa HN) _ _ _ rfl rfl (Aa HKL) (.held (.pointer p)) [] rfl ?_))
   intro w6 ho6 hg6
   go_wp2_with (fail)
   go_ret;have hf:=Ip B (Aa HI) hk05 hr5 (Aa HN2) (Aa HES) (Aa HPP) ho6 hg6
   refine Or.inr ⟨?_,rfl,hf.1,⟨_,_,_,_,hf.2.1⟩,hf.2.2.1⟩;rw[Aa HM,Aa HS]
  | true =>
   have HH:=Ab hh;clear hh;obtain⟨q,ha,hq⟩:=hr5;have z2:=hq.fz 2;have y2:=hq.c2;have hr6:RD (w5.setCell ⟨R,2,none⟩ (.bool true)) R t r true dp5 fr5:=⟨q,ha,hq.set2 true⟩
   have hk06:Ad R w (w5.setCell ⟨R,2,none⟩ (.bool true)):=hk05.setCell rfl _;have HO6:=Ab (AJ (Aa HOO) (show (w5.setCell ⟨R,2,none⟩ (.bool true)).heap[m]? = w5.heap[m]? from Below.heap_setCell _ _ _ _ (show m≠R by omega)));have q6':(w5.setCell ⟨R,2,none⟩ (.bool true)).cell? ⟨vb,6,none⟩=some (.map (some m)):=(World.cell?_of_block (w:=w5) (Below.heap_setCell _ _ _ _ (show vb≠R by omega))).trans q6
   go_wp2_with (first|(at_lookup;refine wpList_lookup_own_ok _ rfl _ _ 109 rfl 9 80 hml underlying109 RV (hmz _) (.held (.pointer none)) [] rfl m n (.map D) rfl (Aa HOO) _ _ rfl (Aa HKL) ?_))
   intro v0 ps0 hv0;clear hv0;rw[Aa HH]
   go_wp2_with (first|(at_mapUpdate;refine wpList_mapUpdate_own _ rfl _ _ _ 109 rfl 9 80 hml underlying109 RV m n (.map D) rfl (Aa HO6) (Aa HN) _ _ _ rfl rfl (Aa HKL) (.held (.pointer p)) [] rfl ?_))
   intro w6 ho6 hg6
   go_wp2_with (fail)
   go_ret;have hf:=Ip B (Aa HI) hk06 hr6 (Aa HN2) (Aa HES) (Aa HPP) ho6 hg6
   refine Or.inr ⟨?_,rfl,hf.1,⟨_,_,_,_,hf.2.1⟩,hf.2.2.1⟩;rw[Aa HM,Aa HS]
end

section
set_option maxHeartbeats 4000000
open Go.RowKit Go.Maps
theorem TR(f:Nat)(lv:Int)(l:Sp.By)(s:Sp.V×Sp.Fl)(l':Sp.By)(s':Sp.V×Sp.Fl)(h:Sp.CJ (Sp.val f lv) l s=some (l',s')):l'.length<l.length:=by
 unfold Sp.CJ at h;split at h
 ·cases h
 ·rename_i k l1 hq;have a:=Sp.F8 hq;have b:=Sp.AX l1;split at h
  ·have c:=Sp.AX (Sp.skB l1).tail;have d:=List.length_tail (l:=Sp.skB l1);split at h
   ·cases h
   ·rename_i v r fl hv;have:=Sp.Ep _ _ _ _ _ _ _ hv;injection h with h;injection h with h1 h2;subst h1;omega
  ·cases h
theorem TF{f R:Nat}{t:ByteArray}{lv:Int}{w0:World}{p0 p1 p2 vb m N1:Nat}(B:DS w0 R p0 p1 p2 vb N1)(hV:EM f)(hlv:0<=lv)(hb:lv+f<=4999)(w:World)(l:Sp.By)(s:Sp.V×Sp.Fl)(hI:F4 f R t lv w0 p0 p1 p2 vb m N1 w l s)(hl:l.length<f) :
  Calls Tryz.prog 217 #[.pointer (some ⟨p0,0,none⟩),.pointer (some ⟨p2,0,none⟩),.pointer (some ⟨p1,0,none⟩)] w fun e w'=>RH f R t lv w0 p0 p1 p2 vb m N1 l s e w':=by
 have c0:w.cell? ⟨p0,0,none⟩=some (.pointer (some ⟨R,0,none⟩)):=by simp[World.cell?,hI.b0]
 have c1:w.cell? ⟨p1,0,none⟩=some (.int .i64 lv):=by simp[World.cell?,hI.b1]
 have c2:w.cell? ⟨p2,0,none⟩=some (.pointer (some ⟨vb,0,none⟩)):=by simp[World.cell?,hI.b2]
 have hlv2:lv<=4999:=by omega
 have HI:=Ab hI;clear hI
 go_enter func217,ntmps217
 go_wp2_with (fail);refine (PT B hV hlv w l s.1 s.2.1 s.2.2.1 s.2.2.2 (Aa HI) hl hb).mono ?_
 rintro e w2 hc;rcases hc with⟨l',s',h1,rfl,h2⟩|⟨h1,rfl,h2⟩
 ·have H1:=Ab h1;have H2:=Ab h2;clear h1 h2
  go_wp2_with (fail)
  go_ret;exact Or.inl ⟨l',s',Aa H1,rfl,Aa H2⟩
 ·have H1:=Ab h1;have H2:=Ab h2;clear h1 h2
  go_wp2_with (fail)
  go_ret;exact Or.inr ⟨Aa H1,rfl,Aa H2⟩
theorem Xq{f R:Nat}{t:ByteArray}{lv:Int}{w0:World}{p0 p1 p2 vb m N1:Nat}(B:DS w0 R p0 p1 p2 vb N1)(hV:EM f)(hlv:0<=lv)(hb:lv+f<=4999) :
  ItemOk 217 #[.pointer (some ⟨p0,0,none⟩),.pointer (some ⟨p2,0,none⟩),.pointer (some ⟨p1,0,none⟩)] R t f (Sp.CJ (Sp.val f (lv+1))) (F4 f R t lv w0 p0 p1 p2 vb m N1) (RdJ R t w0 p2 vb) where
 rd:=fun w l s h=>⟨_,_,_,h.rd⟩
 move:=fun w w' l l' s tw dp fr h h1 h2 hk hl=>by
  obtain⟨_,_,e1,e2,e3⟩:=h.rd.uniq h1;exact MT B (fl':=s.2) h (by rw[e1,e2,e3];exact h2) hk hl
 out:=fun w l s h=>⟨h.kept,⟨_,_,_,_,h.rd⟩,h.b2⟩
 len:=fun l s l' s' h=>TR _ _ _ _ _ _ h
 call:=fun w l s h hl=>TF B hV hlv hb w l s h hl
def Xr(f:Nat)(lv:Int)(l:Sp.By)(fl:Sp.Fl)(e:Ending)(w w':World)(R:Nat)(t:ByteArray):Prop :=
 (∃v r fl' p,Sp.Bh 123 125 (Sp.CJ (Sp.val f (lv+1))) l (Sp.Av [],fl)=some (r,(v,fl'))/\e = .returned (.tuple #[.pointer p,.bool true])/\RD w' R t r fl'.1 fl'.2.1 fl'.2.2/\Tr (f+1) w.heap.size w' (.pointer p) v) \/
  (Sp.Bh 123 125 (Sp.CJ (Sp.val f (lv+1))) l (Sp.Av [],fl)=none /\ ∃p,e = .returned (.tuple #[.pointer p,.bool false]) /\ ∃r tw dp fr,RD w' R t r tw dp fr)
theorem V1{f R:Nat}{t:ByteArray}{lv:Int}{w0:World}{p0 p1 p2 vb m N1:Nat}(B:DS w0 R p0 p1 p2 vb N1){w:World}{l:Sp.By}{s:Sp.V×Sp.Fl}(h:F4 f R t lv w0 p0 p1 p2 vb m N1 w l s) :
  Tr (f+1) w0.heap.size w (.pointer (some ⟨vb,0,none⟩)) s.1:=by
 have av:=B.av;have bm:=h.bm;obtain⟨n,D,es,hn,he,ho,hp⟩:=h.el;rw[he];exact hp.obj av ⟨bm.1,bm.2.1⟩ (by omega) h.hvb ho
theorem Y6(w:World)(o0 o1 o2 o3 o4:Obj):(((((w.alloc o0).alloc o1).alloc o2).alloc o3).alloc o4).heap[w.heap.size]? = some o0/\(((((w.alloc o0).alloc o1).alloc o2).alloc o3).alloc o4).heap[w.heap.size+1]? = some o1 /\
  (((((w.alloc o0).alloc o1).alloc o2).alloc o3).alloc o4).heap[w.heap.size+1+1]? = some o2/\(((((w.alloc o0).alloc o1).alloc o2).alloc o3).alloc o4).heap[w.heap.size+1+1+1]? = some o3/\(((((w.alloc o0).alloc o1).alloc o2).alloc o3).alloc o4).heap[w.heap.size+1+1+1+1]? = some o4:=by
 have h (k:Nat):(((((w.alloc o0).alloc o1).alloc o2).alloc o3).alloc o4).heap[k]? = (((((w.heap.push o0).push o1).push o2).push o3).push o4)[k]?:=rfl;rw[h,h,h,h,h];simp only[Array.getElem?_push,Array.size_push];refine⟨?_,?_,?_,?_,?_⟩
 ·rw[if_neg (by omega),if_neg (by omega),if_neg (by omega),if_neg (by omega),if_pos trivial]
 ·rw[if_neg (by omega),if_neg (by omega),if_neg (by omega),if_pos trivial]
 ·rw[if_neg (by omega),if_neg (by omega),if_pos trivial]
 ·rw[if_neg (by omega),if_pos trivial]
 ·rw[if_pos trivial]
theorem PN{f R:Nat}{t:ByteArray}{lv:Int}{l:Sp.By}{tw:Bool}{dp fr:Int}{w:World}(hV:EM f)(h:RD w R t l tw dp fr)(hT:Af w)(hR:NG<=R)(hl:l.length<=f)(hlv:0<=lv)(hb:lv+f<=4999) :
  Calls Tryz.prog 180 #[.pointer (some ⟨R,0,none⟩),.int .i64 lv] w fun e w'=>Ad R w w'/\Xr f lv l (tw,dp,fr) e w w' R t:=by
 have hmm:=@run_makeMap Tryz.prog;have hRl:=h.lt;have h2000:l.length<=2000:=by obtain⟨p,ha,_⟩:=h;have:=ha.len;have:=ha.small;omega
 have B:DS w R w.heap.size (w.heap.size+1) (w.heap.size+1+1+1+1) (w.heap.size+1+1+1) (w.heap.size+5):=⟨hRl,hR,by omega,by omega,by omega,by omega,by omega,by omega,by omega⟩
 have hI:Hid (∀W,W=(((((w.alloc (.cells #[.pointer (some ⟨R,0,none⟩)] 153)).alloc (.cells #[.int .i64 lv] 3)).alloc (.map #[] 0)).alloc (.cells #[.int .i64 6,.bool false,.string ⟨#[]⟩,.int .i64 0,.string ⟨#[]⟩,.slice none 0 0,.map (some (w.heap.size+1+1))] 111)).alloc (.cells #[.pointer (some ⟨w.heap.size+1+1+1,0,none⟩)] 80)) ->
   F4 f R t lv w w.heap.size (w.heap.size+1) (w.heap.size+1+1+1+1) (w.heap.size+1+1+1) (w.heap.size+1+1) (w.heap.size+5) W l (Sp.Av [],(tw,dp,fr))):=by
  rintro W rfl;have hf:=Y6 w (.cells #[.pointer (some ⟨R,0,none⟩)] 153) (.cells #[.int .i64 lv] 3) (.map #[] 0) (.cells #[.int .i64 6,.bool false,.string ⟨#[]⟩,.int .i64 0,.string ⟨#[]⟩,.slice none 0 0,.map (some (w.heap.size+1+1))] 111) (.cells #[.pointer (some ⟨w.heap.size+1+1+1,0,none⟩)] 80);have hk:=(((((Ad.refl R w).alloc (.cells #[.pointer (some ⟨R,0,none⟩)] 153)).alloc (.cells #[.int .i64 lv] 3)).alloc (.map #[] 0)).alloc (.cells #[.int .i64 6,.bool false,.string ⟨#[]⟩,.int .i64 0,.string ⟨#[]⟩,.slice none 0 0,.map (some (w.heap.size+1+1))] 111)).alloc (.cells #[.pointer (some ⟨w.heap.size+1+1+1,0,none⟩)] 80);have hm:((w.alloc (.cells #[.pointer (some ⟨R,0,none⟩)] 153)).alloc (.cells #[.int .i64 lv] 3)).heap.size=w.heap.size+1+1:=by simp
  have hmap:=World.ownsMap_made ((w.alloc (.cells #[.pointer (some ⟨R,0,none⟩)] 153)).alloc (.cells #[.int .i64 lv] 3)) Tryz.prog 9 RV;rw[hm] at hmap;refine⟨((((h.alloc _).alloc _).alloc _).alloc _).alloc _,hk,hT.kept hk hR,hf.1,hf.2.1,hf.2.2.2.2,by simp,⟨by omega,by omega,by omega,by omega,by omega,by omega⟩,hf.2.2.2.1,0,[],[],by omega,rfl,?_,TrM.nil _ _ _⟩;exact AJ (AJ hmap (Below.heap_alloc _ _ _ (B0 hmap))) (Below.heap_alloc _ _ _ (by simp))
 have K:=Xq (t:=t) (m:=w.heap.size+1+1) B hV hlv hb;clear hT
 go_enter func180,ntmps180
 go_wp2_with (fail);refine (T6 _ _ _ 123 125 123 125 rfl rfl R t f _ _ _ K _ l (Sp.Av [],(tw,dp,fr)) (Aa hI _ rfl) hl).mono ?_
 rintro e w5 hc;rcases hc with⟨l',s',hs,rfl,hI5⟩|⟨hs,rfl,hJ⟩
 ·have HS:=Ab hs;have hb2:=hI5.b2;have q2:w5.cell? ⟨w.heap.size+1+1+1+1,0,none⟩=some (.pointer (some ⟨w.heap.size+1+1+1,0,none⟩)):=by simp[World.cell?,hb2]
  have HI:=Ab hI5;clear hs hI5 hb2 hI
  go_wp2_with (fail)
  go_ret2
  exact⟨(Aa HI).kept,Or.inl ⟨s'.1,l',s'.2,_,Aa HS,rfl,(Aa HI).rd,V1 B (Aa HI)⟩⟩
 ·have HS:=Ab hs;have hb2:=hJ.2.2;have q2:w5.cell? ⟨w.heap.size+1+1+1+1,0,none⟩=some (.pointer (some ⟨w.heap.size+1+1+1,0,none⟩)):=by simp[World.cell?,hb2]
  have HJ:=Ab hJ;clear hs hJ hb2 hI
  go_wp2_with (fail)
  go_ret2
  exact⟨(Aa HJ).1,Or.inr ⟨Aa HS,_,rfl,(Aa HJ).2.1⟩⟩
end

section
set_option maxHeartbeats 4000000
open Go.RowKit
def CE(j:Nat):Sp.By:=Sp.words.getD j []
theorem Vi(w:World):(Instr.index 165 (.agg Cw) (.int .i64 0)).run Tryz.prog w = .ok (.string ⟨#[110,117,108,108]⟩) w:=by kernel_rfl
theorem Vh(w:World):(Instr.index 165 (.agg Cw) (.int .i64 1)).run Tryz.prog w = .ok (.string ⟨#[116,114,117,101]⟩) w:=by kernel_rfl
theorem Vg(w:World):(Instr.index 165 (.agg Cw) (.int .i64 2)).run Tryz.prog w = .ok (.string ⟨#[102,97,108,115,101]⟩) w:=by kernel_rfl
theorem S4(j:Nat)(hj:j<3)(w:World):(Instr.index 165 (.agg Cw) (.int .i64 j)).run Tryz.prog w = .ok (.string ⟨(CE j).toArray⟩) w:=by
 match j,hj with
 | 0,_=>exact Vi w
 | 1,_=>exact Vh w
 | 2,_=>exact Vg w
theorem QJ(l:Sp.By)(j:Nat)(hj:j<3):Sp.Cv l j (Sp.words.drop j)=if Lib.hasPrefix l (CE j) then some (j,l.drop (CE j).length) else Sp.Cv l (j+1) (Sp.words.drop (j+1)):=by
 match j,hj with
 | 0,_=>rfl
 | 1,_=>rfl
 | 2,_=>rfl
theorem G9(j:Nat)(hj:j<3):(CE j).length<=5:=by
 match j,hj with
 | 0,_=>decide
 | 1,_=>decide
 | 2,_=>decide
theorem EA(w:World)(o:Obj)(b:Nat)(hb:b=w.heap.size):(w.alloc o).heap[b]? = some o:=by
 subst hb;show (w.heap.push o)[w.heap.size]? = _;simp
def Vj(o:Option (Nat×Sp.By))(l:Sp.By)(e:Ending)(w w':World)(R:Nat)(t:ByteArray)(tw:Bool)(dp fr:Int):Prop :=
 (∃k l' b,o=some (k,l')/\e = .returned (.tuple #[.pointer (some ⟨b,0,none⟩),.bool true])/\k<3/\VB w' b k n0 [] (.slice none 0 0) (.map none)/\w.heap.size<=b/\RD w' R t l' tw dp fr) \/
  (o=none/\e = .returned (.tuple #[.pointer none,.bool false])/\RD w' R t l tw dp fr)
theorem S5{w:World}{R:Nat}{t:ByteArray}{l:Sp.By}{tw:Bool}{dp fr:Int}(h:RD w R t l tw dp fr)(hT:Af w) :
  Calls Tryz.prog 185 #[.pointer (some ⟨R,0,none⟩)] w fun e w'=>Ad R w w'/\Vj (Sp.Cv l 0 Sp.words) l e w w' R t tw dp fr:=by
 obtain⟨tt,fz,hg1⟩:=hT.words;clear hT
 go_enter func185,ntmps185
 go_wp2_with (refine wpList_load_row rfl 165 _ rfl 0 rfl tt _ fz _ hg1 underlying165 rfl (by kernel_rfl) ?_)
 clear hg1
 go_loopw [7] (fun i wr=>∃j:Nat,j<=3/\i = .int .i64 j/\RD wr R t l tw dp fr/\Ad R w wr/\Sp.Cv l 0 Sp.words=Sp.Cv l j (Sp.words.drop j)) (fun i _=>3-(intOf i).toNat)
 case atStart=>exact⟨0,by omega,rfl,h,Ad.refl R w,rfl⟩
 case round =>
  obtain⟨j,hj3,rfl,hr,hk,he⟩:=hrel;have HE:=Ab he;clear he h;by_cases hlt:j<3
  ·have hidx:=S4 j hlt;have hwl:=G9 j hlt;obtain⟨q,ha,hq⟩:=hr;have c0:=hq.c0;have c1:=hq.c1;have f1:=hq.fz 1;have b2:(q:Int)<=(t.size:Int):=by have:=ha.le;omega
   have b3:(q:Int)<=2000:=by have:=ha.le;have:=ha.small;omega
   have cH:∀W:World,Calls Tryz.prog 194 #[.string (t.extract q t.size),.string ⟨(CE j).toArray⟩] W fun e w'=>e = .returned (.bool (Lib.hasPrefix l (CE j)))/\w'=W:=fun W=>by
    have:=Tryz.strings_HasPrefix (t.extract q t.size) ⟨(CE j).toArray⟩ W;rw[Lib.extract_to_end,ha.eq] at this;exact this
   have CH:=Ab cH;have HQ:=Ab hq;have HA:=Ab ha;have HS:=Ab (QJ l j hlt);generalize hwj:CE j=wj at *;clear hwj;clear hq ha cH;by_cases hp:Lib.hasPrefix l wj=true
   ·have HP:=Ab hp;have hpl:wj.length<=l.length:=by
     have:=hp;unfold Lib.hasPrefix at this;exact (List.isPrefixOf_iff_prefix.1 this).length_le
    have C1:Hid (∀W:World,Calls Tryz.prog 194 #[.string (t.extract q t.size),.string ⟨wj.toArray⟩] W fun e w'=>e = .returned (.bool true)/\w'=W):=by
     have:=Aa CH;rw[hp] at this;exact this
    clear hp CH
    go_wp2_with (fail)
    go_quiet ((go_at_call 194;exact Calls.quiet_of_same (Aa C1 _)))
    go_wp2_with (fail);have hfin:RD ((((wr.drewN nq).setCell ⟨R,1,none⟩ (.int .i64 ((q:Int)+wj.length))).alloc (.cells #[.int .i64 j,.bool false,.string ⟨#[]⟩,.int .i64 0,.string ⟨#[]⟩,.slice none 0 0,.map none] 111))) R t (l.drop wj.length) tw dp fr :=
     ⟨q+wj.length,(Aa HA).add wj.length hpl,(((Aa HQ).drewN nq).set1 (q+wj.length)).alloc _⟩
    go_ret2
    refine⟨((hk.drewN nq).setCell (p:=⟨R,1,none⟩) rfl _).alloc _,Or.inl ⟨j,l.drop wj.length,wr.heap.size,?_,rfl,hlt,EA _ _ _ (by simp[World.setCell]),hk.size,hfin⟩⟩;rw[Aa HE,Aa HS,Aa HP];rfl
   ·replace hp:Lib.hasPrefix l wj=false:=by simpa using hp
    have HP:=Ab hp;have C1:Hid (∀W:World,Calls Tryz.prog 194 #[.string (t.extract q t.size),.string ⟨wj.toArray⟩] W fun e w'=>e = .returned (.bool false)/\w'=W):=by
     have:=Aa CH;rw[hp] at this;exact this
    clear hp CH
    go_wp2_with (fail)
    go_quiet ((go_at_call 194;exact Calls.quiet_of_same (Aa C1 _)))
    go_wp2_with (fail)
    go_roundw
    case rel=>exact⟨j+1,by omega,by go_num,⟨q,Aa HA,(Aa HQ).drewN _⟩,hk.drewN _,by rw[Aa HE,Aa HS,Aa HP];rfl⟩
    case measure=>simp[intOf];omega
  ·go_wp2_with (fail)
   go_ret2
   refine⟨hk,Or.inr ⟨?_,rfl,hr⟩⟩;rw[Aa HE,show j=3 by omega];rfl
end

section
set_option maxHeartbeats 4000000
open Go.RowKit
theorem Xu{w:World}{R:Nat}{t:ByteArray}{l:Sp.By}{tw:Bool}{dp fr:Int}(h:RD w R t l tw dp fr)(k1:Sp.tk l 45=false)(hd:Sp.dg l=[]) :
  Calls Tryz.prog 184 #[.pointer (some ⟨R,0,none⟩)] w fun e w'=>Ad R w w'/\B5 (Sp.num l) e w' R t tw dp fr:=by
 have hE:Hid (Sp.num l=none):=by
  unfold Hid Sp.num Sp.BH;simp[k1,hd]
 have K1:=Ab k1;have HD:=Ab hd;have hRw:=h.lt;have h2000:l.length<=2000:=by obtain⟨p,ha,_⟩:=h;have:=ha.len;have:=ha.small;omega
 clear k1 hd
 go_enter func184,ntmps184
 go_wp2_with (fail);refine (AF 45 _ rfl (h.alloc _) (Aa K1)).mono ?_
 rintro e w1 ⟨rfl,hr1,hk1⟩
 go_wp2_with (fail);refine (AC hr1).mono ?_
 rintro e w2 ⟨rfl,hr2,hk2⟩;rw[Aa HD];have hs2:=((BA.new w).kept hk1 (by omega)).kept hk2 (by omega);have hkk2:=(((Ad.refl R w).alloc _).trans hk1).trans hk2;have s0:=hs2.c0;have s1:=hs2.c1;have s2:=hs2.c2;have z0:=hs2.fz 0;have z1:=hs2.fz 1;have z2:=hs2.fz 2
 go_wp2_with (fail);refine bodyPost_ret (v:=.tuple #[AD (false,[],0),.bool false]) (by simp[results,results184,go_sem,AD,s0,s1,s2]) rfl ⟨?_,Or.inr ⟨Aa hE,rfl,Sp.dgR l,?_⟩⟩
 ·exact (((hkk2.setCell_new (by simp) _).setCell_new (by simp) _).setCell_new (by simp) _)
 ·exact (hr2.kept (((Ad.refl w.heap.size w2).setCell (p:=⟨w.heap.size,0,none⟩) rfl _ |>.setCell (p:=⟨w.heap.size,1,none⟩) rfl _).setCell (p:=⟨w.heap.size,2,none⟩) rfl _) (by omega))
theorem Xt{w:World}{R:Nat}{t:ByteArray}{l:Sp.By}{tw:Bool}{dp fr:Int}(h:RD w R t l tw dp fr)(k1:Sp.tk l 45=false)(d:UInt8)(ds:Sp.By)(hd:Sp.dg l=d::ds)(hz:d=48)(hds:1<ds.length+1) :
  Calls Tryz.prog 184 #[.pointer (some ⟨R,0,none⟩)] w fun e w'=>Ad R w w'/\B5 (Sp.num l) e w' R t tw dp fr:=by
 have hE:Hid (Sp.num l=none):=by
  unfold Hid Sp.num Sp.BH;have h1:Sp.tk l 48=true:=by rw[Ea hd,hz];rfl
  have h4:0<ds.length:=by omega
  simp[k1,hd,h1,h4]
 have K1:=Ab k1;have HD:=Ab hd;have h0:=B9 d ds (Ax d ds);have g48:((((⟨(d::ds).toArray⟩:ByteArray)[0]'(Ax d ds)).toNat:Int) == 48)=true:=by rw[h0,hz];rfl
 have gl:decide ((1:Int)<(ds.length:Int)+1)=true:=by simp;omega
 have hRw:=h.lt;have h2000:l.length<=2000:=by obtain⟨p,ha,_⟩:=h;have:=ha.len;have:=ha.small;omega
 clear k1 hd hds h0 hz
 go_enter func184,ntmps184
 go_wp2_with (fail);refine (AF 45 _ rfl (h.alloc _) (Aa K1)).mono ?_
 rintro e w1 ⟨rfl,hr1,hk1⟩
 go_wp2_with (fail);refine (AC hr1).mono ?_
 rintro e w2 ⟨rfl,hr2,hk2⟩;rw[Aa HD];have hs2:=((BA.new w).kept hk1 (by omega)).kept hk2 (by omega);have hkk2:=(((Ad.refl R w).alloc _).trans hk1).trans hk2;have s0:=hs2.c0;have s1:=hs2.c1;have s2:=hs2.c2;have z0:=hs2.fz 0;have z1:=hs2.fz 1;have z2:=hs2.fz 2
 go_wp2_with (fail);refine bodyPost_ret (v:=.tuple #[AD (false,[],0),.bool false]) (by simp[results,results184,go_sem,AD,s0,s1,s2]) rfl ⟨?_,Or.inr ⟨Aa hE,rfl,Sp.dgR l,?_⟩⟩
 ·exact (((hkk2.setCell_new (by simp) _).setCell_new (by simp) _).setCell_new (by simp) _)
 ·exact (hr2.kept (((Ad.refl w.heap.size w2).setCell (p:=⟨w.heap.size,0,none⟩) rfl _ |>.setCell (p:=⟨w.heap.size,1,none⟩) rfl _).setCell (p:=⟨w.heap.size,2,none⟩) rfl _) (by omega))
theorem V8{w:World}{R:Nat}{t:ByteArray}{l:Sp.By}{tw:Bool}{dp fr:Int}(h:RD w R t l tw dp fr)(k1:Sp.tk l 45=false)(d:UInt8)(ds:Sp.By)(hd:Sp.dg l=d::ds)(hz:¬ d=48)(hf:Sp.BJ (Sp.dgR l)=none) :
  Calls Tryz.prog 184 #[.pointer (some ⟨R,0,none⟩)] w fun e w'=>Ad R w w'/\B5 (Sp.num l) e w' R t tw dp fr:=by
 have hE:Hid (Sp.num l=none):=by
  unfold Hid Sp.num Sp.BH;have h1:Sp.tk l 48=false:=by rw[Ea hd];simpa using hz
  simp[k1,hd,hf,h1]
 have K1:=Ab k1;have HD:=Ab hd;have h0:=B9 d ds (Ax d ds);have g48:((((⟨(d::ds).toArray⟩:ByteArray)[0]'(Ax d ds)).toNat:Int) == 48)=false:=by
  rw[h0];simp;intro h;exact hz (UInt8.toNat_inj.1 (by simpa using (show d.toNat=48 by omega)))
 have HF:=Ab hf;have hRw:=h.lt;have h2000:l.length<=2000:=by obtain⟨p,ha,_⟩:=h;have:=ha.len;have:=ha.small;omega
 clear k1 hd h0 hz hf
 go_enter func184,ntmps184
 go_wp2_with (fail);refine (AF 45 _ rfl (h.alloc _) (Aa K1)).mono ?_
 rintro e w1 ⟨rfl,hr1,hk1⟩
 go_wp2_with (fail);refine (AC hr1).mono ?_
 rintro e w2 ⟨rfl,hr2,hk2⟩;rw[Aa HD];have hs2:=((BA.new w).kept hk1 (by omega)).kept hk2 (by omega);have hkk2:=(((Ad.refl R w).alloc _).trans hk1).trans hk2
 go_wp2_with (fail);refine (Bd hr2).mono ?_
 rintro e w3 ⟨hk3,hc⟩;have hs3:=hs2.kept hk3 (by omega);have hkk3:=hkk2.trans hk3;rcases hc with⟨s,l',e1,rfl,hr3⟩|⟨e1,s,l',rfl,hr3⟩
 ·rw[Aa HF] at e1;cases e1
 clear e1;have s0:=hs3.c0;have s1:=hs3.c1;have s2:=hs3.c2;have z0:=hs3.fz 0;have z1:=hs3.fz 1;have z2:=hs3.fz 2
 go_wp2_with (fail);refine bodyPost_ret (v:=.tuple #[AD (false,[],0),.bool false]) (by simp[results,results184,go_sem,AD,s0,s1,s2]) rfl ⟨?_,Or.inr ⟨Aa hE,rfl,l',?_⟩⟩
 ·exact (((hkk3.setCell_new (by simp) _).setCell_new (by simp) _).setCell_new (by simp) _)
 ·exact (hr3.kept (((Ad.refl w.heap.size w3).setCell (p:=⟨w.heap.size,0,none⟩) rfl _ |>.setCell (p:=⟨w.heap.size,1,none⟩) rfl _).setCell (p:=⟨w.heap.size,2,none⟩) rfl _) (by omega))
theorem V7{w:World}{R:Nat}{t:ByteArray}{l:Sp.By}{tw:Bool}{dp fr:Int}(h:RD w R t l tw dp fr)(k1:Sp.tk l 45=false)(d:UInt8)(ds:Sp.By)(hd:Sp.dg l=d::ds)(hz:d=48)(hds:ds=[])(hf:Sp.BJ (Sp.dgR l)=none) :
  Calls Tryz.prog 184 #[.pointer (some ⟨R,0,none⟩)] w fun e w'=>Ad R w w'/\B5 (Sp.num l) e w' R t tw dp fr:=by
 have hE:Hid (Sp.num l=none):=by
  unfold Hid Sp.num Sp.BH;subst hds;simp[k1,hd,hf]
 have K1:=Ab k1;have HD:=Ab hd;have h0:=B9 d ds (Ax d ds);have g48:((((⟨(d::ds).toArray⟩:ByteArray)[0]'(Ax d ds)).toNat:Int) == 48)=true:=by rw[h0,hz];rfl
 have gl:decide ((1:Int)<(ds.length:Int)+1)=false:=by subst hds;rfl
 have HF:=Ab hf;have hRw:=h.lt;have h2000:l.length<=2000:=by obtain⟨p,ha,_⟩:=h;have:=ha.len;have:=ha.small;omega
 clear k1 hd hds h0 hz hf
 go_enter func184,ntmps184
 go_wp2_with (fail);refine (AF 45 _ rfl (h.alloc _) (Aa K1)).mono ?_
 rintro e w1 ⟨rfl,hr1,hk1⟩
 go_wp2_with (fail);refine (AC hr1).mono ?_
 rintro e w2 ⟨rfl,hr2,hk2⟩;rw[Aa HD];have hs2:=((BA.new w).kept hk1 (by omega)).kept hk2 (by omega);have hkk2:=(((Ad.refl R w).alloc _).trans hk1).trans hk2
 go_wp2_with (fail);refine (Bd hr2).mono ?_
 rintro e w3 ⟨hk3,hc⟩;have hs3:=hs2.kept hk3 (by omega);have hkk3:=hkk2.trans hk3;rcases hc with⟨s,l',e1,rfl,hr3⟩|⟨e1,s,l',rfl,hr3⟩
 ·rw[Aa HF] at e1;cases e1
 clear e1;have s0:=hs3.c0;have s1:=hs3.c1;have s2:=hs3.c2;have z0:=hs3.fz 0;have z1:=hs3.fz 1;have z2:=hs3.fz 2
 go_wp2_with (fail);refine bodyPost_ret (v:=.tuple #[AD (false,[],0),.bool false]) (by simp[results,results184,go_sem,AD,s0,s1,s2]) rfl ⟨?_,Or.inr ⟨Aa hE,rfl,l',?_⟩⟩
 ·exact (((hkk3.setCell_new (by simp) _).setCell_new (by simp) _).setCell_new (by simp) _)
 ·exact (hr3.kept (((Ad.refl w.heap.size w3).setCell (p:=⟨w.heap.size,0,none⟩) rfl _ |>.setCell (p:=⟨w.heap.size,1,none⟩) rfl _).setCell (p:=⟨w.heap.size,2,none⟩) rfl _) (by omega))
theorem V6{w:World}{R:Nat}{t:ByteArray}{l:Sp.By}{tw:Bool}{dp fr:Int}(h:RD w R t l tw dp fr)(k1:Sp.tk l 45=false)(d:UInt8)(ds:Sp.By)(hd:Sp.dg l=d::ds)(hz:¬ d=48)(f l2:Sp.By)(hf:Sp.BJ (Sp.dgR l)=some (f,l2))(he:Sp.AR l2=none) :
  Calls Tryz.prog 184 #[.pointer (some ⟨R,0,none⟩)] w fun e w'=>Ad R w w'/\B5 (Sp.num l) e w' R t tw dp fr:=by
 have hE:Hid (Sp.num l=none):=by
  unfold Hid Sp.num Sp.BH;have h1:Sp.tk l 48=false:=by rw[Ea hd];simpa using hz
  simp[k1,hd,hf,he,h1]
 have K1:=Ab k1;have HD:=Ab hd;have h0:=B9 d ds (Ax d ds);have g48:((((⟨(d::ds).toArray⟩:ByteArray)[0]'(Ax d ds)).toNat:Int) == 48)=false:=by
  rw[h0];simp;intro h;exact hz (UInt8.toNat_inj.1 (by simpa using (show d.toNat=48 by omega)))
 have HF:=Ab hf;have HX:=Ab he;have hRw:=h.lt;have h2000:l.length<=2000:=by obtain⟨p,ha,_⟩:=h;have:=ha.len;have:=ha.small;omega
 clear k1 hd h0 hz hf he
 go_enter func184,ntmps184
 go_wp2_with (fail);refine (AF 45 _ rfl (h.alloc _) (Aa K1)).mono ?_
 rintro e w1 ⟨rfl,hr1,hk1⟩
 go_wp2_with (fail);refine (AC hr1).mono ?_
 rintro e w2 ⟨rfl,hr2,hk2⟩;rw[Aa HD];have hs2:=((BA.new w).kept hk1 (by omega)).kept hk2 (by omega);have hkk2:=(((Ad.refl R w).alloc _).trans hk1).trans hk2
 go_wp2_with (fail);refine (Bd hr2).mono ?_
 rintro e w3 ⟨hk3,hc⟩;have hs3:=hs2.kept hk3 (by omega);have hkk3:=hkk2.trans hk3;rcases hc with⟨s,l',e1,rfl,hr3⟩|⟨e1,_⟩
 rotate_left
 ·rw[Aa HF] at e1;cases e1
 rw[Aa HF] at e1;injection e1 with e1;injection e1 with e1 e2;subst e1 e2
 go_wp2_with (fail);refine (B6 hr3).mono ?_
 rintro e w4 ⟨hk4,hc⟩;have hs4:=hs3.kept hk4 (by omega);have hkk4:=hkk3.trans hk4;rcases hc with⟨x',l',e1,rfl,hr4⟩|⟨e1,x',l',rfl,hr4⟩
 ·rw[Aa HX] at e1;cases e1
 clear e1;have s0:=hs4.c0;have s1:=hs4.c1;have s2:=hs4.c2;have z0:=hs4.fz 0;have z1:=hs4.fz 1;have z2:=hs4.fz 2
 go_wp2_with (fail);refine bodyPost_ret (v:=.tuple #[AD (false,[],0),.bool false]) (by simp[results,results184,go_sem,AD,s0,s1,s2]) rfl ⟨?_,Or.inr ⟨Aa hE,rfl,l',?_⟩⟩
 ·exact (((hkk4.setCell_new (by simp) _).setCell_new (by simp) _).setCell_new (by simp) _)
 ·exact (hr4.kept (((Ad.refl w.heap.size w4).setCell (p:=⟨w.heap.size,0,none⟩) rfl _ |>.setCell (p:=⟨w.heap.size,1,none⟩) rfl _).setCell (p:=⟨w.heap.size,2,none⟩) rfl _) (by omega))
theorem V5{w:World}{R:Nat}{t:ByteArray}{l:Sp.By}{tw:Bool}{dp fr:Int}(h:RD w R t l tw dp fr)(k1:Sp.tk l 45=false)(d:UInt8)(ds:Sp.By)(hd:Sp.dg l=d::ds)(hz:d=48)(hds:ds=[])(f l2:Sp.By)(hf:Sp.BJ (Sp.dgR l)=some (f,l2))(he:Sp.AR l2=none) :
  Calls Tryz.prog 184 #[.pointer (some ⟨R,0,none⟩)] w fun e w'=>Ad R w w'/\B5 (Sp.num l) e w' R t tw dp fr:=by
 have hE:Hid (Sp.num l=none):=by
  unfold Hid Sp.num Sp.BH;subst hds;simp[k1,hd,hf,he]
 have K1:=Ab k1;have HD:=Ab hd;have h0:=B9 d ds (Ax d ds);have g48:((((⟨(d::ds).toArray⟩:ByteArray)[0]'(Ax d ds)).toNat:Int) == 48)=true:=by rw[h0,hz];rfl
 have gl:decide ((1:Int)<(ds.length:Int)+1)=false:=by subst hds;rfl
 have HF:=Ab hf;have HX:=Ab he;have hRw:=h.lt;have h2000:l.length<=2000:=by obtain⟨p,ha,_⟩:=h;have:=ha.len;have:=ha.small;omega
 clear k1 hd hds h0 hz hf he
 go_enter func184,ntmps184
 go_wp2_with (fail);refine (AF 45 _ rfl (h.alloc _) (Aa K1)).mono ?_
 rintro e w1 ⟨rfl,hr1,hk1⟩
 go_wp2_with (fail);refine (AC hr1).mono ?_
 rintro e w2 ⟨rfl,hr2,hk2⟩;rw[Aa HD];have hs2:=((BA.new w).kept hk1 (by omega)).kept hk2 (by omega);have hkk2:=(((Ad.refl R w).alloc _).trans hk1).trans hk2
 go_wp2_with (fail);refine (Bd hr2).mono ?_
 rintro e w3 ⟨hk3,hc⟩;have hs3:=hs2.kept hk3 (by omega);have hkk3:=hkk2.trans hk3;rcases hc with⟨s,l',e1,rfl,hr3⟩|⟨e1,_⟩
 rotate_left
 ·rw[Aa HF] at e1;cases e1
 rw[Aa HF] at e1;injection e1 with e1;injection e1 with e1 e2;subst e1 e2
 go_wp2_with (fail);refine (B6 hr3).mono ?_
 rintro e w4 ⟨hk4,hc⟩;have hs4:=hs3.kept hk4 (by omega);have hkk4:=hkk3.trans hk4;rcases hc with⟨x',l',e1,rfl,hr4⟩|⟨e1,x',l',rfl,hr4⟩
 ·rw[Aa HX] at e1;cases e1
 clear e1;have s0:=hs4.c0;have s1:=hs4.c1;have s2:=hs4.c2;have z0:=hs4.fz 0;have z1:=hs4.fz 1;have z2:=hs4.fz 2
 go_wp2_with (fail);refine bodyPost_ret (v:=.tuple #[AD (false,[],0),.bool false]) (by simp[results,results184,go_sem,AD,s0,s1,s2]) rfl ⟨?_,Or.inr ⟨Aa hE,rfl,l',?_⟩⟩
 ·exact (((hkk4.setCell_new (by simp) _).setCell_new (by simp) _).setCell_new (by simp) _)
 ·exact (hr4.kept (((Ad.refl w.heap.size w4).setCell (p:=⟨w.heap.size,0,none⟩) rfl _ |>.setCell (p:=⟨w.heap.size,1,none⟩) rfl _).setCell (p:=⟨w.heap.size,2,none⟩) rfl _) (by omega))
end

section
set_option maxHeartbeats 4000000
open Go.RowKit
theorem V4{w:World}{R:Nat}{t:ByteArray}{l:Sp.By}{tw:Bool}{dp fr:Int}(h:RD w R t l tw dp fr)(k1:Sp.tk l 45=false)(d:UInt8)(ds:Sp.By)(hd:Sp.dg l=d::ds)(hz:¬ d=48)(f l2:Sp.By)(hf:Sp.BJ (Sp.dgR l)=some (f,l2))(x:Int)(l3:Sp.By)(he:Sp.AR l2=some (x,l3)) :
  Calls Tryz.prog 184 #[.pointer (some ⟨R,0,none⟩)] w fun e w'=>Ad R w w'/\B5 (Sp.num l) e w' R t tw dp fr:=by
 have hE:Hid (Sp.num l=some (Sp.Co false (d::ds++f) (x-f.length),l3)):=by
  unfold Hid Sp.num Sp.BH;have h1:Sp.tk l 48=false:=by rw[Ea hd];simpa using hz
  simp[k1,hd,hf,he,h1]
 have K1:=Ab k1;have HD:=Ab hd;have h0:=B9 d ds (Ax d ds);have g48:((((⟨(d::ds).toArray⟩:ByteArray)[0]'(Ax d ds)).toNat:Int) == 48)=false:=by
  rw[h0];simp;intro h;exact hz (UInt8.toNat_inj.1 (by simpa using (show d.toNat=48 by omega)))
 have HF:=Ab hf;have HX:=Ab he;have hRw:=h.lt;have h2000:l.length<=2000:=by obtain⟨p,ha,_⟩:=h;have:=ha.len;have:=ha.small;omega
 clear k1 hd h0 hz hf he
 go_enter func184,ntmps184
 go_wp2_with (fail);refine (AF 45 _ rfl (h.alloc _) (Aa K1)).mono ?_
 rintro e w1 ⟨rfl,hr1,hk1⟩
 go_wp2_with (fail);refine (AC hr1).mono ?_
 rintro e w2 ⟨rfl,hr2,hk2⟩;rw[Aa HD];have hs2:=((BA.new w).kept hk1 (by omega)).kept hk2 (by omega);have hkk2:=(((Ad.refl R w).alloc _).trans hk1).trans hk2
 go_wp2_with (fail);refine (Bd hr2).mono ?_
 rintro e w3 ⟨hk3,hc⟩;have hs3:=hs2.kept hk3 (by omega);have hkk3:=hkk2.trans hk3;rcases hc with⟨s,l',e1,rfl,hr3⟩|⟨e1,_⟩
 rotate_left
 ·rw[Aa HF] at e1;cases e1
 rw[Aa HF] at e1;injection e1 with e1;injection e1 with e1 e2;subst e1 e2
 go_wp2_with (fail);refine (B6 hr3).mono ?_
 rintro e w4 ⟨hk4,hc⟩;have hs4:=hs3.kept hk4 (by omega);have hkk4:=hkk3.trans hk4;rcases hc with⟨x',l',e1,rfl,hr4⟩|⟨e1,_⟩
 rotate_left
 ·rw[Aa HX] at e1;cases e1
 rw[Aa HX] at e1;injection e1 with e1;injection e1 with e1 e2;subst e1 e2;have hx1:=Gl (Aa HX);have hfl:f.length<=2000:=by
  have:=Dk (Aa HF);have:=BM l;have:=List.length_tail (l:=l);omega
 have hdl:ds.length+1<=2000:=by
  have e1:=BM l;rw[Aa HD] at e1;have e2:=List.length_tail (l:=l);rw[List.length_cons] at e1;omega
 have hcat:¬ 9223372036854775807<ds.length+1+f.length:=by omega
 go_wp2_with (fail);have hap:(⟨(d::ds).toArray⟩:ByteArray)++⟨f.toArray⟩=⟨(d::ds++f).toArray⟩:=by
  apply ByteArray.ext;simp
 rw[hap];refine (DG false (d::ds++f) (x-f.length) w4 (by omega) (by omega) (by simp;omega)).mono ?_;rintro e w5 ⟨rfl,hb5⟩;have hk5:=Ad.of_below (X:=R) hb5;have hs5:=hs4.kept hk5 (by omega);have hkk5:=hkk4.trans hk5;obtain⟨q,ha,hq⟩:=hr4.kept (Ad.of_below (X:=R+1) hb5) (by omega);generalize hn:Sp.Co false (d::ds++f) (x-f.length)=n at *;obtain⟨nb,nd,ne⟩:=n;have hne:-10000000<=ne/\ne<=10000000:=by
  have hm:=Gd false (d::ds++f) (x-f.length);rw[hn] at hm;have e:(d::ds++f).length=ds.length+1+f.length:=by simp;omega
  rw[e] at hm;simp only at hm;omega
 have c4:∀o,(w5.alloc o).cell? ⟨R,4,none⟩=some (.int .i64 fr):=fun o=>(hq.alloc o).c4;have f4:∀o,(w5.alloc o).frozen? ⟨R,4,none⟩=false:=fun o=>(hq.alloc o).fz 4;have hs6:∀o,BA (w5.alloc o) w.heap.size:=fun o=>hs5.kept ((Ad.refl R w5).alloc o) (by omega);have s0:=fun o=>(hs6 o).c0;have s1:=fun o=>(hs6 o).c1;have s2:=fun o=>(hs6 o).c2;have z0:=fun o=>(hs6 o).fz 0;have z1:=fun o=>(hs6 o).fz 1;have z2:=fun o=>(hs6 o).fz 2;have hz5:=hkk5.size;unfold AD
 go_wp2_with (fail)
 go_region
 go_wp2_with (fail);all_goals (
  refine bodyPost_ret (v:=.tuple #[AD (nb,nd,ne),.bool true]) (by simp[results,results184,go_sem,AD,s0,s1,s2]) rfl ⟨?_,Or.inl ⟨(nb,nd,ne),l3,Aa hE,rfl,⟨q,ha,Iq hq _ _ _ _ _ _ _ (by omega) (by simp only;omega)⟩⟩⟩;exact ((((((hkk5.alloc _).setCell (p:=⟨R,4,none⟩) rfl _).setCell_new (by simp) _).setCell_new (by simp) _).setCell_new (by simp) _).drew))
theorem V3{w:World}{R:Nat}{t:ByteArray}{l:Sp.By}{tw:Bool}{dp fr:Int}(h:RD w R t l tw dp fr)(k1:Sp.tk l 45=false)(d:UInt8)(ds:Sp.By)(hd:Sp.dg l=d::ds)(hz:d=48)(hds:ds=[])(f l2:Sp.By)(hf:Sp.BJ (Sp.dgR l)=some (f,l2))(x:Int)(l3:Sp.By)(he:Sp.AR l2=some (x,l3)) :
  Calls Tryz.prog 184 #[.pointer (some ⟨R,0,none⟩)] w fun e w'=>Ad R w w'/\B5 (Sp.num l) e w' R t tw dp fr:=by
 have hE:Hid (Sp.num l=some (Sp.Co false (d::ds++f) (x-f.length),l3)):=by
  unfold Hid Sp.num Sp.BH;subst hds;simp[k1,hd,hf,he]
 have K1:=Ab k1;have HD:=Ab hd;have h0:=B9 d ds (Ax d ds);have g48:((((⟨(d::ds).toArray⟩:ByteArray)[0]'(Ax d ds)).toNat:Int) == 48)=true:=by rw[h0,hz];rfl
 have gl:decide ((1:Int)<(ds.length:Int)+1)=false:=by subst hds;rfl
 have HF:=Ab hf;have HX:=Ab he;have hRw:=h.lt;have h2000:l.length<=2000:=by obtain⟨p,ha,_⟩:=h;have:=ha.len;have:=ha.small;omega
 clear k1 hd hds h0 hz hf he
 go_enter func184,ntmps184
 go_wp2_with (fail);refine (AF 45 _ rfl (h.alloc _) (Aa K1)).mono ?_
 rintro e w1 ⟨rfl,hr1,hk1⟩
 go_wp2_with (fail);refine (AC hr1).mono ?_
 rintro e w2 ⟨rfl,hr2,hk2⟩;rw[Aa HD];have hs2:=((BA.new w).kept hk1 (by omega)).kept hk2 (by omega);have hkk2:=(((Ad.refl R w).alloc _).trans hk1).trans hk2
 go_wp2_with (fail);refine (Bd hr2).mono ?_
 rintro e w3 ⟨hk3,hc⟩;have hs3:=hs2.kept hk3 (by omega);have hkk3:=hkk2.trans hk3;rcases hc with⟨s,l',e1,rfl,hr3⟩|⟨e1,_⟩
 rotate_left
 ·rw[Aa HF] at e1;cases e1
 rw[Aa HF] at e1;injection e1 with e1;injection e1 with e1 e2;subst e1 e2
 go_wp2_with (fail);refine (B6 hr3).mono ?_
 rintro e w4 ⟨hk4,hc⟩;have hs4:=hs3.kept hk4 (by omega);have hkk4:=hkk3.trans hk4;rcases hc with⟨x',l',e1,rfl,hr4⟩|⟨e1,_⟩
 rotate_left
 ·rw[Aa HX] at e1;cases e1
 rw[Aa HX] at e1;injection e1 with e1;injection e1 with e1 e2;subst e1 e2;have hx1:=Gl (Aa HX);have hfl:f.length<=2000:=by
  have:=Dk (Aa HF);have:=BM l;have:=List.length_tail (l:=l);omega
 have hdl:ds.length+1<=2000:=by
  have e1:=BM l;rw[Aa HD] at e1;have e2:=List.length_tail (l:=l);rw[List.length_cons] at e1;omega
 have hcat:¬ 9223372036854775807<ds.length+1+f.length:=by omega
 go_wp2_with (fail);have hap:(⟨(d::ds).toArray⟩:ByteArray)++⟨f.toArray⟩=⟨(d::ds++f).toArray⟩:=by
  apply ByteArray.ext;simp
 rw[hap];refine (DG false (d::ds++f) (x-f.length) w4 (by omega) (by omega) (by simp;omega)).mono ?_;rintro e w5 ⟨rfl,hb5⟩;have hk5:=Ad.of_below (X:=R) hb5;have hs5:=hs4.kept hk5 (by omega);have hkk5:=hkk4.trans hk5;obtain⟨q,ha,hq⟩:=hr4.kept (Ad.of_below (X:=R+1) hb5) (by omega);generalize hn:Sp.Co false (d::ds++f) (x-f.length)=n at *;obtain⟨nb,nd,ne⟩:=n;have hne:-10000000<=ne/\ne<=10000000:=by
  have hm:=Gd false (d::ds++f) (x-f.length);rw[hn] at hm;have e:(d::ds++f).length=ds.length+1+f.length:=by simp;omega
  rw[e] at hm;simp only at hm;omega
 have c4:∀o,(w5.alloc o).cell? ⟨R,4,none⟩=some (.int .i64 fr):=fun o=>(hq.alloc o).c4;have f4:∀o,(w5.alloc o).frozen? ⟨R,4,none⟩=false:=fun o=>(hq.alloc o).fz 4;have hs6:∀o,BA (w5.alloc o) w.heap.size:=fun o=>hs5.kept ((Ad.refl R w5).alloc o) (by omega);have s0:=fun o=>(hs6 o).c0;have s1:=fun o=>(hs6 o).c1;have s2:=fun o=>(hs6 o).c2;have z0:=fun o=>(hs6 o).fz 0;have z1:=fun o=>(hs6 o).fz 1;have z2:=fun o=>(hs6 o).fz 2;have hz5:=hkk5.size;unfold AD
 go_wp2_with (fail)
 go_region
 go_wp2_with (fail);all_goals (
  refine bodyPost_ret (v:=.tuple #[AD (nb,nd,ne),.bool true]) (by simp[results,results184,go_sem,AD,s0,s1,s2]) rfl ⟨?_,Or.inl ⟨(nb,nd,ne),l3,Aa hE,rfl,⟨q,ha,Iq hq _ _ _ _ _ _ _ (by omega) (by simp only;omega)⟩⟩⟩;exact ((((((hkk5.alloc _).setCell (p:=⟨R,4,none⟩) rfl _).setCell_new (by simp) _).setCell_new (by simp) _).setCell_new (by simp) _).drew))
end
end Go.Proofs.YtdpomdelmdofmaaGreatDoor
