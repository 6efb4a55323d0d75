import Derived.Test.YtdpomdelmdofmaaGreatDoorRea08
open Go.Proofs.Tryz renaming prog->AI
open Go.RowKit.Below renaming heap_setCell->AS,heap_alloc->Dt
open Go renaming wpList_lookup_own_ok->AT,wpList_mapUpdate_own->A1,World->A2,bodyPost_ret->A6,Calls->CR,results->DD
open Or renaming inr->A3,inl->Bs
open Go.Lib renaming hasPrefix->A4,BuilderAt->D0,byteCells->D1
open Go.World renaming cell?->A5,cell?_of_block->BY
open Go.Instr renaming index->CD
open Go.Calls renaming quiet_of_same->CL
open Bool renaming false_eq_true->C2
open Go.Maps renaming has->Dp
open Go.DataW renaming put->D2
open Nat renaming le_refl->D3
set_option maxHeartbeats 16000000
set_option maxRecDepth 100000
namespace Go.Proofs.YtdpomdelmdofmaaGreatDoor
open Go.Proofs.Tryz Go.RowKit Go.Maps Go.ChangeMaps Go.WideMaps
variable{B R f p0 p1 p2 vb m N1:Nat}{w w0:A2}{t:ByteArray}{l:By}{tw:Bool}{dp fr lv:Int}
theorem Py{b:Nat}{p:Value}{bs:List Value}{w':A2}(h:D0 119 5 B b p bs w)(hk:Ae R w w')(hR:R<B):D0 119 5 B b p bs w':=by
 obtain⟨hB,v,hb,q0,hne⟩:=h;refine⟨hB,v,(hk.block b (by grind) (by omega)).trans hb,?_,hne⟩;refine⟨q0.1,q0.2.imp id ?_⟩;rintro⟨g,cap,cur,h1,h2,h3,h4⟩;exact⟨g,cap,cur,h1,h2,(hk.block g (by grind) (by omega)).trans h3,h4⟩
theorem Kd{b:Nat}{bs:List Value}{w':A2}(h:IsB B b bs w)(hk:Ae R w w')(hR:R<B):IsB B b bs w':=
 h.imp (fun h=>Py h hk hR) (fun h=>Py h hk hR)
theorem Ae.belowB{X:Nat}{a b:A2}(h:Ae X w a)(hb:Below B a b)(hB:w.heap.size<=B):Ae X w b:=
 ⟨hb.os.trans h.os,hb.tape.trans h.tape,hb.output.trans h.output,Nat.le_trans h.size hb.size,fun k hk hx=>(hb.block k (by omega)).trans (h.block k hk hx)⟩
def ZF(o:Option (By×By))(e:Ending)(w':A2)(R:Nat)(t:ByteArray)(tw:Bool)(dp fr:Int):Prop:=
 (∃s l',o=some (s,l')/\e=.returned (.tuple #[.string ⟨s.toArray⟩,.bool true])/\RD w' R t l' tw dp fr) \/
  (o=none /\ ∃s l',e=.returned (.tuple #[.string s,.bool false])/\RD w' R t l' tw dp fr)
theorem Ks(h:RD w R t l tw dp fr)(hT:Ai w)(hR:NG<=R):
  CR AI 182 #[.pointer (some ⟨R,0,none⟩)] w fun e w'=>Ae R w w'/\ZF (gG l) e w' R t tw dp fr:=by
 have qb:l.length<=2000:=by obtain⟨p,ha,_⟩:=h;have:=ha.len;have:=ha.small;omega
 by_cases k1:eA l 34=true
 ·have hE:Hid (gG l=C5 (l.length+1) l.tail):=by unfold Hid gG;grind
  have K1:=Ab k1;have qj:=Bb k1;clear k1
  go_enter func182,ntmps182
  go_wp2_with (fail);refine (AG 34 _ rfl h (Aa K1)).mono ?_
  rintro e w1 ⟨rfl,q6,q5⟩;have q0:=q6.lt;have qd:=hT.kept q5 hR;have qk:=q5.size;clear h hT
  go_wp2_with (fail)
  go_loopw [10] (fun _ wr=>∃ (l' q4:By) (f:Nat),RD wr R t l' tw dp fr/\l'.length<f/\q4.length+4*l'.length<=8000/\IsB w1.heap.size w1.heap.size (D1 q4) wr/\Ae R w1 wr /\
    C5 (l.length+1) l.tail=(match C5 f l' with|none=>none|some (s,r)=>some (q4++s,r))) (fun _ wr=>left wr R)
  case atStart=>
   refine⟨l.tail,[],l.length+1,q6.alloc _,by omega,by simp;omega,Lib.fresh_isBuilder _ _ w1,(Ae.refl R w1).alloc _,?_⟩
   grind
  case round=>
   obtain⟨l',q4,f,hr,hf,hal,hB,hk,he⟩:=hrel;have HE:=Ab he;have HL:=Ab hr.left;have HB:=Ab hB;have qh:=qd.kept hk hR;have qm:=hk.size;clear he q6 hB;obtain⟨f,rfl⟩:∃g,f=g+1:=⟨f-1,by omega⟩
   by_cases k2:eA l' 34=true
   ·have K2:=Ab k2;clear k2 qd
    go_wp2_with (fail);refine (AG 34 _ rfl hr (Aa K2)).mono ?_
    rintro e w2 ⟨rfl,q8,hk2⟩
    go_wp2_with (fail);refine (Tryz.Builder_String_any w1.heap.size w1.heap.size q4 _ (Kd (Aa HB) hk2 q0) (by have:=hk2.size;omega)).mono ?_
    rintro e w3 ⟨rfl,hb3⟩
    go_wp2_with (fail)
    go_ret2
    refine⟨q5.trans ((hk.trans hk2).belowB hb3 (D3 _)),Bs ⟨q4,l'.tail,?_,rfl,?_⟩⟩
    ·rw[Aa hE,Aa HE,C5,Aa K2];simp
    ·obtain⟨q,ha,hq⟩:=q8;exact⟨q,ha,(hb3.block R q0).trans hq⟩
   ·have K2:=Ab (A7 k2);clear k2
    go_wp2_with (fail);refine (Bk 34 _ rfl hr (Aa K2)).mono ?_
    rintro e w2 ⟨rfl,q8,hk2⟩
    go_wp2_with (fail);refine (Nt q8 (qh.kept hk2 hR) hR).mono ?_
    rintro e w3 ⟨q7,hc⟩;rcases hc with⟨n,r,hs,rfl,q9⟩|⟨hs,n,r,rfl,q9⟩
    ·have hn:=LM hs;have HS:=Ab hs;have b1:(0:Int)<=(n:Int):=by omega
     have b2:(n:Int)<=2147483647:=by omega
     have qi:=LI (n:Int);clear hs
     go_wp2_with (fail);refine (Nu w1.heap.size w1.heap.size (D1 q4) n (by omega) (by omega) _ (Kd (Kd (Aa HB) hk2 q0) q7 q0) (by rw[Lib.byteCells_length];omega) (by have:=hk2.size;have:=q7.size;omega)).mono ?_
     rintro e w4 ⟨⟨m,rfl⟩,qg,qe⟩
     go_wp2_with (fail);have qf:RD w4 R t r tw dp fr:=by obtain⟨q,ha,hq⟩:=q9;exact⟨q,ha,(qe.block R q0).trans hq⟩
     go_roundw
     case rel=>
      refine⟨r,q4++Lib.encodeRune n,f,qf,by omega,by simp;omega,A3 ?_,((hk.trans hk2).trans q7).belowB qe (D3 _),?_⟩
      ·rw[Lib.byteCells_append,Lib.byteCells_encodeRune];exact qg
      ·rw[Aa HE,C5,Aa K2];simp only[C2,if_false];rw[Aa HS]
       grind
     case measure=>rw[qf.left,Aa HL];exact hn.1
    ·have HS:=Ab hs;clear hs
     go_wp2_with (fail)
     go_ret2
     refine⟨q5.trans ((hk.trans hk2).trans q7),A3 ⟨?_,_,r,rfl,q9⟩⟩;rw[Aa hE,Aa HE,C5,Aa K2];simp only[C2,if_false];rw[Aa HS]
 ·have hE:Hid (gG l=none):=by unfold Hid gG;grind
  have K1:=Ab (A7 k1);clear k1 hT
  go_enter func182,ntmps182
  go_wp2_with (fail);refine (Bk 34 _ rfl h (Aa K1)).mono ?_
  rintro e w1 ⟨rfl,q6,q5⟩
  go_wp2_with (fail)
  go_ret2
  exact⟨q5,A3 ⟨Aa hE,_,l,rfl,q6⟩⟩
theorem BE:Keyed AI 9:=string_keyed underlying9
theorem B3(w:A2):(zeroValue 80).run AI w=.ok (.pointer none) w:=by kernel_rfl
theorem dE(s:By)(h:s.length<=8000):keyOf AI 9 (.string ⟨s.toArray⟩)=some (.string s):=by
 have:=Go.WideMaps.keyOf_string_mk underlying9 (s:=⟨s.toArray⟩) (by rw[Bc];unfold maxLen;omega);omega
def TY(f:Nat)(R:Nat)(t:ByteArray)(lv:Int)(w0:A2)(p0 p1 p2 vb m N1:Nat)(l:By)(s:To×Fl)(e:Ending)(w':A2):Prop:=
 (∃l' s',Cr (eN f (lv+1)) l s=some (l',s')/\e=.returned (.bool true)/\GD f R t lv w0 p0 p1 p2 vb m N1 w' l' s')\/(Cr (eN f (lv+1)) l s=none/\e=.returned (.bool false)/\RdJ R t w0 p2 vb w')
theorem RK(B:DY w0 R p0 p1 p2 vb N1)(hV:Gr f)(hlv:0<=lv)(w:A2)(l:By)(s:To)(tw:Bool)(dp fr:Int)(hI:GD f R t lv w0 p0 p1 p2 vb m N1 w l (s,(tw,dp,fr)))(hl:l.length<f)(hb:lv+f<=4999):
  CR AI 218 #[.pointer (some ⟨R,0,none⟩),.pointer (some ⟨vb,0,none⟩),.int .i64 (lv+1)] w fun e w'=>TY f R t lv w0 p0 p1 p2 vb m N1 l (s,(tw,dp,fr)) e w':=by
 have q8:=BE;have qo:=B3;have qx:l.length<=2000:=by obtain⟨p,ha,_⟩:=hI.rd;have:=ha.len;have:=ha.small;omega
 have HI:=Ab hI;have hr:=hI.rd;simp only at hr;have hT:=hI.laid;clear hI
 go_enter func218,ntmps218
 go_wp2_with (fail);refine (Ks hr hT B.ng).mono ?_
 rintro e w1 ⟨qn,hc⟩;rcases hc with⟨k,l1,hq,rfl,qr⟩|⟨hq,k,l1,rfl,qr⟩
 rotate_left
 ·have HQ:=Ab hq;clear hq hT
  go_wp2_with (fail)
  go_ret;refine A3 ⟨?_,rfl,?_⟩
  ·unfold Cr;rw[Aa HQ]
  ·have h9:=Ok B (fl':=(tw,dp,fr)) (l':=[]) (w':=w1) (Aa HI);exact⟨(Aa HI).kept.trans qn,⟨_,_,_,_,qr⟩,(qn.block p2 (by have:=B.a2;have:=(Aa HI).sz;omega) (by have:=B.a2;have:=B.r;omega)).trans (Aa HI).b2⟩
 have HQ:=Ab hq;have zh:=GJ hq;have zg:=ZK hq;clear hq
 go_wp2_with (fail);refine (BZ qr).mono ?_
 rintro e w2 ⟨rfl,z1,hk2⟩;have zi:=AY l1;by_cases k1:eA (eF l1) 58=true
 rotate_left
 ·have K1:=Ab (A7 k1);clear k1 hT
  go_wp2_with (fail);refine (Bk 58 _ rfl z1 (Aa K1)).mono ?_
  rintro e w3 ⟨rfl,qt,qq⟩;have hkk:=(qn.trans hk2).trans qq
  go_wp2_with (fail)
  go_ret;refine A3 ⟨?_,rfl,?_⟩
  ·unfold Cr;rw[Aa HQ];simp only;rw[Aa K1];rfl
  ·exact⟨(Aa HI).kept.trans hkk,⟨_,_,_,_,qt⟩,(hkk.block p2 (by have:=B.a2;have:=(Aa HI).sz;omega) (by have:=B.a2;have:=B.r;omega)).trans (Aa HI).b2⟩
 have K1:=Ab k1;have zf:=Bb k1;clear k1
 go_wp2_with (fail);refine (AG 58 _ rfl z1 (Aa K1)).mono ?_
 rintro e w3 ⟨rfl,qt,qq⟩
 go_wp2_with (fail);refine (BZ qt).mono ?_
 rintro e w4 ⟨rfl,zc,z8⟩;have zj:=AY (eF l1).tail;have q4:=((qn.trans hk2).trans qq).trans z8
 go_wp2_with (fail);refine (hV R t (lv+1) _ _ _ _ w4 zc (hT.kept q4 B.ng) B.ng (by omega) (by omega) (by omega)).mono ?_
 rintro e w5 ⟨za,hc⟩;have q0:=q4.trans za;have bR:=B.r;have av:=B.av;have a2:=B.a2;have bm:=(Aa HI).bm;have hsz:=(Aa HI).sz;obtain⟨n,D,es,hn,qm,ho,hp⟩:=(Aa HI).el;simp only at qm;have qz:=An ho (q0.block m (Bg ho) (by omega));have qv:=(Aa HI).hvb.kept (q0.block vb (Aa HI).hvb.lt (by omega));have q6:w5.cell? ⟨vb,6,none⟩=some (.map (some m)):=by simp[A5,show w5.heap[vb]? = _ from qv]
 have qy:keyOf AI 9 (.string ⟨k.toArray⟩)=some (.string k):=dE k (by omega);have HM:=Ab (show Cr (eN f (lv+1)) l (s,(tw,dp,fr))=(match eN f (lv+1) (eF (eF l1).tail) (tw,dp,fr) with
  | none=>none
  | some (v,r,fl)=>some (r,(D2 s (.string k) v,(fl.1 || Dp s (.string k),fl.2)))) from by
   unfold Cr;rw[Aa HQ];simp only;rw[Aa K1];rfl)
 have qf:Hid (Dp s (.string k)=Dp (.map D) (.string k)):=by rw[Hid,qm];exact (hp.pt.has _).symm
 have q7:=Ab qz;have q5:=Ab qy;have HN:=Ab (show n<maxLen by unfold maxLen;omega);have qi:=Ab qm;have qk:=Ab hp;have qj:=Ab hn;clear qz qy qm hp hn ho;generalize eF (eF l1).tail=l4 at *;rcases hc with⟨d,r,fl',p,hs,rfl,qg,qh⟩|⟨hs,p,rfl,r,zk,z6,z7,qg⟩
 ·have HS:=Ab hs;clear hs hT;cases hh:Dp (.map D) (.string k) with
  | false=>
   have HH:=Ab hh;clear hh
   go_wp2_with (first|(at_lookup;refine AT _ rfl _ _ 109 rfl 9 80 q8 underlying109 RV (qo _) (.held (.pointer none)) [] rfl m n (.map D) rfl (Aa q7) _ _ rfl (Aa q5) ?_))
   intro v0 qw qe;clear qe;rw[Aa HH]
   go_wp2_with (first|(at_mapUpdate;refine A1 _ rfl _ _ _ 109 rfl 9 80 q8 underlying109 RV m n (.map D) rfl (Aa q7) (Aa HN) _ _ _ rfl rfl (Aa q5) (.held (.pointer p)) [] rfl ?_))
   intro w6 qd q9
   go_wp2_with (fail)
   go_ret;have hf:=Jj B (Aa HI) q0 qg (Aa qj) (Aa qi) (Aa qk) qd q9
   refine Bs ⟨r,(D2 s (.string k) d,(fl'.1,fl'.2)),?_,rfl,?_⟩
   ·rw[Aa HM,Aa HS];simp only;rw[Aa qf,Aa HH];simp
   ·have zb:=EC _ _ _ _ _ _ _ (Aa HS);exact hf.2.2.2 d (qh.move q4.size fun j h1 h2=>rfl) (by omega)
  | true=>
   have HH:=Ab hh;clear hh;obtain⟨q,ha,hq⟩:=qg;have z2:=hq.fz 2;have y2:=hq.c2;have qu:RD (w5.setCell ⟨R,2,none⟩ (.bool true)) R t r true fl'.2.1 fl'.2.2:=⟨q,ha,hq.set2 true⟩
   have qb:Ae R w (w5.setCell ⟨R,2,none⟩ (.bool true)):=q0.setCell rfl _;have qp:=Ab (An (Aa q7) (show (w5.setCell ⟨R,2,none⟩ (.bool true)).heap[m]? = w5.heap[m]? from AS _ _ _ _ (show m≠R by omega)));have ze:(w5.setCell ⟨R,2,none⟩ (.bool true)).cell? ⟨vb,6,none⟩=some (.map (some m)):=(BY (w:=w5) (AS _ _ _ _ (show vb≠R by omega))).trans q6
   go_wp2_with (first|(at_lookup;refine AT _ rfl _ _ 109 rfl 9 80 q8 underlying109 RV (qo _) (.held (.pointer none)) [] rfl m n (.map D) rfl (Aa q7) _ _ rfl (Aa q5) ?_))
   intro v0 qw qe;clear qe;rw[Aa HH]
   go_wp2_with (first|(at_mapUpdate;refine A1 _ rfl _ _ _ 109 rfl 9 80 q8 underlying109 RV m n (.map D) rfl (Aa qp) (Aa HN) _ _ _ rfl rfl (Aa q5) (.held (.pointer p)) [] rfl ?_))
   intro w6 qd q9
   go_wp2_with (fail)
   go_ret;have hf:=Jj B (Aa HI) qb qu (Aa qj) (Aa qi) (Aa qk) qd q9
   refine Bs ⟨r,(D2 s (.string k) d,(true,fl'.2)),?_,rfl,?_⟩
   ·rw[Aa HM,Aa HS];simp only;rw[Aa qf,Aa HH];simp
   ·have zb:=EC _ _ _ _ _ _ _ (Aa HS);exact hf.2.2.2 d (qh.move q4.size fun j h1 h2=>AS _ _ _ _ (show j≠R by have:=q4.size;omega)) (by omega)
 ·have HS:=Ab hs;clear hs hT;cases hh:Dp (.map D) (.string k) with
  | false=>
   have HH:=Ab hh;clear hh
   go_wp2_with (first|(at_lookup;refine AT _ rfl _ _ 109 rfl 9 80 q8 underlying109 RV (qo _) (.held (.pointer none)) [] rfl m n (.map D) rfl (Aa q7) _ _ rfl (Aa q5) ?_))
   intro v0 qw qe;clear qe;rw[Aa HH]
   go_wp2_with (first|(at_mapUpdate;refine A1 _ rfl _ _ _ 109 rfl 9 80 q8 underlying109 RV m n (.map D) rfl (Aa q7) (Aa HN) _ _ _ rfl rfl (Aa q5) (.held (.pointer p)) [] rfl ?_))
   intro w6 qd q9
   go_wp2_with (fail)
   go_ret;have hf:=Jj B (Aa HI) q0 qg (Aa qj) (Aa qi) (Aa qk) qd q9
   refine A3 ⟨?_,rfl,hf.1,⟨_,_,_,_,hf.2.1⟩,hf.2.2.1⟩;rw[Aa HM,Aa HS]
  | true=>
   have HH:=Ab hh;clear hh;obtain⟨q,ha,hq⟩:=qg;have z2:=hq.fz 2;have y2:=hq.c2;have qu:RD (w5.setCell ⟨R,2,none⟩ (.bool true)) R t r true z6 z7:=⟨q,ha,hq.set2 true⟩
   have qb:Ae R w (w5.setCell ⟨R,2,none⟩ (.bool true)):=q0.setCell rfl _;have qp:=Ab (An (Aa q7) (show (w5.setCell ⟨R,2,none⟩ (.bool true)).heap[m]? = w5.heap[m]? from AS _ _ _ _ (show m≠R by omega)));have ze:(w5.setCell ⟨R,2,none⟩ (.bool true)).cell? ⟨vb,6,none⟩=some (.map (some m)):=(BY (w:=w5) (AS _ _ _ _ (show vb≠R by omega))).trans q6
   go_wp2_with (first|(at_lookup;refine AT _ rfl _ _ 109 rfl 9 80 q8 underlying109 RV (qo _) (.held (.pointer none)) [] rfl m n (.map D) rfl (Aa q7) _ _ rfl (Aa q5) ?_))
   intro v0 qw qe;clear qe;rw[Aa HH]
   go_wp2_with (first|(at_mapUpdate;refine A1 _ rfl _ _ _ 109 rfl 9 80 q8 underlying109 RV m n (.map D) rfl (Aa qp) (Aa HN) _ _ _ rfl rfl (Aa q5) (.held (.pointer p)) [] rfl ?_))
   intro w6 qd q9
   go_wp2_with (fail)
   go_ret;have hf:=Jj B (Aa HI) qb qu (Aa qj) (Aa qi) (Aa qk) qd q9
   refine A3 ⟨?_,rfl,hf.1,⟨_,_,_,_,hf.2.1⟩,hf.2.2.1⟩;rw[Aa HM,Aa HS]
theorem Wi(f:Nat)(lv:Int)(l:By)(s:To×Fl)(l':By)(s':To×Fl)(h:Cr (eN f lv) l s=some (l',s')):l'.length<l.length:=by
 unfold Cr at h;split at h
 ·cases h
 ·rename_i k l1 hq;have a:=GJ hq;have b:=AY l1;split at h
  ·have c:=AY (eF l1).tail;have d:=List.length_tail (l:=eF l1);split at h
   ·cases h
   ·rename_i v r fl hv;have:=EC _ _ _ _ _ _ _ hv
    grind
  ·cases h
theorem V5(B:DY w0 R p0 p1 p2 vb N1)(hV:Gr f)(hlv:0<=lv)(hb:lv+f<=4999)(w:A2)(l:By)(s:To×Fl)(hI:GD f R t lv w0 p0 p1 p2 vb m N1 w l s)(hl:l.length<f):
  CR AI 217 #[.pointer (some ⟨p0,0,none⟩),.pointer (some ⟨p2,0,none⟩),.pointer (some ⟨p1,0,none⟩)] w fun e w'=>TY f R t lv w0 p0 p1 p2 vb m N1 l s e w':=by
 have c0:w.cell? ⟨p0,0,none⟩=some (.pointer (some ⟨R,0,none⟩)):=by simp[A5,hI.b0]
 have c1:w.cell? ⟨p1,0,none⟩=some (.int .i64 lv):=by simp[A5,hI.b1]
 have c2:w.cell? ⟨p2,0,none⟩=some (.pointer (some ⟨vb,0,none⟩)):=by simp[A5,hI.b2]
 have q0:lv<=4999:=by omega
 have HI:=Ab hI;clear hI
 go_enter func217,ntmps217
 go_wp2_with (fail);refine (RK B hV hlv w l s.1 s.2.1 s.2.2.1 s.2.2.2 (Aa HI) hl hb).mono ?_
 rintro e w2 hc;rcases hc with⟨l',s',h1,rfl,h2⟩|⟨h1,rfl,h2⟩
 ·have H1:=Ab h1;have H2:=Ab h2;clear h1 h2
  go_wp2_with (fail)
  go_ret;exact Bs ⟨l',s',Aa H1,rfl,Aa H2⟩
 ·have H1:=Ab h1;have H2:=Ab h2;clear h1 h2
  go_wp2_with (fail)
  go_ret;exact A3 ⟨Aa H1,rfl,Aa H2⟩
theorem ZU(B:DY w0 R p0 p1 p2 vb N1)(hV:Gr f)(hlv:0<=lv)(hb:lv+f<=4999):
  Li 217 #[.pointer (some ⟨p0,0,none⟩),.pointer (some ⟨p2,0,none⟩),.pointer (some ⟨p1,0,none⟩)] R t f (Cr (eN f (lv+1))) (GD f R t lv w0 p0 p1 p2 vb m N1) (RdJ R t w0 p2 vb) where
 rd:=fun w l s h=>⟨_,_,_,h.rd⟩
 move:=fun w w' l l' s tw dp fr h h1 h2 hk hl=>by
  obtain⟨_,_,e1,e2,e3⟩:=h.rd.uniq h1;exact Ok B (fl':=s.2) h (by grind) hk hl
 out:=fun w l s h=>⟨h.kept,⟨_,_,_,_,h.rd⟩,h.b2⟩
 len:=fun l s l' s' h=>Wi _ _ _ _ _ _ h
 call:=fun w l s h hl=>V5 B hV hlv hb w l s h hl
def ZV(f:Nat)(lv:Int)(l:By)(fl:Fl)(e:Ending)(w w':A2)(R:Nat)(t:ByteArray):Prop:=
 (∃v r fl' p,Bn 123 125 (Cr (eN f (lv+1))) l (Ap [],fl)=some (r,(v,fl'))/\e=.returned (.tuple #[.pointer p,.bool true])/\RD w' R t r fl'.1 fl'.2.1 fl'.2.2/\Tr (f+1) w.heap.size w' (.pointer p) v) \/
  (Bn 123 125 (Cr (eN f (lv+1))) l (Ap [],fl)=none /\ ∃p,e=.returned (.tuple #[.pointer p,.bool false]) /\ ∃r tw dp fr,RD w' R t r tw dp fr)
theorem YG(B:DY w0 R p0 p1 p2 vb N1){s:To×Fl}(h:GD f R t lv w0 p0 p1 p2 vb m N1 w l s):
  Tr (f+1) w0.heap.size w (.pointer (some ⟨vb,0,none⟩)) s.1:=by
 have av:=B.av;have bm:=h.bm;obtain⟨n,D,es,hn,he,ho,hp⟩:=h.el;rw[he];exact hp.obj av ⟨bm.1,bm.2.1⟩ (by omega) h.hvb ho
theorem dI(w:A2)(o0 o1 o2 o3 o4:Obj):(((((w.alloc o0).alloc o1).alloc o2).alloc o3).alloc o4).heap[w.heap.size]? = some o0/\(((((w.alloc o0).alloc o1).alloc o2).alloc o3).alloc o4).heap[w.heap.size+1]? = some o1 /\
  (((((w.alloc o0).alloc o1).alloc o2).alloc o3).alloc o4).heap[w.heap.size+1+1]? = some o2/\(((((w.alloc o0).alloc o1).alloc o2).alloc o3).alloc o4).heap[w.heap.size+1+1+1]? = some o3/\(((((w.alloc o0).alloc o1).alloc o2).alloc o3).alloc o4).heap[w.heap.size+1+1+1+1]? = some o4:=by
 have h (k:Nat):(((((w.alloc o0).alloc o1).alloc o2).alloc o3).alloc o4).heap[k]? = (((((w.heap.push o0).push o1).push o2).push o3).push o4)[k]?:=rfl
 grind
theorem RE(hV:Gr f)(h:RD w R t l tw dp fr)(hT:Ai w)(hR:NG<=R)(hl:l.length<=f)(hlv:0<=lv)(hb:lv+f<=4999):
  CR AI 180 #[.pointer (some ⟨R,0,none⟩),.int .i64 lv] w fun e w'=>Ae R w w'/\ZV f lv l (tw,dp,fr) e w w' R t:=by
 have q7:=@run_makeMap AI;have q6:=h.lt;have q5:l.length<=2000:=by obtain⟨p,ha,_⟩:=h;have:=ha.len;have:=ha.small;omega
 have B:DY w R w.heap.size (w.heap.size+1) (w.heap.size+1+1+1+1) (w.heap.size+1+1+1) (w.heap.size+5):=⟨q6,hR,by omega,by omega,by omega,by omega,by omega,by omega,by omega⟩
 have hI:Hid (∀W,W=(((((w.alloc (.cells #[.pointer (some ⟨R,0,none⟩)] 153)).alloc (.cells #[.int .i64 lv] 3)).alloc (.map #[] 0)).alloc (.cells #[.int .i64 6,.bool false,.string ⟨#[]⟩,.int .i64 0,.string ⟨#[]⟩,.slice none 0 0,.map (some (w.heap.size+1+1))] 111)).alloc (.cells #[.pointer (some ⟨w.heap.size+1+1+1,0,none⟩)] 80)) ->
   GD f R t lv w w.heap.size (w.heap.size+1) (w.heap.size+1+1+1+1) (w.heap.size+1+1+1) (w.heap.size+1+1) (w.heap.size+5) W l (Ap [],(tw,dp,fr))):=by
  rintro W rfl;have hf:=dI w (.cells #[.pointer (some ⟨R,0,none⟩)] 153) (.cells #[.int .i64 lv] 3) (.map #[] 0) (.cells #[.int .i64 6,.bool false,.string ⟨#[]⟩,.int .i64 0,.string ⟨#[]⟩,.slice none 0 0,.map (some (w.heap.size+1+1))] 111) (.cells #[.pointer (some ⟨w.heap.size+1+1+1,0,none⟩)] 80);have hk:=(((((Ae.refl R w).alloc (.cells #[.pointer (some ⟨R,0,none⟩)] 153)).alloc (.cells #[.int .i64 lv] 3)).alloc (.map #[] 0)).alloc (.cells #[.int .i64 6,.bool false,.string ⟨#[]⟩,.int .i64 0,.string ⟨#[]⟩,.slice none 0 0,.map (some (w.heap.size+1+1))] 111)).alloc (.cells #[.pointer (some ⟨w.heap.size+1+1+1,0,none⟩)] 80);have hm:((w.alloc (.cells #[.pointer (some ⟨R,0,none⟩)] 153)).alloc (.cells #[.int .i64 lv] 3)).heap.size=w.heap.size+1+1:=by simp
  have q0:=World.ownsMap_made ((w.alloc (.cells #[.pointer (some ⟨R,0,none⟩)] 153)).alloc (.cells #[.int .i64 lv] 3)) AI 9 RV;rw[hm] at q0;refine⟨((((h.alloc _).alloc _).alloc _).alloc _).alloc _,hk,hT.kept hk hR,hf.1,hf.2.1,hf.2.2.2.2,by simp,by omega,hf.2.2.2.1,0,[],[],by omega,rfl,?_,TrM.nil _ _ _⟩;exact An (An q0 (Dt _ _ _ (Bg q0))) (Dt _ _ _ (by simp))
 have K:=ZU (t:=t) (m:=w.heap.size+1+1) B hV hlv hb;clear hT
 go_enter func180,ntmps180
 go_wp2_with (fail);refine (Ws _ _ _ 123 125 123 125 rfl rfl R t f _ _ _ K _ l (Ap [],(tw,dp,fr)) (Aa hI _ rfl) hl).mono ?_
 rintro e w5 hc;rcases hc with⟨l',s',hs,rfl,q4⟩|⟨hs,rfl,hJ⟩
 ·have HS:=Ab hs;have hb2:=q4.b2;have q2:w5.cell? ⟨w.heap.size+1+1+1+1,0,none⟩=some (.pointer (some ⟨w.heap.size+1+1+1,0,none⟩)):=by simp[A5,hb2]
  have HI:=Ab q4;clear hs q4 hb2 hI
  go_wp2_with (fail)
  go_ret2
  exact⟨(Aa HI).kept,Bs ⟨s'.1,l',s'.2,_,Aa HS,rfl,(Aa HI).rd,YG B (Aa HI)⟩⟩
 ·have HS:=Ab hs;have hb2:=hJ.2.2;have q2:w5.cell? ⟨w.heap.size+1+1+1+1,0,none⟩=some (.pointer (some ⟨w.heap.size+1+1+1,0,none⟩)):=by simp[A5,hb2]
  have HJ:=Ab hJ;clear hs hJ hb2 hI
  go_wp2_with (fail)
  go_ret2
  exact⟨(Aa HJ).1,A3 ⟨Aa HS,_,rfl,(Aa HJ).2.1⟩⟩
def CJ(j:Nat):By:=gL.getD j []
theorem XU(w:A2):(CD 165 (.agg Cv) (.int .i64 0)).run AI w=.ok (.string ⟨#[110,117,108,108]⟩) w:=by kernel_rfl
theorem XT(w:A2):(CD 165 (.agg Cv) (.int .i64 1)).run AI w=.ok (.string ⟨#[116,114,117,101]⟩) w:=by kernel_rfl
theorem XS(w:A2):(CD 165 (.agg Cv) (.int .i64 2)).run AI w=.ok (.string ⟨#[102,97,108,115,101]⟩) w:=by kernel_rfl
theorem Vt(j:Nat)(hj:j<3)(w:A2):(CD 165 (.agg Cv) (.int .i64 j)).run AI w=.ok (.string ⟨(CJ j).toArray⟩) w:=by
 match j,hj with
 | 0,_=>exact XU w
 | 1,_=>exact XT w
 | 2,_=>exact XS w
theorem SS(l:By)(j:Nat)(hj:j<3):Cu l j (gL.drop j)=if A4 l (CJ j) then some (j,l.drop (CJ j).length) else Cu l (j+1) (gL.drop (j+1)):=by
 match j,hj with
 | 0,_=>rfl
 | 1,_=>rfl
 | 2,_=>rfl
theorem Il(j:Nat)(hj:j<3):(CJ j).length<=5:=by
 match j,hj with
 | 0,_=>decide
 | 1,_=>decide
 | 2,_=>decide
theorem C3(w:A2)(o:Obj)(b:Nat)(hb:b=w.heap.size):(w.alloc o).heap[b]? = some o:=by
 subst hb;show (w.heap.push o)[w.heap.size]? = _;simp
def XV(o:Option (Nat×By))(l:By)(e:Ending)(w w':A2)(R:Nat)(t:ByteArray)(tw:Bool)(dp fr:Int):Prop:=
 (∃k l' b,o=some (k,l')/\e=.returned (.tuple #[.pointer (some ⟨b,0,none⟩),.bool true])/\k<3/\VB w' b k n0 [] (.slice none 0 0) (.map none)/\w.heap.size<=b/\RD w' R t l' tw dp fr) \/
  (o=none/\e=.returned (.tuple #[.pointer none,.bool false])/\RD w' R t l tw dp fr)
theorem Vu(h:RD w R t l tw dp fr)(hT:Ai w):
  CR AI 185 #[.pointer (some ⟨R,0,none⟩)] w fun e w'=>Ae R w w'/\XV (Cu l 0 gL) l e w w' R t tw dp fr:=by
 obtain⟨tt,fz,q4⟩:=hT.words;clear hT
 go_enter func185,ntmps185
 go_wp2_with (refine wpList_load_row rfl 165 _ rfl 0 rfl tt _ fz _ q4 underlying165 rfl (by kernel_rfl) ?_)
 clear q4
 go_loopw [7] (fun i wr=>∃j:Nat,j<=3/\i=.int .i64 j/\RD wr R t l tw dp fr/\Ae R w wr/\Cu l 0 gL=Cu l j (gL.drop j)) (fun i _=>3-(intOf i).toNat)
 case atStart=>exact⟨0,by omega,rfl,h,Ae.refl R w,rfl⟩
 case round=>
  obtain⟨j,q8,rfl,hr,hk,he⟩:=hrel;have HE:=Ab he;clear he h;by_cases hlt:j<3
  ·have q5:=Vt j hlt;have q9:=Il j hlt;obtain⟨q,ha,hq⟩:=hr;have c0:=hq.c0;have c1:=hq.c1;have f1:=hq.fz 1;have b2:(q:Int)<=(t.size:Int):=by have:=ha.le;omega
   have b3:(q:Int)<=2000:=by have:=ha.le;have:=ha.small;omega
   have cH:∀W:A2,CR AI 194 #[.string (t.extract q t.size),.string ⟨(CJ j).toArray⟩] W fun e w'=>e=.returned (.bool (A4 l (CJ j)))/\w'=W:=fun W=>by
    have:=Tryz.strings_HasPrefix (t.extract q t.size) ⟨(CJ j).toArray⟩ W;rw[Lib.extract_to_end,ha.eq] at this;exact this
   have CH:=Ab cH;have HQ:=Ab hq;have HA:=Ab ha;have HS:=Ab (SS l j hlt);generalize q7:CJ j=wj at *;clear q7;clear hq ha cH;by_cases hp:A4 l wj=true
   ·have HP:=Ab hp;have q6:wj.length<=l.length:=by
     have:=hp;unfold A4 at this
     grind
    have C1:Hid (∀W:A2,CR AI 194 #[.string (t.extract q t.size),.string ⟨wj.toArray⟩] W fun e w'=>e=.returned (.bool true)/\w'=W):=by
     simp_all
    clear hp CH
    go_wp2_with (fail)
    go_quiet ((go_at_call 194;exact CL (Aa C1 _)))
    go_wp2_with (fail);have q0:RD ((((wr.drewN nq).setCell ⟨R,1,none⟩ (.int .i64 ((q:Int)+wj.length))).alloc (.cells #[.int .i64 j,.bool false,.string ⟨#[]⟩,.int .i64 0,.string ⟨#[]⟩,.slice none 0 0,.map none] 111))) R t (l.drop wj.length) tw dp fr:=
     ⟨q+wj.length,(Aa HA).add wj.length q6,(((Aa HQ).drewN nq).set1 (q+wj.length)).alloc _⟩
    go_ret2
    refine⟨((hk.drewN nq).setCell (p:=⟨R,1,none⟩) rfl _).alloc _,Bs ⟨j,l.drop wj.length,wr.heap.size,?_,rfl,hlt,C3 _ _ _ (by simp_all),hk.size,q0⟩⟩;rw[Aa HE,Aa HS,Aa HP];rfl
   ·replace hp:A4 l wj=false:=by grind
    have HP:=Ab hp;have C1:Hid (∀W:A2,CR AI 194 #[.string (t.extract q t.size),.string ⟨wj.toArray⟩] W fun e w'=>e=.returned (.bool false)/\w'=W):=by
     simp_all
    clear hp CH
    go_wp2_with (fail)
    go_quiet ((go_at_call 194;exact CL (Aa C1 _)))
    go_wp2_with (fail)
    go_roundw
    case rel=>exact⟨j+1,by omega,by go_num,⟨q,Aa HA,(Aa HQ).drewN _⟩,hk.drewN _,by rw[Aa HE,Aa HS,Aa HP];rfl⟩
    case measure=>simp[intOf];omega
  ·go_wp2_with (fail)
   go_ret2
   refine⟨hk,A3 ⟨?_,rfl,hr⟩⟩;rw[Aa HE,show j=3 by omega];rfl
theorem Yc{m:By}{ng:Bool}(h:RD w R t l tw dp fr)(k1:eA l 45=ng)(hm:m=if ng then l.tail else l):
  CR AI 178 #[.pointer (some ⟨R,0,none⟩),.int .u8 45] w fun e w'=>e=.returned (.bool ng)/\RD w' R t m tw dp fr/\Ae R w w':=by
 subst hm;cases ng
 ·exact Bk 45 _ rfl h k1
 ·exact AG 45 _ rfl h k1
theorem Wc{m:By}{ng:Bool}(h:RD w R t l tw dp fr)(k1:eA l 45=ng)(hm:m=if ng then l.tail else l):
  CR AI 184 #[.pointer (some ⟨R,0,none⟩)] w fun e w'=>Ae R w w'/\TL (CC ng m) e w' R t tw dp fr:=by
 have qv:=h.lt;have qj:m.length<=2000:=by obtain⟨p,ha,_⟩:=h;have:=ha.len;have:=ha.small;subst hm;split<;>simp<;>omega
 have qh:=Ab (Yc (h.alloc (.cells #[.bool false,.string ⟨#[]⟩,.int .i64 0] 108)) k1 hm);obtain⟨X,hX⟩:∃X,X=CC ng m:=⟨_,rfl⟩
 rw[<- hX];unfold CC at hX;have qd:=Ab hX;clear k1 hm hX
 go_enter func184,ntmps184
 go_wp2_with (fail);refine (Aa qh).mono ?_
 rintro e w1 ⟨rfl,qt,qm⟩
 go_wp2_with (fail);refine (Fw qt).mono ?_
 rintro e w2 ⟨rfl,qe,hk2⟩;have hs2:=((Ed.new w).kept qm (by omega)).kept hk2 (by omega);have q0:=(((Ae.refl R w).alloc _).trans qm).trans hk2;clear qh;have q7:dg m=[]\/(∃d ds,dg m=d::ds/\d=48/\1<ds.length+1) \/ ∃d ds,dg m=d::ds/\(¬ d=48\/(d=48/\ds=[])):=by
  cases dg m with
  | nil=>exact Bs rfl
  | cons d ds=>cases ds<;>grind
 rcases q7 with hd|⟨d,ds,hd,hz,hds⟩|⟨d,ds,hd,hz⟩
 rotate_left
 ·have hE:Hid (X=none):=by
   have h1:eA m 48=true:=by rw[Q0 hd,hz];rfl
   show X=none;rw[Aa qd];grind
  have h0:=QT d ds (Fc d ds);have qi:((((⟨(d::ds).toArray⟩:ByteArray)[0]'(Fc d ds)).toNat:Int)==48)=true:=by simp_all
  have gl:decide ((1:Int)<(ds.length:Int)+1)=true:=by simp;omega
  rw[hd];have s0:=hs2.c0;have s1:=hs2.c1;have s2:=hs2.c2;have z0:=hs2.fz 0;have z1:=hs2.fz 1;have z2:=hs2.fz 2;clear hd hds h0 hz
  go_wp2_with (fail);refine A6 (v:=.tuple #[BV (false,[],0),.bool false]) (by simp[DD,results184,go_sem,BV,s0,s1,s2]) rfl ⟨?_,A3 ⟨Aa hE,rfl,fQ m,?_⟩⟩
  ·exact (((q0.setCell_new (by simp) _).setCell_new (by simp) _).setCell_new (by simp) _)
  ·exact (qe.kept (((Ae.refl w.heap.size w2).setCell (p:=⟨w.heap.size,0,none⟩) rfl _ |>.setCell (p:=⟨w.heap.size,1,none⟩) rfl _).setCell (p:=⟨w.heap.size,2,none⟩) rfl _) (by omega))
 ·have hE:Hid (X=match Dq (fQ m) with
   | none=>none
   | some (f,r)=>match Cb r with
    | none=>none
    | some (e,r')=>some (C0 ng (d::ds++f) (e-f.length),r')):=by
   have hn:¬ ((decide (d::ds=[]) || eA m 48 && decide (1<(d::ds).length))=true):=by
    rcases hz with hz|⟨_,rfl⟩
    ·have h1:eA m 48=false:=by rw[Q0 hd];grind
     simp[h1]
    ·simp
   show X=_;rw[Aa qd,hd,if_neg hn];cases Dq (fQ m)<;>rfl
  have HD:=Ab hd;have h0:=QT d ds (Fc d ds);rw[hd];have hg:((((⟨(d::ds).toArray⟩:ByteArray)[0]'(Fc d ds)).toNat:Int)==48)=false\/((((⟨(d::ds).toArray⟩:ByteArray)[0]'(Fc d ds)).toNat:Int)==48)=true/\decide ((1:Int)<(ds.length:Int)+1)=false:=by
   rcases hz with hz|⟨rfl,rfl⟩
   ·exact Bs (by rw[h0];simp;intro h;exact hz (UInt8.toNat_inj.1 (by grind)))
   ·exact A3 ⟨by simp_all,by simp⟩
  clear hd hz h0 qd;rcases hg with qi|⟨qi,gl⟩;all_goals (
   go_wp2_with (fail);refine (OT qe).mono ?_
   rintro e w3 ⟨qn,hc⟩;have q4:=hs2.kept qn (by omega);have q8:=q0.trans qn;rcases hc with⟨f,l2,e1,rfl,qf⟩|⟨e1,s,l',rfl,qf⟩
   rotate_left
   ·rw[e1] at hE;have s0:=q4.c0;have s1:=q4.c1;have s2:=q4.c2;have z0:=q4.fz 0;have z1:=q4.fz 1;have z2:=q4.fz 2;clear e1
    go_wp2_with (fail);refine A6 (v:=.tuple #[BV (false,[],0),.bool false]) (by simp[DD,results184,go_sem,BV,s0,s1,s2]) rfl ⟨?_,A3 ⟨Aa hE,rfl,l',?_⟩⟩
    ·exact (((q8.setCell_new (by simp) _).setCell_new (by simp) _).setCell_new (by simp) _)
    ·exact (qf.kept (((Ae.refl w.heap.size w3).setCell (p:=⟨w.heap.size,0,none⟩) rfl _ |>.setCell (p:=⟨w.heap.size,1,none⟩) rfl _).setCell (p:=⟨w.heap.size,2,none⟩) rfl _) (by omega))
   rw[e1] at hE;have HF:=Ab e1;clear e1
   go_wp2_with (fail);refine (OX qf).mono ?_
   rintro e w4 ⟨qo,hc⟩;have q5:=q4.kept qo (by omega);have q9:=q8.trans qo;rcases hc with⟨x,l3,e1,rfl,qg⟩|⟨e1,s,l',rfl,qg⟩
   rotate_left
   ·simp only[e1] at hE;have s0:=q5.c0;have s1:=q5.c1;have s2:=q5.c2;have z0:=q5.fz 0;have z1:=q5.fz 1;have z2:=q5.fz 2;clear e1
    go_wp2_with (fail);refine A6 (v:=.tuple #[BV (false,[],0),.bool false]) (by simp[DD,results184,go_sem,BV,s0,s1,s2]) rfl ⟨?_,A3 ⟨Aa hE,rfl,l',?_⟩⟩
    ·exact (((q9.setCell_new (by simp) _).setCell_new (by simp) _).setCell_new (by simp) _)
    ·exact (qg.kept (((Ae.refl w.heap.size w4).setCell (p:=⟨w.heap.size,0,none⟩) rfl _ |>.setCell (p:=⟨w.heap.size,1,none⟩) rfl _).setCell (p:=⟨w.heap.size,2,none⟩) rfl _) (by omega))
   simp only[e1] at hE;have qy:=QU e1;clear e1;have qx:f.length<=2000:=by
    have:=FW (Aa HF);have:=Cz m;omega
   have qw:ds.length+1<=2000:=by
    have e1:=Cz m;rw[Aa HD] at e1;grind
   have qr:¬ 9223372036854775807<ds.length+1+f.length:=by omega
   go_wp2_with (fail);have qq:(⟨(d::ds).toArray⟩:ByteArray)++⟨f.toArray⟩=⟨(d::ds++f).toArray⟩:=by
    rfl
   rw[qq];refine (LU ng (d::ds++f) (x-f.length) w4 (by omega) (by omega) (by simp;omega)).mono ?_;rintro e w5 ⟨rfl,qk⟩;have qp:=Ae.of_below (X:=R) qk;have qu:=q5.kept qp (by omega);have qb:=q9.trans qp;obtain⟨q,ha,hq⟩:=qg.kept (Ae.of_below (X:=R+1) qk) (by omega);generalize hn:C0 ng (d::ds++f) (x-f.length)=n at *;obtain⟨nb,nd,ne⟩:=n;have hne:-10000000<=ne/\ne<=10000000:=by
    have hm:=QA ng (d::ds++f) (x-f.length)
    grind
   have c4:∀o,(w5.alloc o).cell? ⟨R,4,none⟩=some (.int .i64 fr):=fun o=>(hq.alloc o).c4;have f4:∀o,(w5.alloc o).frozen? ⟨R,4,none⟩=false:=fun o=>(hq.alloc o).fz 4;have q6:∀o,Ed (w5.alloc o) w.heap.size:=fun o=>qu.kept ((Ae.refl R w5).alloc o) (by omega);have s0:=fun o=>(q6 o).c0;have s1:=fun o=>(q6 o).c1;have s2:=fun o=>(q6 o).c2;have z0:=fun o=>(q6 o).fz 0;have z1:=fun o=>(q6 o).fz 1;have z2:=fun o=>(q6 o).fz 2;have qz:=qb.size;unfold BV
   go_wp2_with (fail)
   go_region
   go_wp2_with (fail);all_goals (
    refine A6 (v:=.tuple #[BV (nb,nd,ne),.bool true]) (by simp[DD,results184,go_sem,BV,s0,s1,s2]) rfl ⟨?_,Bs ⟨(nb,nd,ne),l3,Aa hE,rfl,⟨q,ha,YI hq _ _ _ _ _ _ _ (by omega) (by grind)⟩⟩⟩;exact ((((((qb.alloc _).setCell (p:=⟨R,4,none⟩) rfl _).setCell_new (by simp) _).setCell_new (by simp) _).setCell_new (by simp) _).drew)))
 ·have hE:Hid (X=none):=by
   show X=none;rw[Aa qd,hd];rfl
  rw[hd];have s0:=hs2.c0;have s1:=hs2.c1;have s2:=hs2.c2;have z0:=hs2.fz 0;have z1:=hs2.fz 1;have z2:=hs2.fz 2;clear hd
  go_wp2_with (fail);refine A6 (v:=.tuple #[BV (false,[],0),.bool false]) (by simp[DD,results184,go_sem,BV,s0,s1,s2]) rfl ⟨?_,A3 ⟨Aa hE,rfl,fQ m,?_⟩⟩
  ·exact (((q0.setCell_new (by simp) _).setCell_new (by simp) _).setCell_new (by simp) _)
  ·exact (qe.kept (((Ae.refl w.heap.size w2).setCell (p:=⟨w.heap.size,0,none⟩) rfl _ |>.setCell (p:=⟨w.heap.size,1,none⟩) rfl _).setCell (p:=⟨w.heap.size,2,none⟩) rfl _) (by omega))
theorem KD(h:RD w R t l tw dp fr):
  CR AI 184 #[.pointer (some ⟨R,0,none⟩)] w fun e w'=>Ae R w w'/\TL (gO l) e w' R t tw dp fr:=by
 have:=Wc h rfl rfl;unfold gO;cases hk:eA l 45<;>simpa[hk] using this
end Go.Proofs.YtdpomdelmdofmaaGreatDoor
