import Derived.Test.YtdpomdelmdofmaaGreatDoorPfx07
open Go.Proofs.Tryz renaming prog->AI
open Go.RowKit.Below renaming heap_setCell->AS,heap_alloc->C2
open Go renaming wpList_lookup_own_ok->AT,wpList_mapUpdate_own->A1,World->A3,Calls->Bs
open Go.World renaming cell?->A2,cell?_of_block->BY
open Or renaming inr->A4,inl->CL
open Array renaming getElem?_eq_some_iff->A5
open Go.Lib renaming Utf8Tabs->A6,BuilderAt->Dt,byteCells->DD
open Go.DataW renaming put->CH
open Bool renaming false_eq_true->CR
open Go.Maps renaming has->C1
open Go.RowKit renaming Below->Dp
open Nat renaming le_refl->D0
set_option maxHeartbeats 8000000
set_option maxRecDepth 100000
namespace Go.Proofs.YtdpomdelmdofmaaGreatDoor
open Go.Proofs.Tryz Go.RowKit Go.Maps Go.ChangeMaps Go.WideMaps
variable{f R p0 p1 p2 vb m N1 B:Nat}{t:ByteArray}{lv dp fr:Int}{w0 w w':A3}{l:By}{tw:Bool}
structure F0(f R:Nat)(t:ByteArray)(lv:Int)(w0:A3)(p0 p1 p2 vb m N1:Nat)(w:A3)(l:By)(s:To×Fl):Prop where
 rd:RD w R t l s.2.1 s.2.2.1 s.2.2.2
 kept:Ae R w0 w
 laid:Af w
 b0:w.heap[p0]? = some (.cells #[.pointer (some ⟨R,0,none⟩)] 153 (0,0))
 b1:w.heap[p1]? = some (.cells #[.int .i64 lv] 3 (0,0))
 b2:w.heap[p2]? = some (.cells #[.pointer (some ⟨vb,0,none⟩)] 80 (0,0))
 sz:N1<=w.heap.size
 bm:w0.heap.size<=m/\m<N1/\m≠p0/\m≠p1/\m≠p2/\m≠vb
 hvb:VB w vb 6 n0 [] (.slice none 0 0) (.map (some m))
 el:∃n D es,n+l.length<=2001/\s.1=Ay es/\w.ownsMap AI 9 RV m n (.map D)/\TrM f N1 w D es
theorem MK(B:DF w0 R p0 p1 p2 vb N1){l':By}{s:To}{fl fl':Fl}(h:F0 f R t lv w0 p0 p1 p2 vb m N1 w l (s,fl))(hr:RD w' R t l' fl'.1 fl'.2.1 fl'.2.2)(hk:Ae R w w')(hl:l'.length<=l.length):
  F0 f R t lv w0 p0 p1 p2 vb m N1 w' l' (s,fl'):=by
 have bR:=B.r;have hsz:=h.sz;have a0:=B.a0;have a1:=B.a1;have a2:=B.a2;have av:=B.av;have bm:=h.bm;refine⟨hr,h.kept.trans hk,h.laid.kept hk B.ng,(hk.block p0 (by omega) (by omega)).trans h.b0,(hk.block p1 (by omega) (by omega)).trans h.b1,(hk.block p2 (by omega) (by omega)).trans h.b2,by have:=hk.size;omega,bm,h.hvb.kept (hk.block vb h.hvb.lt (by omega)),?_⟩;obtain⟨n,D,es,hn,he,ho,hp⟩:=h.el;refine⟨n,D,es,by omega,he,Aj ho (hk.block m (A7 ho) (by omega)),hp.move fun k h3 h4=>hk.block k h4 (by omega)⟩
theorem Im(B:DF w0 R p0 p1 p2 vb N1){w5 w6:A3}{r:By}{s:To×Fl}(hI:F0 f R t lv w0 p0 p1 p2 vb m N1 w l s)(hk:Ae R w w5)(q8:RD w5 R t r tw dp fr){n:Nat}{D:List (Lit×DataW Value)}{es:List (Lit×To)}(hn:n+l.length<=2001)(he:s.1=Ay es)(hp:TrM f N1 w D es){x:Value}{k:Lit}(q6:w6.ownsMap AI 9 RV m (n+1) (CH (.map D) k (.held x)))(q0:w5.grownBy w6 (some m)):
  Ae R w0 w6/\RD w6 R t r tw dp fr/\w6.heap[p2]? = some (.cells #[.pointer (some ⟨vb,0,none⟩)] 80 (0,0)) /\
  ∀ (d:To),Tr f w.heap.size w5 x d->r.length<l.length->F0 f R t lv w0 p0 p1 p2 vb m N1 w6 r (CH s.1 k d,(tw,dp,fr)):=by
 have bR:=B.r;have hsz:=hI.sz;have a0:=B.a0;have a1:=B.a1;have a2:=B.a2;have av:=B.av;have bm:=hI.bm;have qd:=hk.size;have gs:=q0.size;have k6:∀j,j<w5.heap.size->j≠m->w6.heap[j]? = w5.heap[j]?:=fun j h1 h2=>q0.block j h1 (by grind);have kx:Ae R w0 w6:=by
  have q4:=hI.kept.trans hk;refine⟨q0.os.trans q4.os,q0.tape.trans q4.tape,q0.output.trans q4.output,by omega,fun j h1 h2=>(k6 j (by omega) (by omega)).trans (q4.block j h1 h2)⟩
 have q7:RD w6 R t r tw dp fr:=by
  obtain⟨q,ha,hq⟩:=q8;exact⟨q,ha,(k6 R (RP.lt hq) (by omega)).trans hq⟩
 have box:∀ (j:Nat) (ob:Obj),w0.heap.size<=j->j<N1->j≠m->w.heap[j]? = some ob->w6.heap[j]? = some ob:=fun j ob h1 h2 h3 h4=>
  (k6 j (by omega) h3).trans ((hk.block j (by omega) (by omega)).trans h4)
 refine⟨kx,q7,box _ _ a2.1 a2.2 (by omega) hI.b2,?_⟩;intro d q5 qb;refine⟨q7,kx,hI.laid.below ⟨q0.os.trans hk.os,q0.tape.trans hk.tape,q0.output.trans hk.output,by omega,fun j hj=>(k6 j (by have:=hI.laid.ng;omega) (by have:=B.ng;omega)).trans (hk.block j (by have:=hI.laid.ng;omega) (by have:=B.ng;omega))⟩,
  box _ _ a0.1 a0.2 (by omega) hI.b0,box _ _ a1.1 a1.2 (by omega) hI.b1,box _ _ a2.1 a2.2 (by omega) hI.b2,by omega,bm,box _ _ av.1 av.2 (by omega) hI.hvb,?_⟩
 obtain⟨D',es',e1,e2,q9⟩:=hp.put (k:=k) (w6:=w6) q5 hsz (fun j h1 h2=>(k6 j (by omega) (by omega)).trans (hk.block j h2 (by omega))) (by grind);refine⟨n+1,D',es',by omega,?_,?_,q9⟩
 ·rw[he];exact e2
 grind
theorem Pn(f:Nat):∀ (l s r:By),Db f l=some (s,r)->s.length+4*r.length<=4*l.length:=by
 induction f with
 | zero=>intro l s r h;cases h
 | succ f ih=>
  intro l s r h;unfold Db at h;split at h
  ·grind
  ·split at h
   ·cases h
   ·rename_i c r1 hc;have a:=KB hc;have b:=Pk (c:Int)
    grind
theorem Xl{s r:By}(h:aE l=some (s,r)):s.length<=4*l.length:=by
 unfold aE at h;split at h
 ·have:=Pn _ _ _ _ h;grind
 ·cases h
theorem YO(h:RD w R t l tw dp fr)(hT:Af w)(hR:NG<=R)(k1:Zn l 92=false)(c n:Nat)(hd:ZU l=(c,n))(e1:decide ((c:Int)<32)=true):
  Bs AI 220 #[.pointer (some ⟨R,0,none⟩)] w fun e w'=>Ae R w w'/\Eh (Z5 l) e w' R t tw dp fr:=by
 have K1:=Ab k1;have hn:n<=l.length:=by have:=J3 l;rw[hd] at this;exact this
 have HE:Hid (Z5 l=none):=by
  unfold Hid Z5;rw[k1,hd];have:c<32:=by simp at e1;omega
  simp[this]
 clear k1
 go_enter func220,ntmps220
 go_wp2_with (fail);refine (AP 92 _ rfl h (Aa K1)).mono ?_
 rintro e w1 ⟨rfl,q5,q0⟩;have q4:=hT.kept q0 hR;obtain⟨q,ha,hq⟩:=q5;have c0:=hq.c0;have c1:=hq.c1;have b2:(q:Int)<=(t.size:Int):=by have:=ha.le;omega
 have b3:(q:Int)+n<=2000:=by have:=ha.le;have:=ha.small;have:=ha.len;omega
 have cD:∀W:A3,A6 1 2 W->Bs AI 230 #[.string (t.extract q t.size)] W fun e w'=>e=.returned (.tuple #[.int .i32 c,.int .i64 n])/\Dp W.heap.size W w':=fun W hW=>by
  have:=Tryz.utf8_DecodeRuneInString (t.extract q t.size) W hW;rw[J4,ha.eq,hd] at this;exact this
 have CD:=Ab cD;have HQ:=Ab hq;have HA:=Ab ha;have HD:=Ab hd;clear hq ha h hT cD hd
 go_wp2_with (fail)
 go_region_with (go_at_call 230;refine (Aa CD _ ?_).mono ?_;exact q4.utf8;rintro e w' ⟨rfl,hb⟩)
 all_goals (
  replace hb:Dp w1.heap.size w1 w':=⟨hb.os,hb.tape,hb.output,hb.size,hb.block⟩
  go_wp2_with (fail)
  go_ret2
  exact⟨q0.trans (Ae.of_below hb),A4 ⟨Aa HE,0,l,rfl,⟨q,Aa HA,(Aa HQ).kept (Ae.of_below (X:=R+1) hb) (by omega)⟩⟩⟩)
theorem YN(h:RD w R t l tw dp fr)(hT:Af w)(hR:NG<=R)(k1:Zn l 92=false)(c n:Nat)(hd:ZU l=(c,n))(e1:decide ((c:Int)<32)=false)(e2:((c:Int)==65533)=false):
  Bs AI 220 #[.pointer (some ⟨R,0,none⟩)] w fun e w'=>Ae R w w'/\Eh (Z5 l) e w' R t tw dp fr:=by
 have K1:=Ab k1;have hn:n<=l.length:=by have:=J3 l;rw[hd] at this;exact this
 have HE:Hid (Z5 l=some (c,l.drop n)):=by
  unfold Hid Z5;rw[k1,hd];have h1:¬ c<32:=by simp at e1;omega
  have h2:¬ c=65533:=by intro h;subst h;simp at e2
  simp[h1,h2]
 clear k1
 go_enter func220,ntmps220
 go_wp2_with (fail);refine (AP 92 _ rfl h (Aa K1)).mono ?_
 rintro e w1 ⟨rfl,q7,q5⟩;have q6:=hT.kept q5 hR;obtain⟨q,ha,hq⟩:=q7;have c0:=hq.c0;have c1:=hq.c1;have b2:(q:Int)<=(t.size:Int):=by have:=ha.le;omega
 have b3:(q:Int)+n<=2000:=by have:=ha.le;have:=ha.small;have:=ha.len;omega
 have cD:∀W:A3,A6 1 2 W->Bs AI 230 #[.string (t.extract q t.size)] W fun e w'=>e=.returned (.tuple #[.int .i32 c,.int .i64 n])/\Dp W.heap.size W w':=fun W hW=>by
  have:=Tryz.utf8_DecodeRuneInString (t.extract q t.size) W hW;rw[J4,ha.eq,hd] at this;exact this
 have CD:=Ab cD;have HQ:=Ab hq;have HA:=Ab ha;have HD:=Ab hd;clear hq ha h hT cD hd
 go_wp2_with (fail)
 go_region_with (go_at_call 230;refine (Aa CD _ ?_).mono ?_;exact q6.utf8;rintro e w' ⟨rfl,hb⟩)
 all_goals (
  replace hb:Dp w1.heap.size w1 w':=⟨hb.os,hb.tape,hb.output,hb.size,hb.block⟩
  have q4:RP w' R t q tw dp fr:=(Aa HQ).kept (Ae.of_below (X:=R+1) hb) (by omega);have d1:=q4.c1;have f1:=q4.fz 1;have q0:RD (w'.setCell ⟨R,1,none⟩ (.int .i64 ((q:Int)+n))) R t (l.drop n) tw dp fr:=⟨q+n,(Aa HA).add n hn,q4.set1 (q+n)⟩
  have HF:=Ab q0;clear q4 q0
  go_wp2_with (fail)
  go_ret2
  exact⟨(q5.trans (Ae.of_below hb)).setCell rfl _,CL ⟨c,l.drop n,Aa HE,rfl,Aa HF⟩⟩)
theorem YM(h:RD w R t l tw dp fr)(hT:Af w)(hR:NG<=R)(k1:Zn l 92=false)(c n:Nat)(hd:ZU l=(c,n))(e1:decide ((c:Int)<32)=false)(e2:((c:Int)==65533)=true)(e3:decide ((n:Int)<2)=true):
  Bs AI 220 #[.pointer (some ⟨R,0,none⟩)] w fun e w'=>Ae R w w'/\Eh (Z5 l) e w' R t tw dp fr:=by
 have K1:=Ab k1;have hn:n<=l.length:=by have:=J3 l;rw[hd] at this;exact this
 have HE:Hid (Z5 l=none):=by
  unfold Hid Z5;rw[k1,hd];have h1:c=65533:=by simp at e2;omega
  have h2:n<2:=by simp at e3;omega
  simp[h1,h2]
 clear k1
 go_enter func220,ntmps220
 go_wp2_with (fail);refine (AP 92 _ rfl h (Aa K1)).mono ?_
 rintro e w1 ⟨rfl,q5,q0⟩;have q4:=hT.kept q0 hR;obtain⟨q,ha,hq⟩:=q5;have c0:=hq.c0;have c1:=hq.c1;have b2:(q:Int)<=(t.size:Int):=by have:=ha.le;omega
 have b3:(q:Int)+n<=2000:=by have:=ha.le;have:=ha.small;have:=ha.len;omega
 have cD:∀W:A3,A6 1 2 W->Bs AI 230 #[.string (t.extract q t.size)] W fun e w'=>e=.returned (.tuple #[.int .i32 c,.int .i64 n])/\Dp W.heap.size W w':=fun W hW=>by
  have:=Tryz.utf8_DecodeRuneInString (t.extract q t.size) W hW;rw[J4,ha.eq,hd] at this;exact this
 have CD:=Ab cD;have HQ:=Ab hq;have HA:=Ab ha;have HD:=Ab hd;clear hq ha h hT cD hd
 go_wp2_with (fail)
 go_region_with (go_at_call 230;refine (Aa CD _ ?_).mono ?_;exact q4.utf8;rintro e w' ⟨rfl,hb⟩)
 all_goals (
  replace hb:Dp w1.heap.size w1 w':=⟨hb.os,hb.tape,hb.output,hb.size,hb.block⟩
  go_wp2_with (fail)
  go_ret2
  exact⟨q0.trans (Ae.of_below hb),A4 ⟨Aa HE,0,l,rfl,⟨q,Aa HA,(Aa HQ).kept (Ae.of_below (X:=R+1) hb) (by omega)⟩⟩⟩)
theorem YL(h:RD w R t l tw dp fr)(hT:Af w)(hR:NG<=R)(k1:Zn l 92=false)(c n:Nat)(hd:ZU l=(c,n))(e1:decide ((c:Int)<32)=false)(e2:((c:Int)==65533)=true)(e3:decide ((n:Int)<2)=false):
  Bs AI 220 #[.pointer (some ⟨R,0,none⟩)] w fun e w'=>Ae R w w'/\Eh (Z5 l) e w' R t tw dp fr:=by
 have K1:=Ab k1;have hn:n<=l.length:=by have:=J3 l;rw[hd] at this;exact this
 have HE:Hid (Z5 l=some (c,l.drop n)):=by
  unfold Hid Z5;rw[k1,hd];have h1:c=65533:=by simp at e2;omega
  have h2:¬ n<2:=by simp at e3;omega
  have h3:¬ c<32:=by omega
  simp[h1,h2]
 clear k1
 go_enter func220,ntmps220
 go_wp2_with (fail);refine (AP 92 _ rfl h (Aa K1)).mono ?_
 rintro e w1 ⟨rfl,q7,q5⟩;have q6:=hT.kept q5 hR;obtain⟨q,ha,hq⟩:=q7;have c0:=hq.c0;have c1:=hq.c1;have b2:(q:Int)<=(t.size:Int):=by have:=ha.le;omega
 have b3:(q:Int)+n<=2000:=by have:=ha.le;have:=ha.small;have:=ha.len;omega
 have cD:∀W:A3,A6 1 2 W->Bs AI 230 #[.string (t.extract q t.size)] W fun e w'=>e=.returned (.tuple #[.int .i32 c,.int .i64 n])/\Dp W.heap.size W w':=fun W hW=>by
  have:=Tryz.utf8_DecodeRuneInString (t.extract q t.size) W hW;rw[J4,ha.eq,hd] at this;exact this
 have CD:=Ab cD;have HQ:=Ab hq;have HA:=Ab ha;have HD:=Ab hd;clear hq ha h hT cD hd
 go_wp2_with (fail)
 go_region_with (go_at_call 230;refine (Aa CD _ ?_).mono ?_;exact q6.utf8;rintro e w' ⟨rfl,hb⟩)
 all_goals (
  replace hb:Dp w1.heap.size w1 w':=⟨hb.os,hb.tape,hb.output,hb.size,hb.block⟩
  have q4:RP w' R t q tw dp fr:=(Aa HQ).kept (Ae.of_below (X:=R+1) hb) (by omega);have d1:=q4.c1;have f1:=q4.fz 1;have q0:RD (w'.setCell ⟨R,1,none⟩ (.int .i64 ((q:Int)+n))) R t (l.drop n) tw dp fr:=⟨q+n,(Aa HA).add n hn,q4.set1 (q+n)⟩
  have HF:=Ab q0;clear q4 q0
  go_wp2_with (fail)
  go_ret2
  exact⟨(q5.trans (Ae.of_below hb)).setCell rfl _,CL ⟨c,l.drop n,Aa HE,rfl,Aa HF⟩⟩)
theorem LS(h:RD w R t l tw dp fr)(hT:Af w)(hR:NG<=R):
  Bs AI 220 #[.pointer (some ⟨R,0,none⟩)] w fun e w'=>Ae R w w'/\Eh (Z5 l) e w' R t tw dp fr:=by
 by_cases k1:Zn l 92=true
 ·have hE:Hid (Z5 l=aW l.tail):=by unfold Hid Z5;rw[k1];rfl
  have K1:=Ab k1;clear k1
  go_enter func220,ntmps220
  go_wp2_with (fail);refine (Ar 92 _ rfl h (Aa K1)).mono ?_
  rintro e w1 ⟨rfl,q5,q4⟩
  go_wp2_with (fail);refine (Qd q5 (hT.kept q4 hR) hR).mono ?_
  rintro e w2 ⟨hk2,hc⟩;rcases hc with⟨n,l',hs,rfl,q0⟩|⟨hs,n,l',rfl,q0⟩
  ·have HS:=Ab hs;clear hs
   go_wp2_with (fail)
   go_ret2
   exact⟨q4.trans hk2,CL ⟨n,l',by rw[Aa hE];exact Aa HS,rfl,q0⟩⟩
  ·have HS:=Ab hs;clear hs
   go_wp2_with (fail)
   go_ret2
   exact⟨q4.trans hk2,A4 ⟨by rw[Aa hE];exact Aa HS,n,l',rfl,q0⟩⟩
 ·have k1:=AA k1;obtain⟨c,n,hd⟩:∃c n,ZU l=(c,n):=⟨_,_,rfl⟩
  by_cases h1:c<32
  ·exact YO h hT hR k1 c n hd (by simp;omega)
  ·by_cases h2:c=65533
   ·by_cases h3:n<2
    ·exact YM h hT hR k1 c n hd (by simp;omega) (by simp;omega) (by simp;omega)
    ·exact YL h hT hR k1 c n hd (by simp;omega) (by simp;omega) (by simp;omega)
   ·exact YN h hT hR k1 c n hd (by simp;omega) (by simp;omega)
theorem NX{b:Nat}{p:Value}{bs:List Value}(h:Dt 119 5 B b p bs w)(hk:Ae R w w')(hR:R<B):Dt 119 5 B b p bs w':=by
 obtain⟨hB,v,hb,q0,q4⟩:=h;refine⟨hB,v,(hk.block b (A5.1 hb).1 (by omega)).trans hb,?_,q4⟩;refine⟨q0.1,q0.2.imp id ?_⟩;rintro⟨g,cap,cur,h1,h2,h3,h4⟩;exact⟨g,cap,cur,h1,h2,(hk.block g (A5.1 h3).1 (by omega)).trans h3,h4⟩
theorem Jj{b:Nat}{bs:List Value}(h:IsB B b bs w)(hk:Ae R w w')(hR:R<B):IsB B b bs w':=
 h.imp (fun h=>NX h hk hR) (fun h=>NX h hk hR)
theorem Ae.belowB{X:Nat}{a b:A3}(h:Ae X w a)(hb:Dp B a b)(hB:w.heap.size<=B):Ae X w b:=
 ⟨hb.os.trans h.os,hb.tape.trans h.tape,hb.output.trans h.output,Nat.le_trans h.size hb.size,fun k hk hx=>(hb.block k (by omega)).trans (h.block k hk hx)⟩
def Xh(o:Option (By×By))(e:Ending)(w':A3)(R:Nat)(t:ByteArray)(tw:Bool)(dp fr:Int):Prop:=
 (∃s l',o=some (s,l')/\e=.returned (.tuple #[.string ⟨s.toArray⟩,.bool true])/\RD w' R t l' tw dp fr) \/
  (o=none /\ ∃s l',e=.returned (.tuple #[.string s,.bool false])/\RD w' R t l' tw dp fr)
theorem Ju(h:RD w R t l tw dp fr)(hT:Af w)(hR:NG<=R):
  Bs AI 182 #[.pointer (some ⟨R,0,none⟩)] w fun e w'=>Ae R w w'/\Xh (aE l) e w' R t tw dp fr:=by
 have qb:l.length<=2000:=by obtain⟨p,ha,_⟩:=h;have:=ha.len;have:=ha.small;omega
 by_cases k1:Zn l 34=true
 ·have hE:Hid (aE l=Db (l.length+1) l.tail):=by unfold Hid aE;rw[k1];rfl
  have K1:=Ab k1;have qk:=BH k1;clear k1
  go_enter func182,ntmps182
  go_wp2_with (fail);refine (Ar 34 _ rfl h (Aa K1)).mono ?_
  rintro e w1 ⟨rfl,q6,q5⟩;have q0:=q6.lt;have qf:=hT.kept q5 hR;have qm:=q5.size;clear h hT
  go_wp2_with (fail)
  go_loopw [10] (fun _ wr=>∃ (l' q4:By) (f:Nat),RD wr R t l' tw dp fr/\l'.length<f/\q4.length+4*l'.length<=8000/\IsB w1.heap.size w1.heap.size (DD q4) wr/\Ae R w1 wr /\
    Db (l.length+1) l.tail=(match Db f l' with|none=>none|some (s,r)=>some (q4++s,r))) (fun _ wr=>left wr R)
  case atStart=>
   refine⟨l.tail,[],l.length+1,q6.alloc _,by omega,by simp;omega,Lib.fresh_isBuilder _ _ w1,(Ae.refl R w1).alloc _,?_⟩;cases hx:Db (l.length+1) l.tail with
   | none=>rfl
   | some x=>rfl
  case round=>
   obtain⟨l',q4,f,hr,hf,hal,hB,hk,he⟩:=hrel;have HE:=Ab he;have HL:=Ab hr.left;have HB:=Ab hB;have qg:=qf.kept hk hR;have qj:=hk.size;clear he q6 hB;obtain⟨f,rfl⟩:∃g,f=g+1:=⟨f-1,by omega⟩
   by_cases k2:Zn l' 34=true
   ·have K2:=Ab k2;clear k2 qf
    go_wp2_with (fail);refine (Ar 34 _ rfl hr (Aa K2)).mono ?_
    rintro e w2 ⟨rfl,q9,hk2⟩
    go_wp2_with (fail);refine (Tryz.Builder_String_any w1.heap.size w1.heap.size q4 _ (Jj (Aa HB) hk2 q0) (by have:=hk2.size;omega)).mono ?_
    rintro e w3 ⟨rfl,hb3⟩
    go_wp2_with (fail)
    go_ret2
    refine⟨q5.trans ((hk.trans hk2).belowB hb3 (D0 _)),CL ⟨q4,l'.tail,?_,rfl,?_⟩⟩
    ·rw[Aa hE,Aa HE,Db,Aa K2];simp
    ·obtain⟨q,ha,hq⟩:=q9;exact⟨q,ha,(hb3.block R q0).trans hq⟩
   ·have K2:=Ab (AA k2);clear k2
    go_wp2_with (fail);refine (AP 34 _ rfl hr (Aa K2)).mono ?_
    rintro e w2 ⟨rfl,q9,hk2⟩
    go_wp2_with (fail);refine (LS q9 (qg.kept hk2 hR) hR).mono ?_
    rintro e w3 ⟨q7,hc⟩;rcases hc with⟨n,r,hs,rfl,q8⟩|⟨hs,n,r,rfl,q8⟩
    ·have hn:=KB hs;have HS:=Ab hs;have b1:(0:Int)<=(n:Int):=by omega
     have b2:(n:Int)<=2147483647:=by omega
     have qh:=Pk (n:Int);clear hs
     go_wp2_with (fail);refine (LT w1.heap.size w1.heap.size (DD q4) n (by omega) (by omega) _ (Jj (Jj (Aa HB) hk2 q0) q7 q0) (by rw[Lib.byteCells_length];omega) (by have:=hk2.size;have:=q7.size;omega)).mono ?_
     rintro e w4 ⟨⟨m,rfl⟩,qi,qe⟩
     go_wp2_with (fail);have qd:RD w4 R t r tw dp fr:=by obtain⟨q,ha,hq⟩:=q8;exact⟨q,ha,(qe.block R q0).trans hq⟩
     go_roundw
     case rel=>
      refine⟨r,q4++Lib.encodeRune n,f,qd,by omega,by simp;omega,A4 ?_,((hk.trans hk2).trans q7).belowB qe (D0 _),?_⟩
      ·rw[Lib.byteCells_append,Lib.byteCells_encodeRune];exact qi
      ·rw[Aa HE,Db,Aa K2];simp only[CR,if_false];rw[Aa HS];cases hx:Db f r with
       | none=>simp[hx]
       | some x=>simp[hx]
     case measure=>rw[qd.left,Aa HL];exact hn.1
    ·have HS:=Ab hs;clear hs
     go_wp2_with (fail)
     go_ret2
     refine⟨q5.trans ((hk.trans hk2).trans q7),A4 ⟨?_,_,r,rfl,q8⟩⟩;rw[Aa hE,Aa HE,Db,Aa K2];simp only[CR,if_false];rw[Aa HS]
 ·have hE:Hid (aE l=none):=by unfold Hid aE;rw[if_neg k1]
  have K1:=Ab (AA k1);clear k1 hT
  go_enter func182,ntmps182
  go_wp2_with (fail);refine (AP 34 _ rfl h (Aa K1)).mono ?_
  rintro e w1 ⟨rfl,q6,q5⟩
  go_wp2_with (fail)
  go_ret2
  exact⟨q5,A4 ⟨Aa hE,_,l,rfl,q6⟩⟩
theorem Bw:Keyed AI 9:=string_keyed underlying9
theorem B0(w:A3):(zeroValue 80).run AI w=.ok (.pointer none) w:=by kernel_rfl
theorem Y3(s:By)(h:s.length<=8000):keyOf AI 9 (.string ⟨s.toArray⟩)=some (.string s):=by
 have:=Go.WideMaps.keyOf_string_mk underlying9 (s:=⟨s.toArray⟩) (by rw[AU];unfold maxLen;omega);simpa using this
def RL(f:Nat)(R:Nat)(t:ByteArray)(lv:Int)(w0:A3)(p0 p1 p2 vb m N1:Nat)(l:By)(s:To×Fl)(e:Ending)(w':A3):Prop:=
 (∃l' s',CM (ZD f (lv+1)) l s=some (l',s')/\e=.returned (.bool true)/\F0 f R t lv w0 p0 p1 p2 vb m N1 w' l' s')\/(CM (ZD f (lv+1)) l s=none/\e=.returned (.bool false)/\RdJ R t w0 p2 vb w')
theorem PV(B:DF w0 R p0 p1 p2 vb N1)(hV:Ez f)(hlv:0<=lv)(w:A3)(l:By)(s:To)(tw:Bool)(dp fr:Int)(hI:F0 f R t lv w0 p0 p1 p2 vb m N1 w l (s,(tw,dp,fr)))(hl:l.length<f)(hb:lv+f<=4999):
  Bs AI 218 #[.pointer (some ⟨R,0,none⟩),.pointer (some ⟨vb,0,none⟩),.int .i64 (lv+1)] w fun e w'=>RL f R t lv w0 p0 p1 p2 vb m N1 l (s,(tw,dp,fr)) e w':=by
 have q8:=Bw;have qm:=B0;have qx:l.length<=2000:=by obtain⟨p,ha,_⟩:=hI.rd;have:=ha.len;have:=ha.small;omega
 have HI:=Ab hI;have hr:=hI.rd;simp only at hr;have hT:=hI.laid;clear hI
 go_enter func218,ntmps218
 go_wp2_with (fail);refine (Ju hr hT B.ng).mono ?_
 rintro e w1 ⟨qi,hc⟩;rcases hc with⟨k,l1,hq,rfl,qv⟩|⟨hq,k,l1,rfl,qv⟩
 rotate_left
 ·have HQ:=Ab hq;clear hq hT
  go_wp2_with (fail)
  go_ret;refine A4 ⟨?_,rfl,?_⟩
  ·unfold CM;rw[Aa HQ]
  ·have h9:=MK B (fl':=(tw,dp,fr)) (l':=[]) (w':=w1) (Aa HI);exact⟨(Aa HI).kept.trans qi,⟨_,_,_,_,qv⟩,(qi.block p2 (by have:=B.a2;have:=(Aa HI).sz;omega) (by have:=B.a2;have:=B.r;omega)).trans (Aa HI).b2⟩
 have HQ:=Ab hq;have zf:=Ih hq;have zk:=Xl hq;clear hq
 go_wp2_with (fail);refine (BT qv).mono ?_
 rintro e w2 ⟨rfl,qy,hk2⟩;have zi:=Bb l1;by_cases k1:Zn (Zu l1) 58=true
 rotate_left
 ·have K1:=Ab (AA k1);clear k1 hT
  go_wp2_with (fail);refine (AP 58 _ rfl qy (Aa K1)).mono ?_
  rintro e w3 ⟨rfl,qq,qu⟩;have hkk:=(qi.trans hk2).trans qu
  go_wp2_with (fail)
  go_ret;refine A4 ⟨?_,rfl,?_⟩
  ·unfold CM;rw[Aa HQ];simp only;rw[Aa K1];rfl
  ·exact⟨(Aa HI).kept.trans hkk,⟨_,_,_,_,qq⟩,(hkk.block p2 (by have:=B.a2;have:=(Aa HI).sz;omega) (by have:=B.a2;have:=B.r;omega)).trans (Aa HI).b2⟩
 have K1:=Ab k1;have zg:=BH k1;clear k1
 go_wp2_with (fail);refine (Ar 58 _ rfl qy (Aa K1)).mono ?_
 rintro e w3 ⟨rfl,qq,qu⟩
 go_wp2_with (fail);refine (BT qq).mono ?_
 rintro e w4 ⟨rfl,z6,za⟩;have zj:=Bb (Zu l1).tail;have q4:=((qi.trans hk2).trans qu).trans za
 go_wp2_with (fail);refine (hV R t (lv+1) _ _ _ _ w4 z6 (hT.kept q4 B.ng) B.ng (by omega) (by omega) (by omega)).mono ?_
 rintro e w5 ⟨zb,hc⟩;have q0:=q4.trans zb;have bR:=B.r;have av:=B.av;have a2:=B.a2;have bm:=(Aa HI).bm;have hsz:=(Aa HI).sz;obtain⟨n,D,es,hn,qj,ho,hp⟩:=(Aa HI).el;simp only at qj;have qz:=Aj ho (q0.block m (A7 ho) (by omega));have qp:=(Aa HI).hvb.kept (q0.block vb (Aa HI).hvb.lt (by omega));have q6:w5.cell? ⟨vb,6,none⟩=some (.map (some m)):=by simp[A2,show w5.heap[vb]? = _ from qp]
 have z1:keyOf AI 9 (.string ⟨k.toArray⟩)=some (.string k):=Y3 k (by omega);have HM:=Ab (show CM (ZD f (lv+1)) l (s,(tw,dp,fr))=(match ZD f (lv+1) (Zu (Zu l1).tail) (tw,dp,fr) with
  | none=>none
  | some (v,r,fl)=>some (r,(CH s (.string k) v,(fl.1 || C1 s (.string k),fl.2)))) from by
   unfold CM;rw[Aa HQ];simp only;rw[Aa K1];rfl)
 have qh:Hid (C1 s (.string k)=C1 (.map D) (.string k)):=by rw[Hid,qj];exact (hp.pt.has _).symm
 have q7:=Ab qz;have q5:=Ab z1;have HN:=Ab (show n<maxLen by unfold maxLen;omega);have qo:=Ab qj;have qk:=Ab hp;have qn:=Ab hn;clear qz z1 qj hp hn ho;generalize Zu (Zu l1).tail=l4 at *;rcases hc with⟨d,r,fl',p,hs,rfl,qf,qg⟩|⟨hs,p,rfl,r,zh,zc,z8,qf⟩
 ·have HS:=Ab hs;clear hs hT;cases hh:C1 (.map D) (.string k) with
  | false=>
   have HH:=Ab hh;clear hh
   go_wp2_with (first|(at_lookup;refine AT _ rfl _ _ 109 rfl 9 80 q8 underlying109 RV (qm _) (.held (.pointer none)) [] rfl m n (.map D) rfl (Aa q7) _ _ rfl (Aa q5) ?_))
   intro v0 qt qe;clear qe;rw[Aa HH]
   go_wp2_with (first|(at_mapUpdate;refine A1 _ rfl _ _ _ 109 rfl 9 80 q8 underlying109 RV m n (.map D) rfl (Aa q7) (Aa HN) _ _ _ rfl rfl (Aa q5) (.held (.pointer p)) [] rfl ?_))
   intro w6 qd qb
   go_wp2_with (fail)
   go_ret;have hf:=Im B (Aa HI) q0 qf (Aa qn) (Aa qo) (Aa qk) qd qb
   refine CL ⟨r,(CH s (.string k) d,(fl'.1,fl'.2)),?_,rfl,?_⟩
   ·rw[Aa HM,Aa HS];simp only;rw[Aa qh,Aa HH];simp
   ·have z7:=E4 _ _ _ _ _ _ _ (Aa HS);exact hf.2.2.2 d (qg.move q4.size fun j h1 h2=>rfl) (by omega)
  | true=>
   have HH:=Ab hh;clear hh;obtain⟨q,ha,hq⟩:=qf;have z2:=hq.fz 2;have y2:=hq.c2;have qw:RD (w5.setCell ⟨R,2,none⟩ (.bool true)) R t r true fl'.2.1 fl'.2.2:=⟨q,ha,hq.set2 true⟩
   have q9:Ae R w (w5.setCell ⟨R,2,none⟩ (.bool true)):=q0.setCell rfl _;have qr:=Ab (Aj (Aa q7) (show (w5.setCell ⟨R,2,none⟩ (.bool true)).heap[m]? = w5.heap[m]? from AS _ _ _ _ (show m≠R by omega)));have ze:(w5.setCell ⟨R,2,none⟩ (.bool true)).cell? ⟨vb,6,none⟩=some (.map (some m)):=(BY (w:=w5) (AS _ _ _ _ (show vb≠R by omega))).trans q6
   go_wp2_with (first|(at_lookup;refine AT _ rfl _ _ 109 rfl 9 80 q8 underlying109 RV (qm _) (.held (.pointer none)) [] rfl m n (.map D) rfl (Aa q7) _ _ rfl (Aa q5) ?_))
   intro v0 qt qe;clear qe;rw[Aa HH]
   go_wp2_with (first|(at_mapUpdate;refine A1 _ rfl _ _ _ 109 rfl 9 80 q8 underlying109 RV m n (.map D) rfl (Aa qr) (Aa HN) _ _ _ rfl rfl (Aa q5) (.held (.pointer p)) [] rfl ?_))
   intro w6 qd qb
   go_wp2_with (fail)
   go_ret;have hf:=Im B (Aa HI) q9 qw (Aa qn) (Aa qo) (Aa qk) qd qb
   refine CL ⟨r,(CH s (.string k) d,(true,fl'.2)),?_,rfl,?_⟩
   ·rw[Aa HM,Aa HS];simp only;rw[Aa qh,Aa HH];simp
   ·have z7:=E4 _ _ _ _ _ _ _ (Aa HS);exact hf.2.2.2 d (qg.move q4.size fun j h1 h2=>AS _ _ _ _ (show j≠R by have:=q4.size;omega)) (by omega)
 ·have HS:=Ab hs;clear hs hT;cases hh:C1 (.map D) (.string k) with
  | false=>
   have HH:=Ab hh;clear hh
   go_wp2_with (first|(at_lookup;refine AT _ rfl _ _ 109 rfl 9 80 q8 underlying109 RV (qm _) (.held (.pointer none)) [] rfl m n (.map D) rfl (Aa q7) _ _ rfl (Aa q5) ?_))
   intro v0 qt qe;clear qe;rw[Aa HH]
   go_wp2_with (first|(at_mapUpdate;refine A1 _ rfl _ _ _ 109 rfl 9 80 q8 underlying109 RV m n (.map D) rfl (Aa q7) (Aa HN) _ _ _ rfl rfl (Aa q5) (.held (.pointer p)) [] rfl ?_))
   intro w6 qd qb
   go_wp2_with (fail)
   go_ret;have hf:=Im B (Aa HI) q0 qf (Aa qn) (Aa qo) (Aa qk) qd qb
   refine A4 ⟨?_,rfl,hf.1,⟨_,_,_,_,hf.2.1⟩,hf.2.2.1⟩;rw[Aa HM,Aa HS]
  | true=>
   have HH:=Ab hh;clear hh;obtain⟨q,ha,hq⟩:=qf;have z2:=hq.fz 2;have y2:=hq.c2;have qw:RD (w5.setCell ⟨R,2,none⟩ (.bool true)) R t r true zc z8:=⟨q,ha,hq.set2 true⟩
   have q9:Ae R w (w5.setCell ⟨R,2,none⟩ (.bool true)):=q0.setCell rfl _;have qr:=Ab (Aj (Aa q7) (show (w5.setCell ⟨R,2,none⟩ (.bool true)).heap[m]? = w5.heap[m]? from AS _ _ _ _ (show m≠R by omega)));have ze:(w5.setCell ⟨R,2,none⟩ (.bool true)).cell? ⟨vb,6,none⟩=some (.map (some m)):=(BY (w:=w5) (AS _ _ _ _ (show vb≠R by omega))).trans q6
   go_wp2_with (first|(at_lookup;refine AT _ rfl _ _ 109 rfl 9 80 q8 underlying109 RV (qm _) (.held (.pointer none)) [] rfl m n (.map D) rfl (Aa q7) _ _ rfl (Aa q5) ?_))
   intro v0 qt qe;clear qe;rw[Aa HH]
   go_wp2_with (first|(at_mapUpdate;refine A1 _ rfl _ _ _ 109 rfl 9 80 q8 underlying109 RV m n (.map D) rfl (Aa qr) (Aa HN) _ _ _ rfl rfl (Aa q5) (.held (.pointer p)) [] rfl ?_))
   intro w6 qd qb
   go_wp2_with (fail)
   go_ret;have hf:=Im B (Aa HI) q9 qw (Aa qn) (Aa qo) (Aa qk) qd qb
   refine A4 ⟨?_,rfl,hf.1,⟨_,_,_,_,hf.2.1⟩,hf.2.2.1⟩;rw[Aa HM,Aa HS]
theorem TZ(f:Nat)(lv:Int)(l:By)(s:To×Fl)(l':By)(s':To×Fl)(h:CM (ZD f lv) l s=some (l',s')):l'.length<l.length:=by
 unfold CM at h;split at h
 ·cases h
 ·rename_i k l1 hq;have a:=Ih hq;have b:=Bb l1;split at h
  ·have c:=Bb (Zu l1).tail;have d:=List.length_tail (l:=Zu l1);split at h
   ·cases h
   ·rename_i v r fl hv;have:=E4 _ _ _ _ _ _ _ hv;injection h with h;injection h with h1 h2;subst h1;omega
  ·cases h
theorem TT(B:DF w0 R p0 p1 p2 vb N1)(hV:Ez f)(hlv:0<=lv)(hb:lv+f<=4999)(w:A3)(l:By)(s:To×Fl)(hI:F0 f R t lv w0 p0 p1 p2 vb m N1 w l s)(hl:l.length<f):
  Bs AI 217 #[.pointer (some ⟨p0,0,none⟩),.pointer (some ⟨p2,0,none⟩),.pointer (some ⟨p1,0,none⟩)] w fun e w'=>RL f R t lv w0 p0 p1 p2 vb m N1 l s e w':=by
 have c0:w.cell? ⟨p0,0,none⟩=some (.pointer (some ⟨R,0,none⟩)):=by simp[A2,hI.b0]
 have c1:w.cell? ⟨p1,0,none⟩=some (.int .i64 lv):=by simp[A2,hI.b1]
 have c2:w.cell? ⟨p2,0,none⟩=some (.pointer (some ⟨vb,0,none⟩)):=by simp[A2,hI.b2]
 have q0:lv<=4999:=by omega
 have HI:=Ab hI;clear hI
 go_enter func217,ntmps217
 go_wp2_with (fail);refine (PV B hV hlv w l s.1 s.2.1 s.2.2.1 s.2.2.2 (Aa HI) hl hb).mono ?_
 rintro e w2 hc;rcases hc with⟨l',s',h1,rfl,h2⟩|⟨h1,rfl,h2⟩
 ·have H1:=Ab h1;have H2:=Ab h2;clear h1 h2
  go_wp2_with (fail)
  go_ret;exact CL ⟨l',s',Aa H1,rfl,Aa H2⟩
 ·have H1:=Ab h1;have H2:=Ab h2;clear h1 h2
  go_wp2_with (fail)
  go_ret;exact A4 ⟨Aa H1,rfl,Aa H2⟩
theorem Xu(B:DF w0 R p0 p1 p2 vb N1)(hV:Ez f)(hlv:0<=lv)(hb:lv+f<=4999):
  ItemOk 217 #[.pointer (some ⟨p0,0,none⟩),.pointer (some ⟨p2,0,none⟩),.pointer (some ⟨p1,0,none⟩)] R t f (CM (ZD f (lv+1))) (F0 f R t lv w0 p0 p1 p2 vb m N1) (RdJ R t w0 p2 vb) where
 rd:=fun w l s h=>⟨_,_,_,h.rd⟩
 move:=fun w w' l l' s tw dp fr h h1 h2 hk hl=>by
  obtain⟨_,_,e1,e2,e3⟩:=h.rd.uniq h1;exact MK B (fl':=s.2) h (by rw[e1,e2,e3];exact h2) hk hl
 out:=fun w l s h=>⟨h.kept,⟨_,_,_,_,h.rd⟩,h.b2⟩
 len:=fun l s l' s' h=>TZ _ _ _ _ _ _ h
 call:=fun w l s h hl=>TT B hV hlv hb w l s h hl
def Xv(f:Nat)(lv:Int)(l:By)(fl:Fl)(e:Ending)(w w':A3)(R:Nat)(t:ByteArray):Prop:=
 (∃v r fl' p,Bq 123 125 (CM (ZD f (lv+1))) l (Ay [],fl)=some (r,(v,fl'))/\e=.returned (.tuple #[.pointer p,.bool true])/\RD w' R t r fl'.1 fl'.2.1 fl'.2.2/\Tr (f+1) w.heap.size w' (.pointer p) v) \/
  (Bq 123 125 (CM (ZD f (lv+1))) l (Ay [],fl)=none /\ ∃p,e=.returned (.tuple #[.pointer p,.bool false]) /\ ∃r tw dp fr,RD w' R t r tw dp fr)
theorem V3(B:DF w0 R p0 p1 p2 vb N1){s:To×Fl}(h:F0 f R t lv w0 p0 p1 p2 vb m N1 w l s):
  Tr (f+1) w0.heap.size w (.pointer (some ⟨vb,0,none⟩)) s.1:=by
 have av:=B.av;have bm:=h.bm;obtain⟨n,D,es,hn,he,ho,hp⟩:=h.el;rw[he];exact hp.obj av ⟨bm.1,bm.2.1⟩ (by omega) h.hvb ho
theorem Y8(w:A3)(o0 o1 o2 o3 o4:Obj):(((((w.alloc o0).alloc o1).alloc o2).alloc o3).alloc o4).heap[w.heap.size]? = some o0/\(((((w.alloc o0).alloc o1).alloc o2).alloc o3).alloc o4).heap[w.heap.size+1]? = some o1 /\
  (((((w.alloc o0).alloc o1).alloc o2).alloc o3).alloc o4).heap[w.heap.size+1+1]? = some o2/\(((((w.alloc o0).alloc o1).alloc o2).alloc o3).alloc o4).heap[w.heap.size+1+1+1]? = some o3/\(((((w.alloc o0).alloc o1).alloc o2).alloc o3).alloc o4).heap[w.heap.size+1+1+1+1]? = some o4:=by
 have h (k:Nat):(((((w.alloc o0).alloc o1).alloc o2).alloc o3).alloc o4).heap[k]? = (((((w.heap.push o0).push o1).push o2).push o3).push o4)[k]?:=rfl;rw[h,h,h,h,h];simp only[Array.getElem?_push,Array.size_push];refine⟨?_,?_,?_,?_,?_⟩
 ·rw[if_neg (by omega),if_neg (by omega),if_neg (by omega),if_neg (by omega),if_pos trivial]
 ·rw[if_neg (by omega),if_neg (by omega),if_neg (by omega),if_pos trivial]
 ·rw[if_neg (by omega),if_neg (by omega),if_pos trivial]
 ·rw[if_neg (by omega),if_pos trivial]
 ·rw[if_pos trivial]
theorem PP(hV:Ez f)(h:RD w R t l tw dp fr)(hT:Af w)(hR:NG<=R)(hl:l.length<=f)(hlv:0<=lv)(hb:lv+f<=4999):
  Bs AI 180 #[.pointer (some ⟨R,0,none⟩),.int .i64 lv] w fun e w'=>Ae R w w'/\Xv f lv l (tw,dp,fr) e w w' R t:=by
 have q7:=@run_makeMap AI;have q6:=h.lt;have q5:l.length<=2000:=by obtain⟨p,ha,_⟩:=h;have:=ha.len;have:=ha.small;omega
 have B:DF w R w.heap.size (w.heap.size+1) (w.heap.size+1+1+1+1) (w.heap.size+1+1+1) (w.heap.size+5):=⟨q6,hR,by omega,by omega,by omega,by omega,by omega,by omega,by omega⟩
 have hI:Hid (∀W,W=(((((w.alloc (.cells #[.pointer (some ⟨R,0,none⟩)] 153)).alloc (.cells #[.int .i64 lv] 3)).alloc (.map #[] 0)).alloc (.cells #[.int .i64 6,.bool false,.string ⟨#[]⟩,.int .i64 0,.string ⟨#[]⟩,.slice none 0 0,.map (some (w.heap.size+1+1))] 111)).alloc (.cells #[.pointer (some ⟨w.heap.size+1+1+1,0,none⟩)] 80)) ->
   F0 f R t lv w w.heap.size (w.heap.size+1) (w.heap.size+1+1+1+1) (w.heap.size+1+1+1) (w.heap.size+1+1) (w.heap.size+5) W l (Ay [],(tw,dp,fr))):=by
  rintro W rfl;have hf:=Y8 w (.cells #[.pointer (some ⟨R,0,none⟩)] 153) (.cells #[.int .i64 lv] 3) (.map #[] 0) (.cells #[.int .i64 6,.bool false,.string ⟨#[]⟩,.int .i64 0,.string ⟨#[]⟩,.slice none 0 0,.map (some (w.heap.size+1+1))] 111) (.cells #[.pointer (some ⟨w.heap.size+1+1+1,0,none⟩)] 80);have hk:=(((((Ae.refl R w).alloc (.cells #[.pointer (some ⟨R,0,none⟩)] 153)).alloc (.cells #[.int .i64 lv] 3)).alloc (.map #[] 0)).alloc (.cells #[.int .i64 6,.bool false,.string ⟨#[]⟩,.int .i64 0,.string ⟨#[]⟩,.slice none 0 0,.map (some (w.heap.size+1+1))] 111)).alloc (.cells #[.pointer (some ⟨w.heap.size+1+1+1,0,none⟩)] 80);have hm:((w.alloc (.cells #[.pointer (some ⟨R,0,none⟩)] 153)).alloc (.cells #[.int .i64 lv] 3)).heap.size=w.heap.size+1+1:=by simp
  have q0:=World.ownsMap_made ((w.alloc (.cells #[.pointer (some ⟨R,0,none⟩)] 153)).alloc (.cells #[.int .i64 lv] 3)) AI 9 RV;rw[hm] at q0;refine⟨((((h.alloc _).alloc _).alloc _).alloc _).alloc _,hk,hT.kept hk hR,hf.1,hf.2.1,hf.2.2.2.2,by simp,⟨by omega,by omega,by omega,by omega,by omega,by omega⟩,hf.2.2.2.1,0,[],[],by omega,rfl,?_,TrM.nil _ _ _⟩;exact Aj (Aj q0 (C2 _ _ _ (A7 q0))) (C2 _ _ _ (by simp))
 have K:=Xu (t:=t) (m:=w.heap.size+1+1) B hV hlv hb;clear hT
 go_enter func180,ntmps180
 go_wp2_with (fail);refine (Ue _ _ _ 123 125 123 125 rfl rfl R t f _ _ _ K _ l (Ay [],(tw,dp,fr)) (Aa hI _ rfl) hl).mono ?_
 rintro e w5 hc;rcases hc with⟨l',s',hs,rfl,q4⟩|⟨hs,rfl,hJ⟩
 ·have HS:=Ab hs;have hb2:=q4.b2;have q2:w5.cell? ⟨w.heap.size+1+1+1+1,0,none⟩=some (.pointer (some ⟨w.heap.size+1+1+1,0,none⟩)):=by simp[A2,hb2]
  have HI:=Ab q4;clear hs q4 hb2 hI
  go_wp2_with (fail)
  go_ret2
  exact⟨(Aa HI).kept,CL ⟨s'.1,l',s'.2,_,Aa HS,rfl,(Aa HI).rd,V3 B (Aa HI)⟩⟩
 ·have HS:=Ab hs;have hb2:=hJ.2.2;have q2:w5.cell? ⟨w.heap.size+1+1+1+1,0,none⟩=some (.pointer (some ⟨w.heap.size+1+1+1,0,none⟩)):=by simp[A2,hb2]
  have HJ:=Ab hJ;clear hs hJ hb2 hI
  go_wp2_with (fail)
  go_ret2
  exact⟨(Aa HJ).1,A4 ⟨Aa HS,_,rfl,(Aa HJ).2.1⟩⟩
end Go.Proofs.YtdpomdelmdofmaaGreatDoor
