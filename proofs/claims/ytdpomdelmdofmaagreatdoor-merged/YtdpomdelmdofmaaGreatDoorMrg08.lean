/-
  What the reading of an object's member leaves.
-/
import Derived.Test.YtdpomdelmdofmaaGreatDoorMrg07
import Derived.Test.YtdpomdelmdofmaaGreatDoorMrg05
import Derived.Test.YtdpomdelmdofmaaGreatDoorMrg03
import Derived.Maps.OwnSet
namespace Go.Proofs.YtdpomdelmdofmaaGreatDoor
section
open Go.RowKit
structure ObjI (f R:Nat) (t:ByteArray) (lv:Int) (w0:World) (p0 p1 p2 vb m N1:Nat) (w:World) (l:Sp.By) (s:Sp.V×Sp.Fl):Prop where
 rd:RD w R t l s.2.1 s.2.2.1 s.2.2.2
 kept:KeptX R w0 w
 laid:Laid w
 b0:w.heap[p0]? = some (.cells #[.pointer (some ⟨R,0,none⟩)] 153 (0,0))
 b1:w.heap[p1]? = some (.cells #[.int .i64 lv] 3 (0,0))
 b2:w.heap[p2]? = some (.cells #[.pointer (some ⟨vb,0,none⟩)] 80 (0,0))
 sz:N1≤w.heap.size
 bm:w0.heap.size≤m∧m<N1∧m≠p0∧m≠p1∧m≠p2∧m≠vb
 hvb:VB w vb 6 n0 [] (.slice none 0 0) (.map (some m))
 el:∃n D es,n+l.length≤2001∧s.1=Sp.vObj es∧w.ownsMap Tryz.prog 9 RV m n (.map D)∧TrM f N1 w D es
theorem obj_move {f R:Nat} {t:ByteArray} {lv:Int} {w0:World} {p0 p1 p2 vb m N1:Nat} (B:Boxes w0 R p0 p1 p2 vb N1) {w w':World} {l l':Sp.By} {s:Sp.V} {fl fl':Sp.Fl} (h:ObjI f R t lv w0 p0 p1 p2 vb m N1 w l (s,fl)) (hr:RD w' R t l' fl'.1 fl'.2.1 fl'.2.2) (hk:KeptX R w w') (hl:l'.length≤l.length) :
  ObjI f R t lv w0 p0 p1 p2 vb m N1 w' l' (s,fl'):=by
 have bR:=B.r
 have hsz:=h.sz
 have a0:=B.a0
 have a1:=B.a1
 have a2:=B.a2
 have av:=B.av
 have bm:=h.bm
 refine⟨hr,h.kept.trans hk,h.laid.kept hk B.ng,(hk.block p0 (by omega) (by omega)).trans h.b0,(hk.block p1 (by omega) (by omega)).trans h.b1,(hk.block p2 (by omega) (by omega)).trans h.b2,by have:=hk.size;omega,bm,h.hvb.kept (hk.block vb h.hvb.lt (by omega)),?_⟩
 obtain⟨n,D,es,hn,he,ho,hp⟩:=h.el
 refine⟨n,D,es,by omega,he,map_kept ho (hk.block m (map_lt ho) (by omega)),hp.move fun k h3 h4=>hk.block k h4 (by omega)⟩
theorem obj_fin {f R:Nat} {t:ByteArray} {lv:Int} {w0:World} {p0 p1 p2 vb m N1:Nat} (B:Boxes w0 R p0 p1 p2 vb N1) {w w5 w6:World} {l r:Sp.By} {s:Sp.V×Sp.Fl} (hI:ObjI f R t lv w0 p0 p1 p2 vb m N1 w l s) (hk:KeptX R w w5)
  {tw:Bool} {dp fr:Int} (hr5:RD w5 R t r tw dp fr) {n:Nat} {D:List (Lit×DataW Value)} {es:List (Lit×Sp.V)} (hn:n+l.length≤2001) (he:s.1=Sp.vObj es) (hp:TrM f N1 w D es)
  {x:Value} {k:Lit} (hown6:w6.ownsMap Tryz.prog 9 RV m (n+1) (DataW.put (.map D) k (.held x))) (hgrow:w5.grownBy w6 (some m)) :
  KeptX R w0 w6∧RD w6 R t r tw dp fr∧w6.heap[p2]? = some (.cells #[.pointer (some ⟨vb,0,none⟩)] 80 (0,0)) ∧
  ∀ (d:Sp.V),Tr f w.heap.size w5 x d→r.length<l.length→ObjI f R t lv w0 p0 p1 p2 vb m N1 w6 r (DataW.put s.1 k d,(tw,dp,fr)):=by
 have bR:=B.r
 have hsz:=hI.sz
 have a0:=B.a0
 have a1:=B.a1
 have a2:=B.a2
 have av:=B.av
 have bm:=hI.bm
 have hs5:=hk.size
 have gs:=hgrow.size
 have k6:∀j,j<w5.heap.size→j≠m→w6.heap[j]? = w5.heap[j]?:=fun j h1 h2=>hgrow.block j h1 (by simpa using h2)
 have kx:KeptX R w0 w6:=by
  have hk0:=hI.kept.trans hk
  refine⟨hgrow.os.trans hk0.os,hgrow.tape.trans hk0.tape,hgrow.output.trans hk0.output,by have:=hk0.size;omega,fun j h1 h2=>(k6 j (by have:=hk0.size;omega) (by omega)).trans (hk0.block j h1 h2)⟩
 have hrd:RD w6 R t r tw dp fr:=by
  obtain⟨q,ha,hq⟩:=hr5
  exact⟨q,ha,(k6 R (RP.lt hq) (by omega)).trans hq⟩
 have box:∀ (j:Nat) (ob:Obj),w0.heap.size≤j→j<N1→j≠m→w.heap[j]? = some ob→w6.heap[j]? = some ob:=fun j ob h1 h2 h3 h4 =>
  (k6 j (by omega) h3).trans ((hk.block j (by omega) (by omega)).trans h4)
 refine⟨kx,hrd,box _ _ a2.1 a2.2 (by omega) hI.b2,?_⟩
 intro d hrep hlen
 refine⟨hrd,kx,hI.laid.below ⟨hgrow.os.trans hk.os,hgrow.tape.trans hk.tape,hgrow.output.trans hk.output,by omega,fun j hj=>(k6 j (by have:=hI.laid.ng;omega) (by have:=B.ng;omega)).trans (hk.block j (by have:=hI.laid.ng;omega) (by have:=B.ng;omega))⟩,
  box _ _ a0.1 a0.2 (by omega) hI.b0,box _ _ a1.1 a1.2 (by omega) hI.b1,box _ _ a2.1 a2.2 (by omega) hI.b2,by omega,bm,box _ _ av.1 av.2 (by omega) hI.hvb,?_⟩
 obtain⟨D',es',e1,e2,hp'⟩:=hp.put (k:=k) (w6:=w6) hrep hsz (fun j h1 h2=>(k6 j (by omega) (by omega)).trans (hk.block j h2 (by omega))) (fun j h1 h2=>k6 j h2 (by omega))
 refine⟨n+1,D',es',by omega,?_,?_,hp'⟩
 ·rw[he];exact e2
 ·rw[← e1];exact hown6
theorem chrs_bd (f:Nat):∀ (l s r:Sp.By),Sp.chrs f l=some (s,r)→s.length+4*r.length≤4*l.length:=by
 induction f with
 | zero=>intro l s r h;cases h
 | succ f ih =>
  intro l s r h
  unfold Sp.chrs at h
  split at h
  ·injection h with h;injection h with h1 h2;subst h1;subst h2;simp;omega
  ·split at h
   ·cases h
   ·rename_i c r1 hc
    have a:=chr_len hc
    have b:=enc_len (c:Int)
    split at h
    ·cases h
    ·rename_i s1 r2 hx
     have h3:=ih _ _ _ hx
     injection h with h;injection h with h1 h2;subst h1;subst h2;simp only[List.length_append];omega
theorem quo_bd {l s r:Sp.By} (h:Sp.quo l=some (s,r)):s.length≤4*l.length:=by
 unfold Sp.quo at h
 split at h
 ·have:=chrs_bd _ _ _ _ h;have:=List.length_tail (l:=l);omega
 ·cases h
end

section
set_option maxHeartbeats 4000000
open Go.RowKit
theorem chr_a {w:World} {R:Nat} {t:ByteArray} {l:Sp.By} {tw:Bool} {dp fr:Int} (h:RD w R t l tw dp fr) (hT:Laid w) (hR:NG≤R) (k1:Sp.tk l 92=false) (c n:Nat) (hd:Sp.dec l=(c,n)) (e1:decide ((c:Int)<32)=true) :
  Calls Tryz.prog 220 #[.pointer (some ⟨R,0,none⟩)] w fun e w'=>KeptX R w w'∧runeEnd (Sp.chr l) e w' R t tw dp fr:=by
 have K1:=hide k1
 have hn:n≤l.length:=by have:=dec_le l;rw[hd] at this;exact this
 have HE:Hid (Sp.chr l=none):=by
  unfold Hid Sp.chr
  rw[k1,hd]
  have:c<32:=by simp at e1;omega
  simp[this]
 clear k1
 go_enter Tryz.func220,Tryz.ntmps220
 go_wp2_with (fail)
 refine (takeN 92 _ rfl h (unhide K1)).mono ?_
 rintro e w1 ⟨rfl,hr1,hk1⟩
 have hT1:=hT.kept hk1 hR
 obtain⟨q,ha,hq⟩:=hr1
 have c0:=hq.c0
 have c1:=hq.c1
 have b2:(q:Int)≤(t.size:Int):=by have:=ha.le;omega
 have b3:(q:Int)+n≤2000:=by have:=ha.le;have:=ha.small;have:=ha.len;omega
 have cD:∀W:World,Lib.Utf8Tabs 1 2 W→Calls Tryz.prog 230 #[.string (t.extract q t.size)] W fun e w'=>e = .returned (.tuple #[.int .i32 c,.int .i64 n])∧Below W.heap.size W w':=fun W hW=>by
  have:=Tryz.utf8_DecodeRuneInString (t.extract q t.size) W hW
  rw[dec_eq,ha.eq,hd] at this
  exact this
 have CD:=hide cD
 have HQ:=hide hq
 have HA:=hide ha
 have HD:=hide hd
 clear hq ha h hT cD hd
 go_wp2_with (fail)
 go_region_with (go_at_call 230;refine (unhide CD _ ?_).mono ?_;exact hT1.utf8;rintro e w' ⟨rfl,hb⟩)
 all_goals (
  replace hb:Below w1.heap.size w1 w':=⟨hb.os,hb.tape,hb.output,hb.size,hb.block⟩
  go_wp2_with (fail)
  go_ret2
  exact⟨hk1.trans (KeptX.of_below hb),Or.inr ⟨unhide HE,0,l,rfl,⟨q,unhide HA,(unhide HQ).kept (KeptX.of_below (X:=R+1) hb) (by omega)⟩⟩⟩)
theorem chr_b {w:World} {R:Nat} {t:ByteArray} {l:Sp.By} {tw:Bool} {dp fr:Int} (h:RD w R t l tw dp fr) (hT:Laid w) (hR:NG≤R) (k1:Sp.tk l 92=false) (c n:Nat) (hd:Sp.dec l=(c,n)) (e1:decide ((c:Int)<32)=false) (e2:((c:Int) == 65533)=false) :
  Calls Tryz.prog 220 #[.pointer (some ⟨R,0,none⟩)] w fun e w'=>KeptX R w w'∧runeEnd (Sp.chr l) e w' R t tw dp fr:=by
 have K1:=hide k1
 have hn:n≤l.length:=by have:=dec_le l;rw[hd] at this;exact this
 have HE:Hid (Sp.chr l=some (c,l.drop n)):=by
  unfold Hid Sp.chr
  rw[k1,hd]
  have h1:¬ c<32:=by simp at e1;omega
  have h2:¬ c=65533:=by intro h;subst h;simp at e2
  simp[h1,h2]
 clear k1
 go_enter Tryz.func220,Tryz.ntmps220
 go_wp2_with (fail)
 refine (takeN 92 _ rfl h (unhide K1)).mono ?_
 rintro e w1 ⟨rfl,hr1,hk1⟩
 have hT1:=hT.kept hk1 hR
 obtain⟨q,ha,hq⟩:=hr1
 have c0:=hq.c0
 have c1:=hq.c1
 have b2:(q:Int)≤(t.size:Int):=by have:=ha.le;omega
 have b3:(q:Int)+n≤2000:=by have:=ha.le;have:=ha.small;have:=ha.len;omega
 have cD:∀W:World,Lib.Utf8Tabs 1 2 W→Calls Tryz.prog 230 #[.string (t.extract q t.size)] W fun e w'=>e = .returned (.tuple #[.int .i32 c,.int .i64 n])∧Below W.heap.size W w':=fun W hW=>by
  have:=Tryz.utf8_DecodeRuneInString (t.extract q t.size) W hW
  rw[dec_eq,ha.eq,hd] at this
  exact this
 have CD:=hide cD
 have HQ:=hide hq
 have HA:=hide ha
 have HD:=hide hd
 clear hq ha h hT cD hd
 go_wp2_with (fail)
 go_region_with (go_at_call 230;refine (unhide CD _ ?_).mono ?_;exact hT1.utf8;rintro e w' ⟨rfl,hb⟩)
 all_goals (
  replace hb:Below w1.heap.size w1 w':=⟨hb.os,hb.tape,hb.output,hb.size,hb.block⟩
  have hq2:RP w' R t q tw dp fr:=(unhide HQ).kept (KeptX.of_below (X:=R+1) hb) (by omega)
  have d1:=hq2.c1
  have f1:=hq2.fz 1
  have hfin:RD (w'.setCell ⟨R,1,none⟩ (.int .i64 ((q:Int)+n))) R t (l.drop n) tw dp fr:=⟨q+n,(unhide HA).add n hn,hq2.set1 (q+n)⟩
  have HF:=hide hfin
  clear hq2 hfin
  go_wp2_with (fail)
  go_ret2
  exact⟨(hk1.trans (KeptX.of_below hb)).setCell rfl _,Or.inl ⟨c,l.drop n,unhide HE,rfl,unhide HF⟩⟩)
theorem chr_c {w:World} {R:Nat} {t:ByteArray} {l:Sp.By} {tw:Bool} {dp fr:Int} (h:RD w R t l tw dp fr) (hT:Laid w) (hR:NG≤R) (k1:Sp.tk l 92=false) (c n:Nat) (hd:Sp.dec l=(c,n)) (e1:decide ((c:Int)<32)=false) (e2:((c:Int) == 65533)=true) (e3:decide ((n:Int)<2)=true) :
  Calls Tryz.prog 220 #[.pointer (some ⟨R,0,none⟩)] w fun e w'=>KeptX R w w'∧runeEnd (Sp.chr l) e w' R t tw dp fr:=by
 have K1:=hide k1
 have hn:n≤l.length:=by have:=dec_le l;rw[hd] at this;exact this
 have HE:Hid (Sp.chr l=none):=by
  unfold Hid Sp.chr
  rw[k1,hd]
  have h1:c=65533:=by simp at e2;omega
  have h2:n<2:=by simp at e3;omega
  simp[h1,h2]
 clear k1
 go_enter Tryz.func220,Tryz.ntmps220
 go_wp2_with (fail)
 refine (takeN 92 _ rfl h (unhide K1)).mono ?_
 rintro e w1 ⟨rfl,hr1,hk1⟩
 have hT1:=hT.kept hk1 hR
 obtain⟨q,ha,hq⟩:=hr1
 have c0:=hq.c0
 have c1:=hq.c1
 have b2:(q:Int)≤(t.size:Int):=by have:=ha.le;omega
 have b3:(q:Int)+n≤2000:=by have:=ha.le;have:=ha.small;have:=ha.len;omega
 have cD:∀W:World,Lib.Utf8Tabs 1 2 W→Calls Tryz.prog 230 #[.string (t.extract q t.size)] W fun e w'=>e = .returned (.tuple #[.int .i32 c,.int .i64 n])∧Below W.heap.size W w':=fun W hW=>by
  have:=Tryz.utf8_DecodeRuneInString (t.extract q t.size) W hW
  rw[dec_eq,ha.eq,hd] at this
  exact this
 have CD:=hide cD
 have HQ:=hide hq
 have HA:=hide ha
 have HD:=hide hd
 clear hq ha h hT cD hd
 go_wp2_with (fail)
 go_region_with (go_at_call 230;refine (unhide CD _ ?_).mono ?_;exact hT1.utf8;rintro e w' ⟨rfl,hb⟩)
 all_goals (
  replace hb:Below w1.heap.size w1 w':=⟨hb.os,hb.tape,hb.output,hb.size,hb.block⟩
  go_wp2_with (fail)
  go_ret2
  exact⟨hk1.trans (KeptX.of_below hb),Or.inr ⟨unhide HE,0,l,rfl,⟨q,unhide HA,(unhide HQ).kept (KeptX.of_below (X:=R+1) hb) (by omega)⟩⟩⟩)
theorem chr_d {w:World} {R:Nat} {t:ByteArray} {l:Sp.By} {tw:Bool} {dp fr:Int} (h:RD w R t l tw dp fr) (hT:Laid w) (hR:NG≤R) (k1:Sp.tk l 92=false) (c n:Nat) (hd:Sp.dec l=(c,n)) (e1:decide ((c:Int)<32)=false) (e2:((c:Int) == 65533)=true) (e3:decide ((n:Int)<2)=false) :
  Calls Tryz.prog 220 #[.pointer (some ⟨R,0,none⟩)] w fun e w'=>KeptX R w w'∧runeEnd (Sp.chr l) e w' R t tw dp fr:=by
 have K1:=hide k1
 have hn:n≤l.length:=by have:=dec_le l;rw[hd] at this;exact this
 have HE:Hid (Sp.chr l=some (c,l.drop n)):=by
  unfold Hid Sp.chr
  rw[k1,hd]
  have h1:c=65533:=by simp at e2;omega
  have h2:¬ n<2:=by simp at e3;omega
  have h3:¬ c<32:=by omega
  simp[h1,h2]
 clear k1
 go_enter Tryz.func220,Tryz.ntmps220
 go_wp2_with (fail)
 refine (takeN 92 _ rfl h (unhide K1)).mono ?_
 rintro e w1 ⟨rfl,hr1,hk1⟩
 have hT1:=hT.kept hk1 hR
 obtain⟨q,ha,hq⟩:=hr1
 have c0:=hq.c0
 have c1:=hq.c1
 have b2:(q:Int)≤(t.size:Int):=by have:=ha.le;omega
 have b3:(q:Int)+n≤2000:=by have:=ha.le;have:=ha.small;have:=ha.len;omega
 have cD:∀W:World,Lib.Utf8Tabs 1 2 W→Calls Tryz.prog 230 #[.string (t.extract q t.size)] W fun e w'=>e = .returned (.tuple #[.int .i32 c,.int .i64 n])∧Below W.heap.size W w':=fun W hW=>by
  have:=Tryz.utf8_DecodeRuneInString (t.extract q t.size) W hW
  rw[dec_eq,ha.eq,hd] at this
  exact this
 have CD:=hide cD
 have HQ:=hide hq
 have HA:=hide ha
 have HD:=hide hd
 clear hq ha h hT cD hd
 go_wp2_with (fail)
 go_region_with (go_at_call 230;refine (unhide CD _ ?_).mono ?_;exact hT1.utf8;rintro e w' ⟨rfl,hb⟩)
 all_goals (
  replace hb:Below w1.heap.size w1 w':=⟨hb.os,hb.tape,hb.output,hb.size,hb.block⟩
  have hq2:RP w' R t q tw dp fr:=(unhide HQ).kept (KeptX.of_below (X:=R+1) hb) (by omega)
  have d1:=hq2.c1
  have f1:=hq2.fz 1
  have hfin:RD (w'.setCell ⟨R,1,none⟩ (.int .i64 ((q:Int)+n))) R t (l.drop n) tw dp fr:=⟨q+n,(unhide HA).add n hn,hq2.set1 (q+n)⟩
  have HF:=hide hfin
  clear hq2 hfin
  go_wp2_with (fail)
  go_ret2
  exact⟨(hk1.trans (KeptX.of_below hb)).setCell rfl _,Or.inl ⟨c,l.drop n,unhide HE,rfl,unhide HF⟩⟩)
theorem character_any {w:World} {R:Nat} {t:ByteArray} {l:Sp.By} {tw:Bool} {dp fr:Int} (h:RD w R t l tw dp fr) (hT:Laid w) (hR:NG≤R) :
  Calls Tryz.prog 220 #[.pointer (some ⟨R,0,none⟩)] w fun e w'=>KeptX R w w'∧runeEnd (Sp.chr l) e w' R t tw dp fr:=by
 by_cases k1:Sp.tk l 92=true
 ·have hE:Hid (Sp.chr l=Sp.esc l.tail):=by unfold Hid Sp.chr;rw[k1];rfl
  have K1:=hide k1
  clear k1
  go_enter Tryz.func220,Tryz.ntmps220
  go_wp2_with (fail)
  refine (take_yes 92 _ rfl h (unhide K1)).mono ?_
  rintro e w1 ⟨rfl,hr1,hk1⟩
  go_wp2_with (fail)
  refine (escape_any hr1 (hT.kept hk1 hR) hR).mono ?_
  rintro e w2 ⟨hk2,hc⟩
  rcases hc with⟨n,l',hs,rfl,hr2⟩|⟨hs,n,l',rfl,hr2⟩
  ·have HS:=hide hs
   clear hs
   go_wp2_with (fail)
   go_ret2
   exact⟨hk1.trans hk2,Or.inl ⟨n,l',by rw[unhide hE];exact unhide HS,rfl,hr2⟩⟩
  ·have HS:=hide hs
   clear hs
   go_wp2_with (fail)
   go_ret2
   exact⟨hk1.trans hk2,Or.inr ⟨by rw[unhide hE];exact unhide HS,n,l',rfl,hr2⟩⟩
 ·have k1:=tk_false k1
  obtain⟨c,n,hd⟩:∃c n,Sp.dec l=(c,n):=⟨_,_,rfl⟩
  by_cases h1:c<32
  ·exact chr_a h hT hR k1 c n hd (by simp;omega)
  ·by_cases h2:c=65533
   ·by_cases h3:n<2
    ·exact chr_c h hT hR k1 c n hd (by simp;omega) (by simp;omega) (by simp;omega)
    ·exact chr_d h hT hR k1 c n hd (by simp;omega) (by simp;omega) (by simp;omega)
   ·exact chr_b h hT hR k1 c n hd (by simp;omega) (by simp;omega)
end

section
set_option maxHeartbeats 2000000
open Go.RowKit
theorem BAt_kept {B b R:Nat} {p:Value} {bs:List Value} {w w':World} (h:Lib.BuilderAt 119 5 B b p bs w) (hk:KeptX R w w') (hR:R<B):Lib.BuilderAt 119 5 B b p bs w':=by
 obtain⟨hB,v,hb,hown,hne⟩:=h
 refine⟨hB,v,(hk.block b (Array.getElem?_eq_some_iff.1 hb).1 (by omega)).trans hb,?_,hne⟩
 refine⟨hown.1,hown.2.imp id ?_⟩
 rintro⟨g,cap,cur,h1,h2,h3,h4⟩
 exact⟨g,cap,cur,h1,h2,(hk.block g (Array.getElem?_eq_some_iff.1 h3).1 (by omega)).trans h3,h4⟩
theorem IsB_kept {B b R:Nat} {bs:List Value} {w w':World} (h:IsB B b bs w) (hk:KeptX R w w') (hR:R<B):IsB B b bs w' :=
 h.imp (fun h=>BAt_kept h hk hR) (fun h=>BAt_kept h hk hR)
theorem KeptX.belowB {X B:Nat} {w a b:World} (h:KeptX X w a) (hb:Below B a b) (hB:w.heap.size≤B):KeptX X w b :=
 ⟨hb.os.trans h.os,hb.tape.trans h.tape,hb.output.trans h.output,Nat.le_trans h.size hb.size,fun k hk hx=>(hb.block k (by omega)).trans (h.block k hk hx)⟩
def strEnd (o:Option (Sp.By×Sp.By)) (e:Ending) (w':World) (R:Nat) (t:ByteArray) (tw:Bool) (dp fr:Int):Prop :=
 (∃s l',o=some (s,l')∧e = .returned (.tuple #[.string ⟨s.toArray⟩,.bool true])∧RD w' R t l' tw dp fr) ∨
  (o=none ∧ ∃s l',e = .returned (.tuple #[.string s,.bool false])∧RD w' R t l' tw dp fr)
theorem quoted_any {w:World} {R:Nat} {t:ByteArray} {l:Sp.By} {tw:Bool} {dp fr:Int} (h:RD w R t l tw dp fr) (hT:Laid w) (hR:NG≤R) :
  Calls Tryz.prog 182 #[.pointer (some ⟨R,0,none⟩)] w fun e w'=>KeptX R w w'∧strEnd (Sp.quo l) e w' R t tw dp fr:=by
 have h2000:l.length≤2000:=by obtain⟨p,ha,_⟩:=h;have:=ha.len;have:=ha.small;omega
 by_cases k1:Sp.tk l 34=true
 ·have hE:Hid (Sp.quo l=Sp.chrs (l.length+1) l.tail):=by unfold Hid Sp.quo;rw[k1];rfl
  have K1:=hide k1
  have hl1:=tk_cons k1
  clear k1
  go_enter Tryz.func182,Tryz.ntmps182
  go_wp2_with (fail)
  refine (take_yes 34 _ rfl h (unhide K1)).mono ?_
  rintro e w1 ⟨rfl,hr1,hk1⟩
  have hRlt:=hr1.lt
  have hT1:=hT.kept hk1 hR
  have hz1:=hk1.size
  clear h hT
  go_wp2_with (fail)
  go_loopw [10] (fun _ wr=>∃ (l' acc:Sp.By) (f:Nat),RD wr R t l' tw dp fr∧l'.length<f∧acc.length+4*l'.length≤8000∧IsB w1.heap.size w1.heap.size (Lib.byteCells acc) wr∧KeptX R w1 wr ∧
    Sp.chrs (l.length+1) l.tail=(match Sp.chrs f l' with|none=>none|some (s,r)=>some (acc++s,r))) (fun _ wr=>left wr R)
  case atStart =>
   refine⟨l.tail,[],l.length+1,hr1.alloc _,by omega,by simp;omega,Lib.fresh_isBuilder _ _ w1,(KeptX.refl R w1).alloc _,?_⟩
   cases hx:Sp.chrs (l.length+1) l.tail with
   | none=>rfl
   | some x=>rfl
  case round =>
   obtain⟨l',acc,f,hr,hf,hal,hB,hk,he⟩:=hrel
   have HE:=hide he
   have HL:=hide hr.left
   have HB:=hide hB
   have hTr:=hT1.kept hk hR
   have hzr:=hk.size
   clear he hr1 hB
   obtain⟨f,rfl⟩:∃g,f=g+1:=⟨f-1,by omega⟩
   by_cases k2:Sp.tk l' 34=true
   ·have K2:=hide k2
    clear k2 hT1
    go_wp2_with (fail)
    refine (take_yes 34 _ rfl hr (unhide K2)).mono ?_
    rintro e w2 ⟨rfl,hr2,hk2⟩
    go_wp2_with (fail)
    refine (Tryz.Builder_String_any w1.heap.size w1.heap.size acc _ (IsB_kept (unhide HB) hk2 hRlt) (by have:=hk2.size;omega)).mono ?_
    rintro e w3 ⟨rfl,hb3⟩
    go_wp2_with (fail)
    go_ret2
    refine⟨hk1.trans ((hk.trans hk2).belowB hb3 (Nat.le_refl _)),Or.inl ⟨acc,l'.tail,?_,rfl,?_⟩⟩
    ·rw[unhide hE,unhide HE,Sp.chrs,unhide K2];simp
    ·obtain⟨q,ha,hq⟩:=hr2
     exact⟨q,ha,(hb3.block R hRlt).trans hq⟩
   ·have K2:=hide (tk_false k2)
    clear k2
    go_wp2_with (fail)
    refine (takeN 34 _ rfl hr (unhide K2)).mono ?_
    rintro e w2 ⟨rfl,hr2,hk2⟩
    go_wp2_with (fail)
    refine (character_any hr2 (hTr.kept hk2 hR) hR).mono ?_
    rintro e w3 ⟨hk3,hc⟩
    rcases hc with⟨n,r,hs,rfl,hr3⟩|⟨hs,n,r,rfl,hr3⟩
    ·have hn:=chr_len hs
     have HS:=hide hs
     have b1:(0:Int)≤(n:Int):=by omega
     have b2:(n:Int)≤2147483647:=by omega
     have henc:=enc_len (n:Int)
     clear hs
     go_wp2_with (fail)
     refine (WriteRune_any w1.heap.size w1.heap.size (Lib.byteCells acc) n (by omega) (by omega) _ (IsB_kept (IsB_kept (unhide HB) hk2 hRlt) hk3 hRlt) (by rw[Lib.byteCells_length];omega) (by have:=hk2.size;have:=hk3.size;omega)).mono ?_
     rintro e w4 ⟨⟨m,rfl⟩,hB4,hb4⟩
     go_wp2_with (fail)
     have hr4:RD w4 R t r tw dp fr:=by obtain⟨q,ha,hq⟩:=hr3;exact⟨q,ha,(hb4.block R hRlt).trans hq⟩
     go_roundw
     case rel =>
      refine⟨r,acc++Lib.encodeRune n,f,hr4,by omega,by simp;omega,Or.inr ?_,((hk.trans hk2).trans hk3).belowB hb4 (Nat.le_refl _),?_⟩
      ·rw[Lib.byteCells_append,Lib.byteCells_encodeRune];exact hB4
      ·rw[unhide HE,Sp.chrs,unhide K2]
       simp only[Bool.false_eq_true,if_false]
       rw[unhide HS]
       cases hx:Sp.chrs f r with
       | none=>simp[hx]
       | some x=>simp[hx]
     case measure=>rw[hr4.left,unhide HL];exact hn.1
    ·have HS:=hide hs
     clear hs
     go_wp2_with (fail)
     go_ret2
     refine⟨hk1.trans ((hk.trans hk2).trans hk3),Or.inr ⟨?_,_,r,rfl,hr3⟩⟩
     rw[unhide hE,unhide HE,Sp.chrs,unhide K2]
     simp only[Bool.false_eq_true,if_false]
     rw[unhide HS]
 ·have hE:Hid (Sp.quo l=none):=by unfold Hid Sp.quo;rw[if_neg k1]
  have K1:=hide (tk_false k1)
  clear k1 hT
  go_enter Tryz.func182,Tryz.ntmps182
  go_wp2_with (fail)
  refine (takeN 34 _ rfl h (unhide K1)).mono ?_
  rintro e w1 ⟨rfl,hr1,hk1⟩
  go_wp2_with (fail)
  go_ret2
  exact⟨hk1,Or.inr ⟨unhide hE,_,l,rfl,hr1⟩⟩
end

section
set_option maxRecDepth 100000
set_option maxHeartbeats 8000000
open Go.RowKit Go.Maps Go.ChangeMaps Go.WideMaps
theorem mlaw:Keyed Tryz.prog 9:=string_keyed Tryz.underlying9
theorem mzero (w:World):(zeroValue 80).run Tryz.prog w = .ok (.pointer none) w:=by kernel_rfl
theorem mkey (s:Sp.By) (h:s.length≤8000):keyOf Tryz.prog 9 (.string ⟨s.toArray⟩)=some (.string s):=by
 have:=Go.WideMaps.keyOf_string_mk Tryz.underlying9 (s:=⟨s.toArray⟩) (by rw[bs_size];unfold maxLen;omega)
 simpa using this
def memEnd (f:Nat) (R:Nat) (t:ByteArray) (lv:Int) (w0:World) (p0 p1 p2 vb m N1:Nat) (l:Sp.By) (s:Sp.V×Sp.Fl) (e:Ending) (w':World):Prop :=
 (∃l' s',Sp.memb (Sp.val f (lv+1)) l s=some (l',s')∧e = .returned (.bool true)∧ObjI f R t lv w0 p0 p1 p2 vb m N1 w' l' s')∨(Sp.memb (Sp.val f (lv+1)) l s=none∧e = .returned (.bool false)∧RdJ R t w0 p2 vb w')
theorem member_any {f R:Nat} {t:ByteArray} {lv:Int} {w0:World} {p0 p1 p2 vb m N1:Nat} (B:Boxes w0 R p0 p1 p2 vb N1) (hV:ValOk f) (hlv:0≤lv) (w:World) (l:Sp.By) (s:Sp.V) (tw:Bool) (dp fr:Int) (hI:ObjI f R t lv w0 p0 p1 p2 vb m N1 w l (s,(tw,dp,fr))) (hl:l.length<f) (hb:lv+f≤4999) :
  Calls Tryz.prog 218 #[.pointer (some ⟨R,0,none⟩),.pointer (some ⟨vb,0,none⟩),.int .i64 (lv+1)] w fun e w'=>memEnd f R t lv w0 p0 p1 p2 vb m N1 l (s,(tw,dp,fr)) e w':=by
 have hml:=mlaw
 have hmz:=mzero
 have h2000:l.length≤2000:=by obtain⟨p,ha,_⟩:=hI.rd;have:=ha.len;have:=ha.small;omega
 have HI:=hide hI
 have hr:=hI.rd
 simp only at hr
 have hT:=hI.laid
 clear hI
 go_enter Tryz.func218,Tryz.ntmps218
 go_wp2_with (fail)
 refine (quoted_any hr hT B.ng).mono ?_
 rintro e w1 ⟨hk1,hc⟩
 rcases hc with⟨k,l1,hq,rfl,hr1⟩|⟨hq,k,l1,rfl,hr1⟩
 rotate_left
 ·have HQ:=hide hq
  clear hq hT
  go_wp2_with (fail)
  go_ret
  refine Or.inr ⟨?_,rfl,?_⟩
  ·unfold Sp.memb;rw[unhide HQ]
  ·have h9:=obj_move B (fl':=(tw,dp,fr)) (l':=[]) (w':=w1) (unhide HI)
   exact⟨(unhide HI).kept.trans hk1,⟨_,_,_,_,hr1⟩,(hk1.block p2 (by have:=B.a2;have:=(unhide HI).sz;omega) (by have:=B.a2;have:=B.r;omega)).trans (unhide HI).b2⟩
 have HQ:=hide hq
 have hql:=Sp.quo_len hq
 have hqb:=quo_bd hq
 clear hq
 go_wp2_with (fail)
 refine (blanks_any hr1).mono ?_
 rintro e w2 ⟨rfl,hr2,hk2⟩
 have hs1:=Sp.skB_len l1
 by_cases k1:Sp.tk (Sp.skB l1) 58=true
 rotate_left
 ·have K1:=hide (tk_false k1)
  clear k1 hT
  go_wp2_with (fail)
  refine (takeN 58 _ rfl hr2 (unhide K1)).mono ?_
  rintro e w3 ⟨rfl,hr3,hk3⟩
  have hkk:=(hk1.trans hk2).trans hk3
  go_wp2_with (fail)
  go_ret
  refine Or.inr ⟨?_,rfl,?_⟩
  ·unfold Sp.memb;rw[unhide HQ];simp only;rw[unhide K1];rfl
  ·exact⟨(unhide HI).kept.trans hkk,⟨_,_,_,_,hr3⟩,(hkk.block p2 (by have:=B.a2;have:=(unhide HI).sz;omega) (by have:=B.a2;have:=B.r;omega)).trans (unhide HI).b2⟩
 have K1:=hide k1
 have hl2:=tk_cons k1
 clear k1
 go_wp2_with (fail)
 refine (take_yes 58 _ rfl hr2 (unhide K1)).mono ?_
 rintro e w3 ⟨rfl,hr3,hk3⟩
 go_wp2_with (fail)
 refine (blanks_any hr3).mono ?_
 rintro e w4 ⟨rfl,hr4,hk4⟩
 have hs3:=Sp.skB_len (Sp.skB l1).tail
 have hk04:=((hk1.trans hk2).trans hk3).trans hk4
 go_wp2_with (fail)
 refine (hV R t (lv+1) _ _ _ _ w4 hr4 (hT.kept hk04 B.ng) B.ng (by omega) (by omega) (by omega)).mono ?_
 rintro e w5 ⟨hk5,hc⟩
 have hk05:=hk04.trans hk5
 have bR:=B.r
 have av:=B.av
 have a2:=B.a2
 have bm:=(unhide HI).bm
 have hsz:=(unhide HI).sz
 obtain⟨n,D,es,hn,hes,ho,hp⟩:=(unhide HI).el
 simp only at hes
 have ho5:=map_kept ho (hk05.block m (map_lt ho) (by omega))
 have hvb5:=(unhide HI).hvb.kept (hk05.block vb (unhide HI).hvb.lt (by omega))
 have q6:w5.cell? ⟨vb,6,none⟩=some (.map (some m)):=by simp[World.cell?,show w5.heap[vb]? = _ from hvb5]
 have hkl:keyOf Tryz.prog 9 (.string ⟨k.toArray⟩)=some (.string k):=mkey k (by omega)
 have HM:=hide (show Sp.memb (Sp.val f (lv+1)) l (s,(tw,dp,fr))=(match Sp.val f (lv+1) (Sp.skB (Sp.skB l1).tail) (tw,dp,fr) with
  | none=>none
  | some (v,r,fl)=>some (r,(DataW.put s (.string k) v,(fl.1 || Maps.has s (.string k),fl.2)))) from by
   unfold Sp.memb;rw[unhide HQ];simp only;rw[unhide K1];rfl)
 have hhas:Hid (Maps.has s (.string k)=Maps.has (.map D) (.string k)):=by rw[Hid,hes];exact (hp.pt.has _).symm
 have HOO:=hide ho5
 have HKL:=hide hkl
 have HN:=hide (show n<maxLen by unfold maxLen;omega)
 have HES:=hide hes
 have HPP:=hide hp
 have HN2:=hide hn
 clear ho5 hkl hes hp hn ho
 generalize Sp.skB (Sp.skB l1).tail=l4 at *
 rcases hc with⟨d,r,fl',p,hs,rfl,hr5,hrep⟩|⟨hs,p,rfl,r,tw5,dp5,fr5,hr5⟩
 ·have HS:=hide hs
  clear hs hT
  cases hh:Maps.has (.map D) (.string k) with
  | false =>
   have HH:=hide hh
   clear hh
   go_wp2_with (first|(at_lookup;refine wpList_lookup_own_ok _ rfl _ _ 109 rfl 9 80 hml Tryz.underlying109 RV (hmz _) (.held (.pointer none)) [] rfl m n (.map D) rfl (unhide HOO) _ _ rfl (unhide HKL) ?_))
   intro v0 ps0 hv0
   clear hv0
   rw[unhide HH]
   go_wp2_with (first|(at_mapUpdate;refine wpList_mapUpdate_own _ rfl _ _ _ 109 rfl 9 80 hml Tryz.underlying109 RV m n (.map D) rfl (unhide HOO) (unhide HN) _ _ _ rfl rfl (unhide HKL) (.held (.pointer p)) [] rfl ?_))
   intro w6 ho6 hg6
   go_wp2_with (fail)
   go_ret
   have hf:=obj_fin B (unhide HI) hk05 hr5 (unhide HN2) (unhide HES) (unhide HPP) ho6 hg6
   refine Or.inl ⟨r,(DataW.put s (.string k) d,(fl'.1,fl'.2)),?_,rfl,?_⟩
   ·rw[unhide HM,unhide HS]
    simp only
    rw[unhide hhas,unhide HH];simp
   ·have hl5:=Sp.val_len _ _ _ _ _ _ _ (unhide HS)
    exact hf.2.2.2 d (hrep.move hk04.size fun j h1 h2=>rfl) (by omega)
  | true =>
   have HH:=hide hh
   clear hh
   obtain⟨q,ha,hq⟩:=hr5
   have z2:=hq.fz 2
   have y2:=hq.c2
   have hr6:RD (w5.setCell ⟨R,2,none⟩ (.bool true)) R t r true fl'.2.1 fl'.2.2:=⟨q,ha,hq.set2 true⟩
   have hk06:KeptX R w (w5.setCell ⟨R,2,none⟩ (.bool true)):=hk05.setCell rfl _
   have HO6:=hide (map_kept (unhide HOO) (show (w5.setCell ⟨R,2,none⟩ (.bool true)).heap[m]? = w5.heap[m]? from Below.heap_setCell _ _ _ _ (show m≠R by omega)))
   have q6':(w5.setCell ⟨R,2,none⟩ (.bool true)).cell? ⟨vb,6,none⟩=some (.map (some m)):=(World.cell?_of_block (w:=w5) (Below.heap_setCell _ _ _ _ (show vb≠R by omega))).trans q6
   go_wp2_with (first|(at_lookup;refine wpList_lookup_own_ok _ rfl _ _ 109 rfl 9 80 hml Tryz.underlying109 RV (hmz _) (.held (.pointer none)) [] rfl m n (.map D) rfl (unhide HOO) _ _ rfl (unhide HKL) ?_))
   intro v0 ps0 hv0
   clear hv0
   rw[unhide HH]
   go_wp2_with (first|(at_mapUpdate;refine wpList_mapUpdate_own _ rfl _ _ _ 109 rfl 9 80 hml Tryz.underlying109 RV m n (.map D) rfl (unhide HO6) (unhide HN) _ _ _ rfl rfl (unhide HKL) (.held (.pointer p)) [] rfl ?_))
   intro w6 ho6 hg6
   go_wp2_with (fail)
   go_ret
   have hf:=obj_fin B (unhide HI) hk06 hr6 (unhide HN2) (unhide HES) (unhide HPP) ho6 hg6
   refine Or.inl ⟨r,(DataW.put s (.string k) d,(true,fl'.2)),?_,rfl,?_⟩
   ·rw[unhide HM,unhide HS]
    simp only
    rw[unhide hhas,unhide HH];simp
   ·have hl5:=Sp.val_len _ _ _ _ _ _ _ (unhide HS)
    exact hf.2.2.2 d (hrep.move hk04.size fun j h1 h2=>Below.heap_setCell _ _ _ _ (show j≠R by have:=hk04.size;omega)) (by omega)
 ·have HS:=hide hs
  clear hs hT
  cases hh:Maps.has (.map D) (.string k) with
  | false =>
   have HH:=hide hh
   clear hh
   go_wp2_with (first|(at_lookup;refine wpList_lookup_own_ok _ rfl _ _ 109 rfl 9 80 hml Tryz.underlying109 RV (hmz _) (.held (.pointer none)) [] rfl m n (.map D) rfl (unhide HOO) _ _ rfl (unhide HKL) ?_))
   intro v0 ps0 hv0
   clear hv0
   rw[unhide HH]
   go_wp2_with (first|(at_mapUpdate;refine wpList_mapUpdate_own _ rfl _ _ _ 109 rfl 9 80 hml Tryz.underlying109 RV m n (.map D) rfl (unhide HOO) (unhide HN) _ _ _ rfl rfl (unhide HKL) (.held (.pointer p)) [] rfl ?_))
   intro w6 ho6 hg6
   go_wp2_with (fail)
   go_ret
   have hf:=obj_fin B (unhide HI) hk05 hr5 (unhide HN2) (unhide HES) (unhide HPP) ho6 hg6
   refine Or.inr ⟨?_,rfl,hf.1,⟨_,_,_,_,hf.2.1⟩,hf.2.2.1⟩
   rw[unhide HM,unhide HS]
  | true =>
   have HH:=hide hh
   clear hh
   obtain⟨q,ha,hq⟩:=hr5
   have z2:=hq.fz 2
   have y2:=hq.c2
   have hr6:RD (w5.setCell ⟨R,2,none⟩ (.bool true)) R t r true dp5 fr5:=⟨q,ha,hq.set2 true⟩
   have hk06:KeptX R w (w5.setCell ⟨R,2,none⟩ (.bool true)):=hk05.setCell rfl _
   have HO6:=hide (map_kept (unhide HOO) (show (w5.setCell ⟨R,2,none⟩ (.bool true)).heap[m]? = w5.heap[m]? from Below.heap_setCell _ _ _ _ (show m≠R by omega)))
   have q6':(w5.setCell ⟨R,2,none⟩ (.bool true)).cell? ⟨vb,6,none⟩=some (.map (some m)):=(World.cell?_of_block (w:=w5) (Below.heap_setCell _ _ _ _ (show vb≠R by omega))).trans q6
   go_wp2_with (first|(at_lookup;refine wpList_lookup_own_ok _ rfl _ _ 109 rfl 9 80 hml Tryz.underlying109 RV (hmz _) (.held (.pointer none)) [] rfl m n (.map D) rfl (unhide HOO) _ _ rfl (unhide HKL) ?_))
   intro v0 ps0 hv0
   clear hv0
   rw[unhide HH]
   go_wp2_with (first|(at_mapUpdate;refine wpList_mapUpdate_own _ rfl _ _ _ 109 rfl 9 80 hml Tryz.underlying109 RV m n (.map D) rfl (unhide HO6) (unhide HN) _ _ _ rfl rfl (unhide HKL) (.held (.pointer p)) [] rfl ?_))
   intro w6 ho6 hg6
   go_wp2_with (fail)
   go_ret
   have hf:=obj_fin B (unhide HI) hk06 hr6 (unhide HN2) (unhide HES) (unhide HPP) ho6 hg6
   refine Or.inr ⟨?_,rfl,hf.1,⟨_,_,_,_,hf.2.1⟩,hf.2.2.1⟩
   rw[unhide HM,unhide HS]
end

section
set_option maxHeartbeats 4000000
open Go.RowKit Go.Maps
theorem memb_len (f:Nat) (lv:Int) (l:Sp.By) (s:Sp.V×Sp.Fl) (l':Sp.By) (s':Sp.V×Sp.Fl) (h:Sp.memb (Sp.val f lv) l s=some (l',s')):l'.length<l.length:=by
 unfold Sp.memb at h
 split at h
 ·cases h
 ·rename_i k l1 hq
  have a:=Sp.quo_len hq
  have b:=Sp.skB_len l1
  split at h
  ·have c:=Sp.skB_len (Sp.skB l1).tail
   have d:=List.length_tail (l:=Sp.skB l1)
   split at h
   ·cases h
   ·rename_i v r fl hv
    have:=Sp.val_len _ _ _ _ _ _ _ hv
    injection h with h;injection h with h1 h2;subst h1;omega
  ·cases h
theorem obj_item {f R:Nat} {t:ByteArray} {lv:Int} {w0:World} {p0 p1 p2 vb m N1:Nat} (B:Boxes w0 R p0 p1 p2 vb N1) (hV:ValOk f) (hlv:0≤lv) (hb:lv+f≤4999) (w:World) (l:Sp.By) (s:Sp.V×Sp.Fl) (hI:ObjI f R t lv w0 p0 p1 p2 vb m N1 w l s) (hl:l.length<f) :
  Calls Tryz.prog 217 #[.pointer (some ⟨p0,0,none⟩),.pointer (some ⟨p2,0,none⟩),.pointer (some ⟨p1,0,none⟩)] w fun e w'=>memEnd f R t lv w0 p0 p1 p2 vb m N1 l s e w':=by
 have c0:w.cell? ⟨p0,0,none⟩=some (.pointer (some ⟨R,0,none⟩)):=by simp[World.cell?,hI.b0]
 have c1:w.cell? ⟨p1,0,none⟩=some (.int .i64 lv):=by simp[World.cell?,hI.b1]
 have c2:w.cell? ⟨p2,0,none⟩=some (.pointer (some ⟨vb,0,none⟩)):=by simp[World.cell?,hI.b2]
 have hlv2:lv≤4999:=by omega
 have HI:=hide hI
 clear hI
 go_enter Tryz.func217,Tryz.ntmps217
 go_wp2_with (fail)
 refine (member_any B hV hlv w l s.1 s.2.1 s.2.2.1 s.2.2.2 (unhide HI) hl hb).mono ?_
 rintro e w2 hc
 rcases hc with⟨l',s',h1,rfl,h2⟩|⟨h1,rfl,h2⟩
 ·have H1:=hide h1
  have H2:=hide h2
  clear h1 h2
  go_wp2_with (fail)
  go_ret
  exact Or.inl ⟨l',s',unhide H1,rfl,unhide H2⟩
 ·have H1:=hide h1
  have H2:=hide h2
  clear h1 h2
  go_wp2_with (fail)
  go_ret
  exact Or.inr ⟨unhide H1,rfl,unhide H2⟩
theorem obj_ok {f R:Nat} {t:ByteArray} {lv:Int} {w0:World} {p0 p1 p2 vb m N1:Nat} (B:Boxes w0 R p0 p1 p2 vb N1) (hV:ValOk f) (hlv:0≤lv) (hb:lv+f≤4999) :
  ItemOk 217 #[.pointer (some ⟨p0,0,none⟩),.pointer (some ⟨p2,0,none⟩),.pointer (some ⟨p1,0,none⟩)] R t f (Sp.memb (Sp.val f (lv+1))) (ObjI f R t lv w0 p0 p1 p2 vb m N1) (RdJ R t w0 p2 vb) where
 rd:=fun w l s h=>⟨_,_,_,h.rd⟩
 move:=fun w w' l l' s tw dp fr h h1 h2 hk hl=>by
  obtain⟨_,_,e1,e2,e3⟩:=h.rd.uniq h1
  exact obj_move B (fl':=s.2) h (by rw[e1,e2,e3];exact h2) hk hl
 out:=fun w l s h=>⟨h.kept,⟨_,_,_,_,h.rd⟩,h.b2⟩
 len:=fun l s l' s' h=>memb_len _ _ _ _ _ _ h
 call:=fun w l s h hl=>obj_item B hV hlv hb w l s h hl
def objEnd (f:Nat) (lv:Int) (l:Sp.By) (fl:Sp.Fl) (e:Ending) (w w':World) (R:Nat) (t:ByteArray):Prop :=
 (∃v r fl' p,Sp.lstAll 123 125 (Sp.memb (Sp.val f (lv+1))) l (Sp.vObj [],fl)=some (r,(v,fl'))∧e = .returned (.tuple #[.pointer p,.bool true])∧RD w' R t r fl'.1 fl'.2.1 fl'.2.2∧Tr (f+1) w.heap.size w' (.pointer p) v) ∨
  (Sp.lstAll 123 125 (Sp.memb (Sp.val f (lv+1))) l (Sp.vObj [],fl)=none ∧ ∃p,e = .returned (.tuple #[.pointer p,.bool false]) ∧ ∃r tw dp fr,RD w' R t r tw dp fr)
theorem obj_rep {f R:Nat} {t:ByteArray} {lv:Int} {w0:World} {p0 p1 p2 vb m N1:Nat} (B:Boxes w0 R p0 p1 p2 vb N1) {w:World} {l:Sp.By} {s:Sp.V×Sp.Fl} (h:ObjI f R t lv w0 p0 p1 p2 vb m N1 w l s) :
  Tr (f+1) w0.heap.size w (.pointer (some ⟨vb,0,none⟩)) s.1:=by
 have av:=B.av
 have bm:=h.bm
 obtain⟨n,D,es,hn,he,ho,hp⟩:=h.el
 rw[he]
 exact hp.obj av ⟨bm.1,bm.2.1⟩ (by omega) h.hvb ho
theorem five (w:World) (o0 o1 o2 o3 o4:Obj):(((((w.alloc o0).alloc o1).alloc o2).alloc o3).alloc o4).heap[w.heap.size]? = some o0∧(((((w.alloc o0).alloc o1).alloc o2).alloc o3).alloc o4).heap[w.heap.size+1]? = some o1 ∧
  (((((w.alloc o0).alloc o1).alloc o2).alloc o3).alloc o4).heap[w.heap.size+1+1]? = some o2∧(((((w.alloc o0).alloc o1).alloc o2).alloc o3).alloc o4).heap[w.heap.size+1+1+1]? = some o3∧(((((w.alloc o0).alloc o1).alloc o2).alloc o3).alloc o4).heap[w.heap.size+1+1+1+1]? = some o4:=by
 have h (k:Nat):(((((w.alloc o0).alloc o1).alloc o2).alloc o3).alloc o4).heap[k]? = (((((w.heap.push o0).push o1).push o2).push o3).push o4)[k]?:=rfl
 rw[h,h,h,h,h]
 simp only[Array.getElem?_push,Array.size_push]
 refine⟨?_,?_,?_,?_,?_⟩
 ·rw[if_neg (by omega),if_neg (by omega),if_neg (by omega),if_neg (by omega),if_pos trivial]
 ·rw[if_neg (by omega),if_neg (by omega),if_neg (by omega),if_pos trivial]
 ·rw[if_neg (by omega),if_neg (by omega),if_pos trivial]
 ·rw[if_neg (by omega),if_pos trivial]
 ·rw[if_pos trivial]
theorem object_any {f R:Nat} {t:ByteArray} {lv:Int} {l:Sp.By} {tw:Bool} {dp fr:Int} {w:World} (hV:ValOk f) (h:RD w R t l tw dp fr) (hT:Laid w) (hR:NG≤R) (hl:l.length≤f) (hlv:0≤lv) (hb:lv+f≤4999) :
  Calls Tryz.prog 180 #[.pointer (some ⟨R,0,none⟩),.int .i64 lv] w fun e w'=>KeptX R w w'∧objEnd f lv l (tw,dp,fr) e w w' R t:=by
 have hmm:=@run_makeMap Tryz.prog
 have hRl:=h.lt
 have h2000:l.length≤2000:=by obtain⟨p,ha,_⟩:=h;have:=ha.len;have:=ha.small;omega
 have B:Boxes w R w.heap.size (w.heap.size+1) (w.heap.size+1+1+1+1) (w.heap.size+1+1+1) (w.heap.size+5):=⟨hRl,hR,by omega,by omega,by omega,by omega,by omega,by omega,by omega⟩
 have hI:Hid (∀W,W=(((((w.alloc (.cells #[.pointer (some ⟨R,0,none⟩)] 153)).alloc (.cells #[.int .i64 lv] 3)).alloc (.map #[] 0)).alloc (.cells #[.int .i64 6,.bool false,.string ⟨#[]⟩,.int .i64 0,.string ⟨#[]⟩,.slice none 0 0,.map (some (w.heap.size+1+1))] 111)).alloc (.cells #[.pointer (some ⟨w.heap.size+1+1+1,0,none⟩)] 80)) →
   ObjI f R t lv w w.heap.size (w.heap.size+1) (w.heap.size+1+1+1+1) (w.heap.size+1+1+1) (w.heap.size+1+1) (w.heap.size+5) W l (Sp.vObj [],(tw,dp,fr))):=by
  rintro W rfl
  have hf:=five w (.cells #[.pointer (some ⟨R,0,none⟩)] 153) (.cells #[.int .i64 lv] 3) (.map #[] 0) (.cells #[.int .i64 6,.bool false,.string ⟨#[]⟩,.int .i64 0,.string ⟨#[]⟩,.slice none 0 0,.map (some (w.heap.size+1+1))] 111) (.cells #[.pointer (some ⟨w.heap.size+1+1+1,0,none⟩)] 80)
  have hk:=(((((KeptX.refl R w).alloc (.cells #[.pointer (some ⟨R,0,none⟩)] 153)).alloc (.cells #[.int .i64 lv] 3)).alloc (.map #[] 0)).alloc (.cells #[.int .i64 6,.bool false,.string ⟨#[]⟩,.int .i64 0,.string ⟨#[]⟩,.slice none 0 0,.map (some (w.heap.size+1+1))] 111)).alloc (.cells #[.pointer (some ⟨w.heap.size+1+1+1,0,none⟩)] 80)
  have hm:((w.alloc (.cells #[.pointer (some ⟨R,0,none⟩)] 153)).alloc (.cells #[.int .i64 lv] 3)).heap.size=w.heap.size+1+1:=by simp
  have hmap:=World.ownsMap_made ((w.alloc (.cells #[.pointer (some ⟨R,0,none⟩)] 153)).alloc (.cells #[.int .i64 lv] 3)) Tryz.prog 9 RV
  rw[hm] at hmap
  refine⟨((((h.alloc _).alloc _).alloc _).alloc _).alloc _,hk,hT.kept hk hR,hf.1,hf.2.1,hf.2.2.2.2,by simp,⟨by omega,by omega,by omega,by omega,by omega,by omega⟩,hf.2.2.2.1,0,[],[],by omega,rfl,?_,TrM.nil _ _ _⟩
  exact map_kept (map_kept hmap (Below.heap_alloc _ _ _ (map_lt hmap))) (Below.heap_alloc _ _ _ (by simp))
 have K:=obj_ok (t:=t) (m:=w.heap.size+1+1) B hV hlv hb
 clear hT
 go_enter Tryz.func180,Tryz.ntmps180
 go_wp2_with (fail)
 refine (list_obj _ _ _ 123 125 123 125 rfl rfl R t f _ _ _ K _ l (Sp.vObj [],(tw,dp,fr)) (unhide hI _ rfl) hl).mono ?_
 rintro e w5 hc
 rcases hc with⟨l',s',hs,rfl,hI5⟩|⟨hs,rfl,hJ⟩
 ·have HS:=hide hs
  have hb2:=hI5.b2
  have q2:w5.cell? ⟨w.heap.size+1+1+1+1,0,none⟩=some (.pointer (some ⟨w.heap.size+1+1+1,0,none⟩)):=by simp[World.cell?,hb2]
  have HI:=hide hI5
  clear hs hI5 hb2 hI
  go_wp2_with (fail)
  go_ret2
  exact⟨(unhide HI).kept,Or.inl ⟨s'.1,l',s'.2,_,unhide HS,rfl,(unhide HI).rd,obj_rep B (unhide HI)⟩⟩
 ·have HS:=hide hs
  have hb2:=hJ.2.2
  have q2:w5.cell? ⟨w.heap.size+1+1+1+1,0,none⟩=some (.pointer (some ⟨w.heap.size+1+1+1,0,none⟩)):=by simp[World.cell?,hb2]
  have HJ:=hide hJ
  clear hs hJ hb2 hI
  go_wp2_with (fail)
  go_ret2
  exact⟨(unhide HJ).1,Or.inr ⟨unhide HS,_,rfl,(unhide HJ).2.1⟩⟩
end
end Go.Proofs.YtdpomdelmdofmaaGreatDoor
