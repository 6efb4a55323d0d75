import Derived.Test.YtdpomdelmdofmaaGreatDoorUnd10
import Derived.Lib.ItoaLen
namespace Go.Proofs.YtdpomdelmdofmaaGreatDoor
open Go.Proofs.Tryz
section
set_option maxRecDepth 100000
set_option maxHeartbeats 8000000
open Go.RowKit Go.Maps
def SR(w:World)(g n:Nat)(ks:List Sp.By):Prop:=∃cur,w.heap[g]? = some (.cells cur 9 (0,0))/\cur.toList.take n=ks.map encStr
theorem SR.cell{w:World}{g n:Nat}{ks:List Sp.By}(h:SR w g n ks)(k:Nat)(hk:k<ks.length):w.cell? ⟨g,k,none⟩=some (.string ⟨ks[k].toArray⟩):=by
 obtain⟨cur,hb,ht⟩:=h;have h1:(ks.map encStr)[k]? = some (.string ⟨ks[k].toArray⟩):=by simp[hk,encStr]
 rw[<- ht] at h1;have hkn:k<n:=by
  have:=List.getElem?_eq_some_iff.1 h1 |>.1;simp at this;omega
 rw[List.getElem?_take_of_lt hkn] at h1;simp[World.cell?,hb];simpa using h1
theorem SR.fr{B b:Nat}{w w':World}{g n:Nat}{ks:List Sp.By}(h:SR w g n ks)(hf:Fr B b w w')(hb:g≠b):SR w' g n ks:=by
 obtain⟨cur,h1,h2⟩:=h;exact⟨cur,hf.oth _ _ h1 hb (fun c e=>by injection e with _ e _;exact absurd e (by decide)),h2⟩
theorem V2{f B m n:Nat}{F:Nat->Prop}{w w':World}{D:List (Lit×DataW Value)}{es:List (Lit×Sp.V)}(hF:∀k,F k->k<B)(hm:F m)(ho:w.ownsMap Tryz.prog 9 RV m n (.map D))(hp:Pt (Rep f F w) D es)(hb:Below B w w') :
  w'.ownsMap Tryz.prog 9 RV m n (.map D)/\Pt (Rep f F w') D es:=⟨AJ ho (hb.block m (hF m hm)),hp.mono fun _ _ hr=>hr.low hF hb⟩
theorem YW{f B b m n:Nat}{acc:Sp.By}(hV:NO f){D:List (Lit×DataW Value)}{es:List (Lit×Sp.V)}{w:World}{F:Nat->Prop}(h:Bu B b acc w)(hF:∀k,F k->k<B)(hT:Af w)(hB8:NG<=B)(hB:B<=w.heap.size)
  (hm:F m) (ho:w.ownsMap Tryz.prog 9 RV m n (.map D)) (hp:Pt (Rep f F w) D es)
  (hl:acc.length+(1+((Sp.Ai ((Sp.skeys es).map (Sp.item f es))).length+1))<=8796093022208) :
  Calls Tryz.prog 106 #[.pointer (some ⟨b,0,none⟩),.map (some m)] w fun e w'=>e = .returned (.tuple #[])/\Bu B b (acc++123::(Sp.Ai ((Sp.skeys es).map (Sp.item f es))++[125])) w'/\Fr B b w w':=by
 have hml:=Cd;have hmz:=C9;have hlen:=Sp.obj_len f es;have hDl:=hp.len;have HO:=Ab (fun w' (hb:Below B w w')=>V2 hF hm ho hp hb);have HAT:=Ab (fun k (hk:k∈Sp.skeys es)=>Rt ho hp hk);have HKS:=Ab hp.keys;have hbB:=h;clear ho hp
 go_enter func106,ntmps106
 go_wp2_with (fail);refine (Bp 123 _ rfl h (by omega) hB).mono ?_
 rintro e w1 ⟨rfl,h1,f1⟩;have hB1:B<=w1.heap.size:=Nat.le_trans hB f1.low.size
 go_wp2_with (fail);refine (callsIn_wide.1 (Tryz.maps_Keys_141 (some m) w1)).mono ?_
 rintro e w2 ⟨rfl,rfl⟩
 go_wp2_with (fail);refine (callsIn_wide.1 (Tryz.slices_Sorted_keys_140_141 m n (.map D) RV w1 (Aa HO w1 f1.low).1 (by rw[Maps.size_eq];unfold maxLen;omega) (by rw[Maps.size_eq];omega))).mono ?_
 rintro e w3 ⟨v,ss,rfl,hperm,hrow,hnil,hb3⟩;have hb13:Below w1.heap.size w1 w3:=((Below.refl _ w1).alloc (Nat.le_refl _) _).trans (hb3.mono (by simp));have h3:=Bf h1 hb13;have f3:Fr B b w w3:=f1.trans ⟨hb13.mono hB1,OKz.below hb13⟩;have hB3:B<=w3.heap.size:=Nat.le_trans hB f3.low.size;have hsk:ss.mergeSort (fun x y=>decide (x<=y))=Sp.skeys es:=by
  rw[mergeSort_of_perm hperm,Aa HKS];rfl
 have hssl:ss.length=(Sp.skeys es).length:=by rw[<- hsk,List.length_mergeSort]
 rw[hsk] at hrow;have hblt:=IE h1;have hbw1:(w1.alloc (.cells #[.map (some m)] 109)).heap.size=w1.heap.size+1:=by simp
 rcases hrow with⟨hrl,⟨rfl,hn0⟩|⟨g,cap,cur,rfl,hg,hgb,hncap,hcap,hcs,htk⟩⟩
 ·have hks:Sp.skeys es=[]:=List.eq_nil_of_length_eq_zero (by omega);have HE:=Ab hks;clear hsk hrl hn0 hnil hperm h h1 f1 hb3 hb13 hks hssl hbB
  go_wp2_with (fail);refine wp_loop_rounds 1 ?_
  rw[rounds_succ]
  go_wp2_with (fail);refine (Bp 125 _ rfl h3 (by simp;omega) hB3).mono ?_
  rintro e w4 ⟨rfl,h4,f4⟩
  go_wp2_with (fail)
  go_end0
  refine⟨rfl,?_,f3.trans f4⟩;rw[Aa HE];simpa[Sp.Ai] using h4
 ·have hSR:SR w3 g (Sp.skeys es).length (Sp.skeys es):=⟨cur,hgb,by rw[<- htk,hssl];simp⟩
  have hgb':g≠b:=by omega
  rw[hssl] at hncap |-;clear hsk hrl hnil hperm h h1 f1 hb3 hb13 hgb htk hcs hssl hbB;generalize hks:Sp.skeys es=ks at *;have hnb:(ks.length:Int)<=9223372036854775807:=by unfold maxLen at hcap;omega
  have HKK:=Ab hks;clear hks
  go_wp2_with (fail)
  go_loopw [12] (fun i wr=>∃k:Nat,k<=ks.length/\i = .int .i64 k/\Bu B b (acc++123::Sp.Ai ((ks.map (Sp.item f es)).take k)) wr/\Fr B b w wr/\SR wr g ks.length ks) (fun i _=>ks.length-(intOf i).toNat)
  case atStart=>exact⟨0,by omega,rfl,by simpa[Sp.Ai] using h3,f3,hSR⟩
  case round =>
   obtain⟨k,hk,rfl,hbu,hf,hsr⟩:=hrel;have HBU:=Ab hbu;have hBr:B<=wr.heap.size:=Nat.le_trans hB hf.low.size;have hjl:=Sp.Dy (ks.map (Sp.item f es)) k;clear hbu h3 f3;by_cases hlt:k<ks.length
   ·have cc:=hsr.cell k hlt;have hke:k<(ks.map (Sp.item f es)).length:=by simpa using hlt
    have hst:=Ab (Sp.J7 (ks.map (Sp.item f es)) k hke);have hjl2:=Sp.Dy (ks.map (Sp.item f es)) (k+1);have hgk:(ks.map (Sp.item f es))[k]=Sp.item f es ks[k]:=by simp
    have hjl3:=congrArg List.length (Aa hst);rw[hgk] at hjl3;simp only[List.length_append] at hjl3;have hil:=Sp.item_len f es ks[k];have hql:=Sp.quoT_len ks[k];have hat:=Aa HAT ks[k] (List.getElem_mem hlt);have HAA:=Ab hat
    have HGK:=Ab hgk;have HSR:=Ab hsr;clear hat hgk hsr;generalize ks[k]=key at *;have hkey:=(Aa HAA).2;have HKY:=Ab hkey;clear hkey;have hTr:=hT.below (hf.low.mono hB8);by_cases h0:0<k
    ·have e0:decide ((0:Int)<(k:Int))=true:=by simp;omega
     rw[if_pos h0] at hjl3;simp only[List.length_cons,List.length_nil] at hjl3
     go_wp2_with (fail);refine (Bp 44 _ rfl (Aa HBU) (by simp;omega) hBr).mono ?_
     rintro e w4 ⟨rfl,h4,f4⟩;have hB4:B<=w4.heap.size:=Nat.le_trans hBr f4.low.size
     go_wp2_with (fail);refine (Ec key h4 (by simp;omega) hB4).mono ?_
     rintro e w5 ⟨rfl,h5,f5⟩;have hB5:B<=w5.heap.size:=Nat.le_trans hB4 f5.low.size
     go_wp2_with (fail);refine (Bp 58 _ rfl h5 (by simp;omega) hB5).mono ?_
     rintro e w6 ⟨rfl,h6,f6⟩;have hB6:B<=w6.heap.size:=Nat.le_trans hB5 f6.low.size;have f06:=(hf.trans f4).trans (f5.trans f6);have hO6:=Aa HO w6 f06.low;obtain⟨x,px,hrun,hRx⟩:=hO6.1.lookup hml underlying109 (hmz w6) (zd:=.held (.pointer none)) (zp:=[]) rfl (Aa HKY);obtain⟨y,hy1,hy2⟩:=Pt.look key hO6.2 (Aa HAA).1;rw[hy1] at hRx;obtain rfl:x=y:=by
      have:=congrArg (fun z=>z.map Prod.fst) hRx;simp[RV] at this;exact this
     have HY:=Ab hy2;obtain⟨bb,hbb,_⟩:=hy2.ptr;subst hbb;clear hRx hy1 hy2 hO6
     go_wp2_with (fail);refine (hV B b _ _ (Sp.look es key) w6 F h6 (Aa HY) hF (hTr.below (((f4.trans f5).trans f6).low.mono hB8)) hB8 hB6 (by simp;omega)).mono ?_
     rintro e w7 ⟨rfl,h7,f7⟩
     go_wp2_with (fail)
     go_roundw
     case rel=>exact⟨k+1,by omega,by go_num,by rw[Aa hst,if_pos h0,Aa HGK];simpa[Sp.item] using h7,f06.trans f7,(Aa HSR).fr (((f4.trans f5).trans f6).trans f7) hgb'⟩
     case measure=>simp[intOf];omega
    ·have e0:decide ((0:Int)<(k:Int))=false:=by simp;omega
     rw[if_neg h0] at hjl3;simp only[List.length_nil] at hjl3
     go_wp2_with (fail);refine (Ec key (Aa HBU) (by simp;omega) hBr).mono ?_
     rintro e w5 ⟨rfl,h5,f5⟩;have hB5:B<=w5.heap.size:=Nat.le_trans hBr f5.low.size
     go_wp2_with (fail);refine (Bp 58 _ rfl h5 (by simp;omega) hB5).mono ?_
     rintro e w6 ⟨rfl,h6,f6⟩;have hB6:B<=w6.heap.size:=Nat.le_trans hB5 f6.low.size;have f06:=hf.trans (f5.trans f6);have hO6:=Aa HO w6 f06.low;obtain⟨x,px,hrun,hRx⟩:=hO6.1.lookup hml underlying109 (hmz w6) (zd:=.held (.pointer none)) (zp:=[]) rfl (Aa HKY);obtain⟨y,hy1,hy2⟩:=Pt.look key hO6.2 (Aa HAA).1;rw[hy1] at hRx;obtain rfl:x=y:=by
      have:=congrArg (fun z=>z.map Prod.fst) hRx;simp[RV] at this;exact this
     have HY:=Ab hy2;obtain⟨bb,hbb,_⟩:=hy2.ptr;subst hbb;clear hRx hy1 hy2 hO6
     go_wp2_with (fail);refine (hV B b _ _ (Sp.look es key) w6 F h6 (Aa HY) hF (hTr.below ((f5.trans f6).low.mono hB8)) hB8 hB6 (by simp;omega)).mono ?_
     rintro e w7 ⟨rfl,h7,f7⟩
     go_wp2_with (fail)
     go_roundw
     case rel=>exact⟨k+1,by omega,by go_num,by rw[Aa hst,if_neg h0,Aa HGK];simpa[Sp.item] using h7,f06.trans f7,(Aa HSR).fr ((f5.trans f6).trans f7) hgb'⟩
     case measure=>simp[intOf];omega
   ·go_wp2_with (fail);refine (Bp 125 _ rfl (Aa HBU) (by simp;omega) hBr).mono ?_
    rintro e w4 ⟨rfl,h4,f4⟩
    go_wp2_with (fail)
    go_end0
    refine⟨rfl,?_,hf.trans f4⟩;rw[List.take_of_length_le (by simp;omega)] at h4;rw[Aa HKK];simpa using h4
end

section
set_option maxHeartbeats 4000000
open Go.RowKit Go.Maps
section
variable{w:World}{b:Nat}{k:Int}{n:Sp.Nm}{s:Sp.By}{sl mp:Value}
theorem VB.c0(h:VB w b k n s sl mp):w.cell? ⟨b,0,none⟩=some (.int .i64 k):=by simp[World.cell?,show w.heap[b]? = _ from h]
theorem VB.c1(h:VB w b k n s sl mp):w.cell? ⟨b,1,none⟩=some (.bool n.1):=by simp[World.cell?,show w.heap[b]? = _ from h]
theorem VB.c2(h:VB w b k n s sl mp):w.cell? ⟨b,2,none⟩=some (.string ⟨n.2.1.toArray⟩):=by simp[World.cell?,show w.heap[b]? = _ from h]
theorem VB.c3(h:VB w b k n s sl mp):w.cell? ⟨b,3,none⟩=some (.int .i64 n.2.2):=by simp[World.cell?,show w.heap[b]? = _ from h]
theorem VB.c4(h:VB w b k n s sl mp):w.cell? ⟨b,4,none⟩=some (.string ⟨s.toArray⟩):=by simp[World.cell?,show w.heap[b]? = _ from h]
theorem VB.c5(h:VB w b k n s sl mp):w.cell? ⟨b,5,none⟩=some sl:=by simp[World.cell?,show w.heap[b]? = _ from h]
theorem VB.c6(h:VB w b k n s sl mp):w.cell? ⟨b,6,none⟩=some mp:=by simp[World.cell?,show w.heap[b]? = _ from h]
end
theorem Af.word{w:World}(h:Af w)(k:Nat)(hk:k<3):w.cell? ⟨0,k,none⟩=some (.string ⟨(CE k).toArray⟩):=by
 obtain⟨t,fr,e⟩:=h.words
 match k,hk with
 | 0,_=>simp[World.cell?,e,Cw,CE,Sp.words]
 | 1,_=>simp[World.cell?,e,Cw,CE,Sp.words]
 | 2,_=>simp[World.cell?,e,Cw,CE,Sp.words]
theorem QL{B b vb k:Nat}{acc:Sp.By}{w:World}(h:Bu B b acc w)(hk:k<3)(hvb:VB w vb k n0 [] (.slice none 0 0) (.map none))(hT:Af w)(hB:B<=w.heap.size)(hl:acc.length+5<=8796093022210) :
  Calls Tryz.prog 78 #[.pointer (some ⟨b,0,none⟩),.pointer (some ⟨vb,0,none⟩)] w fun e w'=>e = .returned (.tuple #[])/\Bu B b (acc++CE k) w'/\Fr B b w w':=by
 have c0:=hvb.c0;have cw:=hT.word k hk;have hwl:=G9 k hk;clear hT hvb;have e3:((k:Int) == 3)=false:=by simp;omega
 have e4:((k:Int) == 4)=false:=by simp;omega
 have e5:((k:Int) == 5)=false:=by simp;omega
 have e6:((k:Int) == 6)=false:=by simp;omega
 generalize CE k=wk at *
 go_enter func78,ntmps78
 go_wp2_with (fail);refine (Fh wk h (by omega) hB).mono ?_
 rintro e w1 ⟨rfl,h1,f1⟩
 go_wp2_with (fail)
 go_end0
 exact⟨rfl,h1,f1⟩
theorem S9{B b vb:Nat}{n:Sp.Nm}{acc:Sp.By}{w:World}(h:Bu B b acc w)(hvb:VB w vb 3 n [] (.slice none 0 0) (.map none))(hT:Af w)(hB8:NG<=B)(hB:B<=w.heap.size)(h0:-100000000<=n.2.2)(h1:n.2.2<=100000000)
  (hl:acc.length+(Sp.A6 n).length<=8796093022208) :
  Calls Tryz.prog 78 #[.pointer (some ⟨b,0,none⟩),.pointer (some ⟨vb,0,none⟩)] w fun e w'=>e = .returned (.tuple #[])/\Bu B b (acc++Sp.A6 n) w'/\Fr B b w w':=by
 have c0:=hvb.c0;have c1:=hvb.c1;have c2:=hvb.c2;have c3:=hvb.c3;clear hvb
 go_enter func78,ntmps78
 go_wp2_with (fail);refine (JF n h (by omega) hB hT hB8 h0 h1).mono ?_
 rintro e w1 ⟨rfl,h1,f1⟩
 go_wp2_with (fail)
 go_end0
 exact⟨rfl,h1,f1⟩
theorem S7{B b vb:Nat}{s:Sp.By}{acc:Sp.By}{w:World}(h:Bu B b acc w)(hvb:VB w vb 4 n0 s (.slice none 0 0) (.map none))(hB:B<=w.heap.size)
  (hl:acc.length+(Sp.Ah s).length<=8796093022208) :
  Calls Tryz.prog 78 #[.pointer (some ⟨b,0,none⟩),.pointer (some ⟨vb,0,none⟩)] w fun e w'=>e = .returned (.tuple #[])/\Bu B b (acc++Sp.Ah s) w'/\Fr B b w w':=by
 have c0:=hvb.c0;have c4:=hvb.c4;have hq:=Sp.quoT_len s;clear hvb
 go_enter func78,ntmps78
 go_wp2_with (fail);refine (Ec s h (by omega) hB).mono ?_
 rintro e w1 ⟨rfl,h1,f1⟩
 go_wp2_with (fail)
 go_end0
 exact⟨rfl,h1,f1⟩
theorem Ta{f B b vb:Nat}{sl:Value}{ps:List Value}{es:List Sp.V}{acc:Sp.By}{w:World}{F:Nat->Prop}(hV:NO f)(h:Bu B b acc w)(hF:∀k,F k->k<B)(hvb:VB w vb 5 n0 [] sl (.map none))(hT:Af w)(hB8:NG<=B)(hB:B<=w.heap.size)
  (ho:w.ownsRow 0 80 1 sl ps.length ps) (hs:∀g,sl.ownBlock=some g->F g) (ha:Al (Rep f F w) ps es)
  (hl:acc.length+(1+((Sp.Ai (es.map (Sp.can f))).length+1))<=8796093022208) :
  Calls Tryz.prog 78 #[.pointer (some ⟨b,0,none⟩),.pointer (some ⟨vb,0,none⟩)] w fun e w'=>e = .returned (.tuple #[])/\Bu B b (acc++91::(Sp.Ai (es.map (Sp.can f))++[93])) w'/\Fr B b w w':=by
 have c0:=hvb.c0;have c5:=hvb.c5;have hal:=ha.length;clear hvb;rcases ho.2 with⟨rfl,hn⟩|⟨g,cap,cur,rfl,hg,hgb,hncap,hcap,hcs,htk⟩
 ·have hes:es=[]:=List.eq_nil_of_length_eq_zero (by omega);subst hes;clear ho hs ha hal hn
  go_enter func78,ntmps78
  go_wp2_with (fail);refine (Tc h hB (by omega)).mono ?_
  rintro e w1 ⟨rfl,h1,f1⟩
  go_wp2_with (fail)
  go_end0
  exact⟨rfl,h1,f1⟩
 ·have hcell:∀k (h:k<ps.length),w.cell? ⟨g,k,none⟩=some ps[k]:=by
   intro k hk;have:=ho.cellAt k (by omega);rw[this];simp[hk]
  have hgB:=hF g (hs g rfl);have HL:=Ab hl;clear ho hs hal hgb hcs htk hl;generalize hpl:ps.length=np at c5 hncap;have HPL:=Ab hpl;clear hpl
  go_enter func78,ntmps78
  go_wp2_with (fail);refine (QM hV h hF hT hB8 hB (Aa HPL).symm hncap hcap hcell hgB ha (Aa HL)).mono ?_
  rintro e w1 ⟨rfl,h1,f1⟩
  go_wp2_with (fail)
  go_end0
  exact⟨rfl,h1,f1⟩
theorem S8{f B b vb m n:Nat}{D:List (Lit×DataW Value)}{es:List (Lit×Sp.V)}{acc:Sp.By}{w:World}{F:Nat->Prop}(hV:NO f)(h:Bu B b acc w)(hF:∀k,F k->k<B)(hvb:VB w vb 6 n0 [] (.slice none 0 0) (.map (some m)))(hT:Af w)(hB8:NG<=B)(hB:B<=w.heap.size)
  (hm:F m) (ho:w.ownsMap Tryz.prog 9 RV m n (.map D)) (hp:Pt (Rep f F w) D es)
  (hl:acc.length+(1+((Sp.Ai ((Sp.skeys es).map (Sp.item f es))).length+1))<=8796093022208) :
  Calls Tryz.prog 78 #[.pointer (some ⟨b,0,none⟩),.pointer (some ⟨vb,0,none⟩)] w fun e w'=>e = .returned (.tuple #[])/\Bu B b (acc++123::(Sp.Ai ((Sp.skeys es).map (Sp.item f es))++[125])) w'/\Fr B b w w':=by
 have c0:=hvb.c0;have c6:=hvb.c6;have HL:=Ab hl;clear hvb hl
 go_enter func78,ntmps78
 go_wp2_with (fail);refine (YW hV h hF hT hB8 hB hm ho hp (Aa HL)).mono ?_
 rintro e w1 ⟨rfl,h1,f1⟩
 go_wp2_with (fail)
 go_end0
 exact⟨rfl,h1,f1⟩
theorem Yi:∀f,NO f:=by
 intro f;induction f with
 | zero=>intro B b acc v d w F _ hr;exact hr.elim
 | succ f ih =>
  intro B b acc v d w F h hr hF hT hB8 hB hl;obtain⟨vb,rfl,hb,hr⟩:=hr;rcases hr with⟨k,hk,rfl,hvb⟩|⟨n,rfl,hvb,hn0,hn1⟩|⟨s,rfl,hvb⟩|⟨es,sl,ps,rfl,hvb,ho,hs,ha⟩|⟨es,m,n,D,rfl,hvb,hm,ho,hp⟩
  ·rw[Sp.GU] at hl |-;have hw:4<=(CE k).length:=by
    match k,hk with
    | 0,_=>decide
    | 1,_=>decide
    | 2,_=>decide
   exact QL h hk hvb hT hB (by have:=G9 k hk;unfold CE at *; omega)
  ·rw[Sp.IC] at hl |-;exact S9 h hvb hT hB8 hB hn0 hn1 hl
  ·rw[Sp.Gs] at hl |-;exact S7 h hvb hB hl
  ·rw[Sp.CP] at hl |-;refine Ta ih h hF hvb hT hB8 hB ho hs ha ?_;simp only[List.length_cons,List.length_append,List.length_nil] at hl;omega
  ·rw[Sp.can_obj2] at hl |-;refine S8 ih h hF hvb hT hB8 hB hm ho hp ?_;simp only[List.length_cons,List.length_append,List.length_nil] at hl;omega
theorem DR{f:Nat}{F:Nat->Prop}{v:Value}{d:Sp.V}{w:World}(hr:Rep f F w v d)(hT:Af w)(hl:(Sp.can f d).length<=8796093022208) :
  Calls Tryz.prog 55 #[v] w fun e w'=>e = .returned (.string ⟨(Sp.can f d).toArray⟩)/\Below w.heap.size w w':=by
 have hF:Rep f (fun k=>k<w.heap.size) w v d:=hr.move fun k _ h2=>⟨rfl,h2⟩
 obtain⟨vb,rfl,hlt,_⟩:=hr.ptr;have hba:=(Below.refl w.heap.size w).alloc (Nat.le_refl _) (.cells #[.pointer none,.slice none 0 0] 119);have h0:Bu w.heap.size w.heap.size [] (w.alloc (.cells #[.pointer none,.slice none 0 0] 119)):=Or.inl ⟨Nat.le_refl _,.slice none 0 0,by show (w.heap.push _)[w.heap.size]? = _;simp,World.ownsRow_nil _ _ _ _,by simp[Value.ownBlock]⟩;have hr0:=hF.low (fun k hk=>hk) hba;have hT0:=hT.below (hba.mono hT.ng);have hng:=hT.ng;clear hr hF hT
 go_enter func55,ntmps55
 go_wp2_with (fail);refine (Yi f w.heap.size w.heap.size [] _ d _ _ h0 hr0 (fun k hk=>hk) hT0 hng (by simp) (by simpa using hl)).mono ?_
 rintro e w1 ⟨rfl,h1,f1⟩
 go_wp2_with (fail);refine (Tryz.Builder_String_any w.heap.size w.heap.size _ w1 h1 (by have:=f1.low.size;simp at this;omega)).mono ?_
 rintro e w2 ⟨rfl,hb2⟩
 go_wp2_with (fail)
 go_ret;exact⟨by simp,(hba.trans f1.low).trans hb2⟩
end

section
open Go.Maps
theorem Wn{σ:Type}(cl:UInt8)(item:Sp.By->σ->Option (Sp.By×σ))(I:Sp.By->σ->Prop)(hm:∀l l' s,I l s->l'.length<=l.length->I l' s)(hi:∀l s l' s',I l s->item l s=some (l',s')->I l' s')(n:Nat) :
  ∀ (l:Sp.By) (s:σ) (r:Sp.By) (s':σ),I l s->Sp.lst cl item n l s=some (r,s')->I r s':=by
 induction n with
 | zero=>intro l s r s' _ h;cases h
 | succ n ih =>
  intro l s r s' hI h;unfold Sp.lst at h;split at h
  ·cases h
  ·rename_i l1 s1 h1;have h2:=hi _ _ _ _ (hm _ _ _ hI (Sp.AX l)) h1;have c:=Sp.AX l1;have d:=List.length_tail (l:=Sp.skB l1);split at h
   ·injection h with h;injection h with h3 h4;subst h3;subst h4;exact hm _ _ _ h2 (by omega)
   ·split at h
    ·exact ih _ _ _ _ (hm _ _ _ h2 (by omega)) h
    ·cases h
theorem Dw{σ:Type}{op cl:UInt8}{item:Sp.By->σ->Option (Sp.By×σ)}(I:Sp.By->σ->Prop)(hm:∀l l' s,I l s->l'.length<=l.length->I l' s)(hi:∀l s l' s',I l s->item l s=some (l',s')->I l' s')
  {l:Sp.By} {s:σ} {r:Sp.By} {s':σ} (hI:I l.tail s) (h:Sp.Bh op cl item l s=some (r,s')):I r s'/\0<l.length:=by
 unfold Sp.Bh at h;split at h
 ·rename_i k;have:=AO k;have b:=Sp.AX l.tail;split at h
  ·rename_i k2;have:=List.length_tail (l:=Sp.skB l.tail);injection h with h;injection h with h2 h3;subst h2;subst h3;exact⟨hm _ _ _ hI (by omega),by omega⟩
  ·exact⟨Wn cl item I hm hi _ _ _ _ _ (hm _ _ _ hI b) h,by omega⟩
 ·cases h
theorem Xx{l:Sp.By}{n:Sp.Nm}{r:Sp.By}(h:Sp.num l=some (n,r)):n.2.1.length+r.length<=l.length:=by
 have hf:∀ {l:Sp.By} {n r},Sp.AR l=some (n,r)->r.length<=l.length:=by
  intro l n r h;unfold Sp.AR at h;have a:=BM l.tail;have b:=BM l.tail.tail;have c:=List.length_tail (l:=l);have d:=List.length_tail (l:=l.tail)
  repeat' split at h
  all_goals first|(injection h with h;injection h with h1 h2;subst h2;omega)|cases h
 have hb:∀ {b:Bool} {l:Sp.By} {n r},Sp.BH b l=some (n,r)->n.2.1.length+r.length<=l.length:=by
  intro b l n r h;unfold Sp.BH at h;have a:=BM l;split at h
  ·cases h
  ·split at h
   ·cases h
   ·rename_i f r1 h1;have:=Dk h1;split at h
    ·cases h
    ·rename_i e r2 h2;have:=hf h2;injection h with h;injection h with h3 h4;subst h4;subst h3;have h5:(Sp.Co b (Sp.dg l++f) (e-f.length)).2.1.length<=(Sp.dg l++f).length:=by
      unfold Sp.Co;have h1:=FK (Sp.dg l++f) 48;have h2:=FJ (Lib.trimLeftB (Sp.dg l++f) 48) 48;simp only;split
      ·simp
      ·simp only;omega
     rw[List.length_append] at h5;omega
 unfold Sp.num at h;split at h
 ·have:=hb h;have:=List.length_tail (l:=l);omega
 ·exact hb h
theorem Gm(s:Sp.By):(Sp.Ah s).length<=6*s.length+2:=by
 have:=Sp.Jr s;simp[Sp.Ah];omega
theorem Re{l s r:Sp.By}(h:Sp.quo l=some (s,r)):s.length+4*r.length+4<=4*l.length:=by
 unfold Sp.quo at h;split at h
 ·rename_i k;have:=AO k;have:=Pk _ _ _ _ h;omega
 ·cases h
theorem Lv(l:List Sp.By):(Sp.Bt l).length=(l.map fun x=>x.length+1).sum:=by
 induction l with
 | nil=>rfl
 | cons x r ih=>simp[Sp.Bt,ih];omega
theorem ET(l:List Sp.By):(Sp.Ai l).length<=(l.map fun x=>x.length+1).sum:=by
 cases l with
 | nil=>simp[Sp.Ai]
 | cons x r=>simp[Sp.Ai,Lv]
def ent(g:Nat)(p:Lit×Sp.V):Nat:=(Sp.Ah (strOf p.1)).length+(Sp.can g p.2).length+2
def Dl(g:Nat)(es:List (Lit×Sp.V)):Nat:=(es.map (ent g)).sum
theorem Oc(g:Nat)(x:Lit×Sp.V)(l:List (Lit×Sp.V)):Dl g (DataW.insert x l)=ent g x+Dl g l:=by
 induction l with
 | nil=>rfl
 | cons y r ih =>
  unfold DataW.insert;split
  ·rfl
  ·simp only[Dl,List.map_cons,List.sum_cons] at ih |-; omega
theorem Od(g:Nat)(c:Lit×Sp.V->Bool)(l:List (Lit×Sp.V)):Dl g (l.filter c)<=Dl g l:=by
 induction l with
 | nil=>simp
 | cons y r ih =>
  rw[List.filter_cons];split
  ·simp only[Dl,List.map_cons,List.sum_cons] at ih |-; omega
  ·simp only[Dl,List.map_cons,List.sum_cons] at ih |-; omega
def QF(g C:Nat)(l:Sp.By)(v:Sp.V):Prop:=∃es,v = .map es/\es.Pairwise (fun p q=>p.1≠q.1)/\(∀p∈es,∃x,p.1 = .string x)/\Dl g es+40*l.length<=C
theorem OU{g:Nat}{es:List (Lit×Sp.V)}(hp:es.Pairwise (fun p q=>p.1≠q.1))(hk:∀p∈es,∃x,p.1 = .string x) :
  (Sp.Ai ((Sp.skeys es).map (Sp.item g es))).length<=Dl g es:=by
 refine Nat.le_trans (ET _) ?_;rw[List.map_map];have h1:((Sp.skeys es).map ((fun x=>x.length+1) ∘ Sp.item g es)).Perm ((Sp.keys es).map ((fun x=>x.length+1) ∘ Sp.item g es)):=(List.mergeSort_perm _ _).map _;rw[h1.sum_nat];unfold Sp.keys Dl;rw[List.map_map];apply Nat.le_of_eq;congr 1;apply List.map_congr_left;intro p hpm;obtain⟨x,hx⟩:=hk p hpm;have h2:Sp.look es x=p.2:=by
  unfold Sp.look;exact WideAt.atKey_mem .nil trivial hp (by rw[<- hx];exact hpm)
 obtain⟨k,v⟩:=p;simp only at hx h2;subst hx;simp only[Function.comp,ent,strOf];rw[Sp.item_len,h2];omega
theorem QF.put{g C:Nat}{l l' k:Sp.By}{v d:Sp.V}(h:QF g C l v)(he:(Sp.Ah k).length+(Sp.can g d).length+2+40*l'.length<=40*l.length):QF g C l' (DataW.put v (.string k) d):=by
 obtain⟨es,rfl,hp,hk,hs⟩:=h;obtain⟨es',e1,hp'⟩:=Tidy.put (D:=DataW.map es) (k:=.string k) ⟨es,rfl,hp⟩ trivial d;refine⟨es',e1,hp',?_,?_⟩
 ·have e2:es'=DataW.insert (.string k,d) (es.filter fun p=>!p.1.sameKey (.string k)):=by
   have:DataW.map (DataW.insert (.string k,d) (es.filter fun p=>!p.1.sameKey (.string k)))=DataW.map es':=e1;injection this with this;exact this.symm
  intro p hpm;rw[e2] at hpm;rcases List.mem_cons.1 ((Go.WideShapes.insert_perm _ _).mem_iff.1 hpm) with rfl|h2
  ·exact⟨k,rfl⟩
  ·exact hk p (List.mem_filter.1 h2).1
 ·have e2:es'=DataW.insert (.string k,d) (es.filter fun p=>!p.1.sameKey (.string k)):=by
   have:DataW.map (DataW.insert (.string k,d) (es.filter fun p=>!p.1.sameKey (.string k)))=DataW.map es':=e1;injection this with this;exact this.symm
  rw[e2,Oc];have h4:Dl g (es.filter fun p=>!p.1.sameKey (.string k))<=Dl g es:=Od g _ es;show ent g (.string k,d)+Dl g (es.filter fun p=>!p.1.sameKey (.string k))+40*l'.length<=C;have h3:ent g (.string k,d)=(Sp.Ah k).length+(Sp.can g d).length+2:=rfl;omega
theorem KT(k:Nat):(Sp.words.getD k []).length<=5:=by
 match k with
 | 0=>decide
 | 1=>decide
 | 2=>decide
 | k+3=>simp[Sp.words]
theorem WX(f:Nat):∀ (lv:Int) (l:Sp.By) (fl:Sp.Fl) (v:Sp.V) (r:Sp.By) (fl':Sp.Fl),l.length<=2000->Sp.val f lv l fl=some (v,r,fl') -> ∀g,(Sp.can g v).length+2+40*r.length<=40*l.length:=by
 induction f with
 | zero=>intro lv l fl v r fl' _ h;cases h
 | succ f ih =>
  intro lv l fl v r fl' hl h g;have hlen:=Sp.Ep _ _ _ _ _ _ _ h;cases g with
  | zero=>simp[Sp.can];omega
  | succ g =>
   unfold Sp.val at h;split at h
   ·split at h
    ·cases h
    ·rename_i h1;have hI:=Dw (σ:=Sp.V×Sp.Fl) (fun m s=>QF g (40*l.tail.length) m s.1/\m.length<=2000) (fun a b s ⟨⟨es,e1,e2,e3,e4⟩,e5⟩ hab=>⟨⟨es,e1,e2,e3,by omega⟩,by omega⟩) (by
      rintro a s a' s' ⟨ho,ha⟩ hm;unfold Sp.CJ at hm;split at hm
      ·cases hm
      ·rename_i k l1 hq;have q1:=Re hq;have q2:=Gm k;have b:=Sp.AX l1;split at hm
       ·rename_i htk;have ht:=AO htk;have c:=Sp.AX (Sp.skB l1).tail;split at hm
        ·cases hm
        ·rename_i d r2 fl2 hv;have hc:=ih _ _ _ _ _ _ (by omega) hv g;injection hm with hm;injection hm with h1 h2;subst h1;subst h2;exact⟨ho.put (by omega),by omega⟩
       ·cases hm) ⟨⟨[],rfl,List.Pairwise.nil,by simp,by simp[Dl]⟩,by have:=List.length_tail (l:=l);omega⟩ h1
     obtain⟨⟨⟨es,e1,e2,e3,e4⟩,e5⟩,hpos⟩:=hI;injection h with h;injection h with h2 h3;injection h3 with h3 h4;subst h2;subst h3;rename_i v2 _ _ _;simp only at e1;subst e1;have h9:=OU (g:=g) e2 e3;have e6:Sp.can (g+1) (DataW.map es)=123::(Sp.Ai ((Sp.skeys es).map (Sp.item g es))++[125]):=rfl;have:=List.length_tail (l:=l);rw[e6];simp only[List.length_cons,List.length_append,List.length_nil];omega
   ·split at h
    ·split at h
     ·cases h
     ·rename_i h1;have hI:=Dw (σ:=List Sp.V×Sp.Fl) (fun m s=>(s.1.map fun v=>(Sp.can g v).length+1).sum+40*m.length<=40*l.tail.length/\m.length<=2000) (fun a b s ⟨e1,e2⟩ hab=>⟨by omega,by omega⟩) (by
       rintro a s a' s' ⟨ho,ha⟩ hm;unfold Sp.C7 at hm;split at hm
       ·cases hm
       ·rename_i d r2 fl2 hv;have hc:=ih _ _ _ _ _ _ ha hv g;injection hm with hm;injection hm with h1 h2;subst h1;subst h2;refine⟨?_,by omega⟩;simp only[List.map_append,List.map_cons,List.map_nil,List.sum_append,List.sum_cons,List.sum_nil];omega) ⟨by simp,by have:=List.length_tail (l:=l);omega⟩ h1
      obtain⟨⟨e4,e5⟩,hpos⟩:=hI;injection h with h;injection h with h2 h3;injection h3 with h3 h4;subst h2;subst h3;rw[Sp.CP];rename_i es2 _;have h9:=ET (es2.map (Sp.can g));rw[List.map_map] at h9;have:=List.length_tail (l:=l);simp only[List.length_cons,List.length_append,List.length_nil];simp only[Function.comp_def] at h9;simp only at e4;omega
    ·split at h
     ·split at h
      ·cases h
      ·rename_i s r1 h1;have q1:=Re h1;have q2:=Gm s;injection h with h;injection h with h2 h3;injection h3 with h3 h4;subst h2;subst h3;rw[Sp.Gs];omega
     ·split at h
      ·split at h
       ·cases h
       ·rename_i n r1 h1;have q1:=Xx h1;have q2:=Ho h1 hl;have q3:=TK n;have q4:=Lib.itoa_length_le n.2.2 (by omega) (by omega);injection h with h;injection h with h2 h3;injection h3 with h3 h4;subst h2;subst h3;rw[Sp.IC];omega
      ·split at h
       ·cases h
       ·rename_i k r1 h1;injection h with h;injection h with h2 h3;injection h3 with h3 h4;subst h2;subst h3;rw[Sp.GU];have:=KT k;omega
theorem F7{t:Sp.By}{d x:Int}{v:Sp.V}(h:Sp.readTo t d x=(0,some v))(g:Nat):(Sp.can g v).length<=80000:=by
 unfold Sp.readTo at h;split at h
 ·injection h with h1 h2;cases h2
 ·rename_i hl;have hs:=Sp.AX t;split at h
  ·injection h with h1 h2;cases h2
  ·rename_i v2 r fl hv;have hb:=WX _ _ _ _ _ _ _ (by omega) hv g
   repeat' split at h
   all_goals injection h with h1 h2
   all_goals first|(injection h2 with h2;subst h2;omega)|cases h2
end

section
def Sp.Sc(c:Nat):Prop:=c<55296\/(57344<=c/\c<=1114111)
abbrev Sp.encN(c:Nat):Sp.By:=Lib.encodeRune (c:Int)
def Sp.Ut(s:Sp.By):Prop:=∃cs:List Nat,(∀c∈cs,Sp.Sc c)/\s=cs.flatMap Sp.encN
theorem VM{l r:Sp.By}{m:Nat}(h:Sp.DI l=some (m,r)):Sp.Sc m:=by
 unfold Sp.DI at h;split at h
 ·cases h
 ·rename_i a r1 hx;have h2:=Iu hx;unfold Sp.Sc;split at h
  ·injection h with h;injection h with h1 h2;omega
  ·split at h
   ·cases h
   ·split at h
    ·split at h
     ·split at h
      ·cases h
      ·rename_i b r2 hy;have h3:=Iu hy;split at h
       ·cases h
       ·injection h with h;injection h with h1 h2;omega
     ·cases h
    ·cases h
theorem Ux(l:Sp.By)(T:List (UInt8×Nat))(hT:∀x∈T,x.2<55296){m:Nat}{r:Sp.By}(h:Sp.Eh l T=some (m,r)):Sp.Sc m:=by
 induction T with
 | nil=>cases h
 | cons x T ih =>
  obtain⟨c,n⟩:=x;rw[Sp.Eh] at h;split at h
  ·injection h with h;injection h with h1 h2;have:=hT (c,n) (by simp);exact Or.inl (by simp only at this;omega)
  ·exact ih (fun x hx=>hT x (by simp[hx])) h
theorem DZ(l:Sp.By)(h:l≠[]):Sp.dec l=Lib.decodeN l.length (l.getD 0 0).toNat (l.getD 1 0).toNat (l.getD 2 0).toNat (l.getD 3 0).toNat:=by
 unfold Sp.dec;rw[if_neg (by simpa using h),Lib.decode_at];have hg:∀i,(ByteArray.mk l.toArray).get! i=l.getD i 0:=by
  intro i;simp[ByteArray.get!,List.getD,Array.getElem!_eq_getD,Array.getD];split
  ·rename_i hi;rw[List.getElem?_eq_getElem hi];rfl
  ·rename_i hi;rw[List.getElem?_eq_none (by omega)];rfl
 rw[hg,hg,hg,hg];rfl
theorem WJ(n a b c d:Nat):Sp.Sc (Lib.decodeN n a b c d).1:=by
 unfold Lib.decodeN Sp.Sc
 repeat' split
 all_goals simp only
 all_goals omega
theorem X2(l:Sp.By):Sp.Sc (Sp.dec l).1:=by
 by_cases h:l=[]
 ·subst h;exact Or.inr ⟨by decide,by decide⟩
 ·rw[DZ l h];exact WJ _ _ _ _ _
theorem SK{l:Sp.By}{m:Nat}{r:Sp.By}(h:Sp.chr l=some (m,r)):Sp.Sc m:=by
 unfold Sp.chr at h;split at h
 ·unfold Sp.esc at h;split at h
  ·exact VM h
  ·exact Ux _ Sp.Fy (by decide) h
 ·split at h
  ·cases h
  ·injection h with h;injection h with h1 h2;rw[<- h1];exact X2 l
theorem WN(f:Nat):∀ (l s r:Sp.By),Sp.CN f l=some (s,r)->Sp.Ut s:=by
 induction f with
 | zero=>intro l s r h;cases h
 | succ f ih =>
  intro l s r h;unfold Sp.CN at h;split at h
  ·injection h with h;injection h with h1 h2;subst h1;exact⟨[],by simp,rfl⟩
  ·split at h
   ·cases h
   ·rename_i c r1 hc;split at h
    ·cases h
    ·rename_i s1 r2 hx;obtain⟨cs,h1,h2⟩:=ih _ _ _ hx;injection h with h;injection h with h3 h4;subst h3;exact⟨c::cs,by
      intro x hm;rcases List.mem_cons.1 hm with rfl|hm
      ·exact SK hc
      ·exact h1 x hm,by rw[h2];rfl⟩
theorem Rd{l s r:Sp.By}(h:Sp.quo l=some (s,r)):Sp.Ut s:=by
 unfold Sp.quo at h;split at h
 ·exact WN _ _ _ _ h
 ·cases h
theorem Js(a b:Sp.By):Sp.A7 (a++b)=Sp.A7 a++Sp.A7 b:=by
 induction a with
 | nil=>rfl
 | cons c r ih=>simp[Sp.A7,ih]
theorem LA:∀n:Fin 16,Sp.Eg (Sp.Fs n.val).toNat=some n.val:=by decide
theorem VV(c:UInt8)(l:Sp.By):Sp.pk (c::l)=c.toNat:=rfl
theorem Ul(a b:Nat)(ha:a<16)(hb:b<16)(l:Sp.By):Sp.Cp 4 0 (48::48::Sp.Fs a::Sp.Fs b::l)=some (a*16+b,l):=by
 have h0:Sp.Eg 48=some 0:=by decide
 have e1:=LA ⟨a,ha⟩;have e2:=LA ⟨b,hb⟩;simp only at e1 e2;simp only[Sp.Cp,VV,List.tail_cons,e1,e2,show (48:UInt8).toNat=48 from rfl,h0];simp
theorem LE(l:Sp.By)(h:∀x∈l,128<=x.toNat):Sp.A7 l=l:=by
 induction l with
 | nil=>rfl
 | cons c r ih =>
  have hc:=h c (by simp);rw[Sp.A7,ih (fun x hx=>h x (by simp[hx]))];unfold Sp.Cr;rw[if_neg (by omega),if_neg (by omega)];rfl
theorem C4(c:Nat)(h:c<128):Lib.encodeRune (c:Int)=[UInt8.ofNat c]:=by
 rw[Lib.encodeRune,Lib.encodeRuneZ_one (by omega) (by omega)];simp
theorem Fz(c:Nat)(h:128<=c)(hc:Sp.Sc c)(l:Sp.By):(∀x∈Lib.encodeRune (c:Int),128<=x.toNat)/\Sp.dec (Lib.encodeRune (c:Int)++l)=(c,(Lib.encodeRune (c:Int)).length)/\2<=(Lib.encodeRune (c:Int)).length:=by
 unfold Sp.Sc at hc;have hn:∀z:Int,0<=z->z<256->(z.toNat.toUInt8).toNat=z.toNat:=by
  intro z h0 h1;simp;omega
 by_cases h2:c<=2047
 ·rw[Lib.encodeRune,Lib.encodeRuneZ_two (by omega) (by omega)];have a1:=hn (192+(c:Int) / 64) (by omega) (by omega);have a2:=hn (128+(c:Int) % 64) (by omega) (by omega);refine⟨?_,?_,by simp⟩
  ·intro x hx;simp only[List.map_cons,List.map_nil,List.mem_cons,List.not_mem_nil,or_false] at hx;rcases hx with rfl|rfl
   ·rw[a1];omega
   ·rw[a2];omega
  ·rw[DZ _ (by simp)];simp only[List.map_cons,List.map_nil,List.cons_append,List.nil_append,List.getD_cons_zero,List.getD_cons_succ,a1,a2,List.length_cons,List.length_nil];unfold Lib.decodeN
   repeat' split
   all_goals first|(exfalso;omega)|(apply Prod.ext<;>simp only<;>omega)
 ·by_cases h3:c<=65535
  ·rw[Lib.encodeRune,Lib.encodeRuneZ_three (by omega)];have a1:=hn (224+(c:Int) / 4096) (by omega) (by omega);have a2:=hn (128+(c:Int) / 64 % 64) (by omega) (by omega);have a3:=hn (128+(c:Int) % 64) (by omega) (by omega);refine⟨?_,?_,by simp⟩
   ·intro x hx;simp only[List.map_cons,List.map_nil,List.mem_cons,List.not_mem_nil,or_false] at hx;rcases hx with rfl|rfl|rfl
    ·rw[a1];omega
    ·rw[a2];omega
    ·rw[a3];omega
   ·rw[DZ _ (by simp)];simp only[List.map_cons,List.map_nil,List.cons_append,List.nil_append,List.getD_cons_zero,List.getD_cons_succ,a1,a2,a3,List.length_cons,List.length_nil];unfold Lib.decodeN
    repeat' split
    all_goals first|(exfalso;omega)|(apply Prod.ext<;>simp only<;>omega)
  ·rw[Lib.encodeRune,Lib.encodeRuneZ_four (by omega) (by omega)];have a1:=hn (240+(c:Int) / 262144) (by omega) (by omega);have a2:=hn (128+(c:Int) / 4096 % 64) (by omega) (by omega);have a3:=hn (128+(c:Int) / 64 % 64) (by omega) (by omega);have a4:=hn (128+(c:Int) % 64) (by omega) (by omega);refine⟨?_,?_,by simp⟩
   ·intro x hx;simp only[List.map_cons,List.map_nil,List.mem_cons,List.not_mem_nil,or_false] at hx;rcases hx with rfl|rfl|rfl|rfl
    ·rw[a1];omega
    ·rw[a2];omega
    ·rw[a3];omega
    ·rw[a4];omega
   ·rw[DZ _ (by simp)];simp only[List.map_cons,List.map_nil,List.cons_append,List.nil_append,List.getD_cons_zero,List.getD_cons_succ,a1,a2,a3,a4,List.length_cons,List.length_nil];unfold Lib.decodeN
    repeat' split
    all_goals first|(exfalso;omega)|(apply Prod.ext<;>simp only<;>omega)
theorem Dr(c d:UInt8)(l:Sp.By):Sp.tk (c::l) d=(c == d):=rfl
theorem WO(c:Nat)(hc:Sp.Sc c)(l:Sp.By):Sp.chr (Sp.A7 (Lib.encodeRune (c:Int))++l)=some (c,l)/\Sp.tk (Sp.A7 (Lib.encodeRune (c:Int))++l) 34=false:=by
 by_cases h:c<128
 ·rw[C4 c h];have e:(UInt8.ofNat c).toNat=c:=by simp;omega
  simp only[Sp.A7,List.append_nil];unfold Sp.Cr;rw[e];by_cases h1:c=34\/c=92
  ·rw[if_pos h1];rcases h1 with rfl|rfl
   ·exact⟨rfl,rfl⟩
   ·exact⟨rfl,rfl⟩
  ·rw[if_neg h1];by_cases h2:c<32
   ·rw[if_pos h2];refine⟨?_,rfl⟩;simp only[List.cons_append,List.nil_append];unfold Sp.chr;rw[if_pos (show Sp.tk (92::_) 92=true from rfl),List.tail_cons];unfold Sp.esc;rw[if_pos (show Sp.tk (117::_) 117=true from rfl),List.tail_cons];unfold Sp.DI;rw[Ul _ _ (by omega) (by omega)];simp only;rw[if_pos (by omega),show c / 16*16+c % 16=c by omega]
   ·rw[if_neg h2];have k34:(UInt8.ofNat c == 34)=false:=by
     rw[beq_eq_false_iff_ne];intro k;have:=congrArg UInt8.toNat k;rw[e] at this;simp at this;omega
    have k92:(UInt8.ofNat c == 92)=false:=by
     rw[beq_eq_false_iff_ne];intro k;have:=congrArg UInt8.toNat k;rw[e] at this;simp at this;omega
    simp only[List.cons_append,List.nil_append,Dr];refine⟨?_,k34⟩;unfold Sp.chr;rw[Dr,if_neg (by rw[k92];decide)];have hd:Sp.dec (UInt8.ofNat c::l)=(c,1):=by
     rw[DZ _ (by simp),List.getD_cons_zero,e];unfold Lib.decodeN
     repeat' split
     all_goals first|(exfalso;simp at *; omega)|rfl
    rw[hd,if_neg (by simp only;omega)];rfl
 ·obtain⟨h1,h2,h3⟩:=Fz c (by omega) hc l;rw[LE _ h1];generalize hx:Lib.encodeRune (c:Int)=e at *
  match e,h3 with
  | a::b::t,_ =>
   have ha:=h1 a (by simp);have k34:(a == 34)=false:=by
    rw[beq_eq_false_iff_ne];rintro rfl;simp at ha
   have k92:(a == 92)=false:=by
    rw[beq_eq_false_iff_ne];rintro rfl;simp at ha
   refine⟨?_,k34⟩;unfold Sp.chr;rw[show Sp.tk (a::b::t++l) 92=false from k92,if_neg (by decide),h2,if_neg (by simp only[List.length_cons];omega)];simp
theorem UT:∀ (cs:List Nat),(∀c∈cs,Sp.Sc c) -> ∀ (f:Nat) (l:Sp.By),cs.length<f->Sp.CN f (Sp.A7 (cs.flatMap Sp.encN)++34::l)=some (cs.flatMap Sp.encN,l):=by
 intro cs;induction cs with
 | nil =>
  intro _ f l hf
  match f,hf with
  | f+1,_=>rfl
 | cons c cs ih =>
  intro h f l hf
  match f,hf with
  | f+1,hf =>
   obtain⟨h1,h2⟩:=WO c (h c (by simp)) (Sp.A7 (cs.flatMap Sp.encN)++34::l);rw[List.flatMap_cons,Js,List.append_assoc];unfold Sp.CN;rw[h2,if_neg (by decide),h1];simp only;rw[ih (fun c hc=>h c (by simp[hc])) f l (by simp at hf;omega)]
theorem Uy(a:UInt8):1<=(Sp.Cr a).length:=by
 unfold Sp.Cr;split
 ·simp
 ·split
  ·simp
  ·simp
theorem MF{s:Sp.By}(h:Sp.Ut s)(l:Sp.By):Sp.quo (Sp.Ah s++l)=some (s,l):=by
 obtain⟨cs,h1,rfl⟩:=h;unfold Sp.quo Sp.Ah;simp only[List.cons_append,List.append_assoc,List.nil_append,List.tail_cons];rw[if_pos (show Sp.tk (34::_) 34=true from rfl)];apply UT _ h1;have hlen:∀cs:List Nat,cs.length<=(Sp.A7 (cs.flatMap Sp.encN)).length:=by
  intro cs;induction cs with
  | nil=>simp
  | cons c cs ih =>
   rw[List.flatMap_cons,Js,List.length_append,List.length_cons];have:1<=(Sp.A7 (Sp.encN c)).length:=by
    unfold Sp.encN;have h2:=(Lib.encodeRuneZ_length (c:Int)).1;have h3:(Lib.encodeRune (c:Int)).length=(Lib.encodeRuneZ (c:Int)).length:=by simp[Lib.encodeRune]
    match hx:Lib.encodeRune (c:Int) with
    | []=>rw[hx] at h3;simp at h3;omega
    | a::t =>
     rw[Sp.A7,List.length_append];have:=Uy a;omega
   omega
 have:=hlen cs;simp;omega
end

section
def Sp.Gn(n:Sp.Nm):Prop:=n=(false,[],0)\/(n.2.1≠[]/\(∀c∈n.2.1,Sp.isD c=true)/\n.2.1.head? ≠ some 48/\n.2.1.getLast? ≠ some 48)
def Sp.Nd(r:Sp.By):Prop:=∀c t,r=c::t->Sp.isD c=false/\c≠46/\c≠101/\c≠69
theorem Su(l:Sp.By):∀c∈Sp.dg l,Sp.isD c=true:=by
 induction l with
 | nil=>intro c h;cases h
 | cons d r ih =>
  intro c h;unfold Sp.dg at h;split at h
  ·rename_i hd;rcases List.mem_cons.1 h with rfl|h
   ·exact hd
   ·exact ih c h
  ·cases h
theorem QU(ds:Sp.By)(hd:∀c∈ds,Sp.isD c=true)(hw:Lib.trimRightB (Lib.trimLeftB ds 48) 48≠[]) :
  (∀c∈Lib.trimRightB (Lib.trimLeftB ds 48) 48,Sp.isD c=true)/\(Lib.trimRightB (Lib.trimLeftB ds 48) 48).head? ≠ some 48/\(Lib.trimRightB (Lib.trimLeftB ds 48) 48).getLast? ≠ some 48:=by
 have hsub:∀c∈Lib.trimLeftB ds 48,c∈ds:=fun c h=>(List.dropWhile_sublist _).subset h;have hpre:Lib.trimRightB (Lib.trimLeftB ds 48) 48 <+: Lib.trimLeftB ds 48:=by
  unfold Lib.trimRightB;have:=List.dropWhile_suffix (l:=(Lib.trimLeftB ds 48).reverse) (· == 48)
  have h2:=List.reverse_prefix.2 this
  rwa [List.reverse_reverse] at h2
 refine⟨fun c h=>hd c (hsub c (hpre.subset h)),?_,?_⟩
 ·have h1:(Lib.trimRightB (Lib.trimLeftB ds 48) 48).head? = (Lib.trimLeftB ds 48).head?:=by
   obtain⟨t,ht⟩:=hpre;have hgen:∀ (A B:Sp.By),A≠[]->A.head? = (A++B).head?:=by
    intro A B hA;cases A with
    | nil=>exact absurd rfl hA
    | cons a b=>rfl
   exact (hgen _ t hw).trans (congrArg List.head? ht)
  rw[h1];have:=List.head?_dropWhile_not (· == (48:UInt8)) ds
  intro k;unfold Lib.trimLeftB at k;rw[k] at this;simp at this
 ·intro k;unfold Lib.trimRightB at k;rw[List.getLast?_reverse] at k;have:=List.head?_dropWhile_not (· == (48:UInt8)) (Lib.trimLeftB ds 48).reverse
  rw[k] at this;simp at this
theorem RC(ng:Bool)(ds:Sp.By)(e:Int)(hd:∀c∈ds,Sp.isD c=true):Sp.Gn (Sp.Co ng ds e):=by
 unfold Sp.Co;simp only;split
 ·exact Or.inl rfl
 ·rename_i hw;exact Or.inr ⟨hw,QU ds hd hw⟩
theorem Lm{ng:Bool}{l r:Sp.By}{n:Sp.Nm}(h:Sp.BH ng l=some (n,r)):Sp.Gn n:=by
 unfold Sp.BH at h;split at h
 ·cases h
 ·split at h
  ·cases h
  ·rename_i f r1 hf;split at h
   ·cases h
   ·injection h with h;injection h with h1 h2;rw[<- h1];apply RC;intro c hc;rcases List.mem_append.1 hc with hc|hc
    ·exact Su _ c hc
    ·unfold Sp.BJ at hf;split at hf
     ·split at hf
      ·cases hf
      ·injection hf with hf;injection hf with h3 h4;rw[<- h3] at hc;exact Su _ c hc
     ·injection hf with hf;injection hf with h3 h4;rw[<- h3] at hc;cases hc
theorem TI{l r:Sp.By}{n:Sp.Nm}(h:Sp.num l=some (n,r)):Sp.Gn n:=by
 unfold Sp.num at h;split at h
 ·exact Lm h
 ·exact Lm h
theorem Kf(ds T:Sp.By)(hd:∀c∈ds,Sp.isD c=true)(hT:∀c t,T=c::t->Sp.isD c=false):Sp.dg (ds++T)=ds/\Sp.dgR (ds++T)=T:=by
 induction ds with
 | nil =>
  cases T with
  | nil=>exact⟨rfl,rfl⟩
  | cons c t =>
   have:=hT c t rfl;simp[Sp.dg,Sp.dgR,this]
 | cons d ds ih =>
  obtain⟨h1,h2⟩:=ih (fun c hc=>hd c (by simp[hc]));have h0:=hd d (by simp);simp[Sp.dg,Sp.dgR,h0,h1,h2]
theorem FB(u:Nat):∀c∈Lib.decDigits u,Sp.isD c=true:=by
 induction u using Nat.strongRecOn with
 | ind u ih =>
  have hdig:∀k,k<10->Sp.isD (UInt8.ofNat (48+k))=true:=by
   intro k hk;have:(UInt8.ofNat (48+k)).toNat=48+k:=by simp;omega
   unfold Sp.isD;rw[this];simp;omega
  rw[Lib.decDigits];split
  ·rename_i h;intro c hc;rw[List.mem_singleton] at hc;rw[hc];exact hdig u h
  ·intro c hc;rcases List.mem_append.1 hc with hc|hc
   ·exact ih (u / 10) (by omega) c hc
   ·rw[List.mem_singleton] at hc;rw[hc];exact hdig _ (by omega)
theorem Ff(u:Nat):Lib.decDigits u≠[]:=by
 rw[Lib.decDigits];split
 ·simp
 ·simp
theorem R8(a b:Sp.By)(n:Int):Sp.AE (a++b) n=Sp.AE b (Sp.AE a n):=by
 induction a generalizing n with
 | nil=>rfl
 | cons c r ih=>exact ih _
theorem LD(u:Nat)(hu:u<=1000000):Sp.AE (Lib.decDigits u) 0=u:=by
 induction u using Nat.strongRecOn with
 | ind u ih =>
  have hdig:∀k,k<10->(UInt8.ofNat (48+k)).toNat=48+k:=by
   intro k hk;simp;omega
  rw[Lib.decDigits];split
  ·rename_i h;show min (10*0+(((UInt8.ofNat (48+u)).toNat:Int)-48)) 1000000=u;rw[hdig u h];omega
  ·rename_i h;rw[R8,ih (u / 10) (by omega) (by omega)];show min (10*((u / 10:Nat):Int)+(((UInt8.ofNat (48+u % 10)).toNat:Int)-48)) 1000000=u;rw[hdig _ (by omega)];omega
theorem JH{ds:Sp.By}(hne:ds≠[])(T:Sp.By)(c:UInt8):Sp.tk (ds++T) c=Sp.tk ds c:=by
 cases ds with
 | nil=>exact absurd rfl hne
 | cons d r=>rfl
theorem I0{ds:Sp.By}(hd:∀c∈ds,Sp.isD c=true)(k:UInt8)(hk:Sp.isD k=false):Sp.tk ds k=false:=by
 cases ds with
 | nil=>rfl
 | cons d r =>
  rw[Dr,beq_eq_false_iff_ne];rintro rfl;have:=hd d (by simp);rw[hk] at this;cases this
theorem R7(ex:Int)(hb:-1000000<=ex/\ex<=1000000)(r:Sp.By)(hr:Sp.Nd r):Sp.AR (101::(Lib.itoa ex++r))=some (ex,r):=by
 have hT:∀c t,r=c::t->Sp.isD c=false:=fun c t e=>(hr c t e).1;unfold Sp.AR;rw[if_pos (by rfl),List.tail_cons];unfold Lib.itoa;by_cases hn:ex<0
 ·rw[if_pos hn,List.cons_append,if_pos (by rfl),List.tail_cons];obtain⟨e1,e2⟩:=Kf (Lib.decDigits ex.natAbs) r (FB _) hT;rw[e1,e2,if_neg (Ff _),LD _ (by omega)];congr 2;omega
 ·rw[if_neg hn];obtain⟨e1,e2⟩:=Kf (Lib.decDigits ex.toNat) r (FB _) hT;rw[JH (Ff _),JH (Ff _),I0 (FB _) 45 (by decide),I0 (FB _) 43 (by decide),if_neg (by decide),if_neg (by decide),e1,e2,if_neg (Ff _),LD _ (by omega)];congr 2;omega
theorem LB{T:Sp.By}(h:∀c t,T=c::t->c≠46):Sp.BJ T=some ([],T):=by
 unfold Sp.BJ;rw[if_neg];cases T with
 | nil=>decide
 | cons c t =>
  rw[Dr];simpa using h c t rfl
theorem LC{T:Sp.By}(h:Sp.Nd T):Sp.AR T=some (0,T):=by
 unfold Sp.AR;rw[if_neg];cases T with
 | nil=>decide
 | cons c t =>
  obtain⟨_,_,h3,h4⟩:=h c t rfl;rw[Dr,Dr];simp[h3,h4]
theorem Vx{ds:Sp.By}(h1:ds.head? ≠ some 48)(h2:ds.getLast? ≠ some 48):Lib.trimLeftB ds 48=ds/\Lib.trimRightB ds 48=ds:=by
 have hd:∀l:Sp.By,l.head? ≠ some 48->l.dropWhile (· == 48)=l:=by
  intro l hl;cases l with
  | nil=>rfl
  | cons c t =>
   rw[List.dropWhile_cons,if_neg];intro k;exact hl (by rw[List.head?_cons,eq_of_beq k])
 refine⟨hd ds h1,?_⟩;unfold Lib.trimRightB;rw[hd ds.reverse (by rwa [List.head?_reverse]),List.reverse_reverse]
theorem Ll{ng:Bool}{ds:Sp.By}{ex:Int}(hne:ds≠[])(hd:∀c∈ds,Sp.isD c=true)(h1:ds.head? ≠ some 48)(h2:ds.getLast? ≠ some 48)(hb:-1000000<=ex/\ex<=1000000)(r:Sp.By)(hr:Sp.Nd r) :
  Sp.BH ng (ds++((if ex=0 then [] else 101::Lib.itoa ex)++r))=some ((ng,ds,ex),r):=by
 have hT:∀c t,(if ex=0 then [] else 101::Lib.itoa ex)++r=c::t->Sp.isD c=false/\c≠46:=by
  intro c t h;split at h
  ·exact⟨(hr c t h).1,(hr c t h).2.1⟩
  ·injection h with h3 h4;rw[<- h3];exact⟨by decide,by decide⟩
 obtain⟨e1,e2⟩:=Kf ds _ hd (fun c t h=>(hT c t h).1);have hex:Sp.AR ((if ex=0 then [] else 101::Lib.itoa ex)++r)=some (ex,r):=by
  by_cases h0:ex=0
  ·rw[if_pos h0,List.nil_append,h0];exact LC hr
  ·rw[if_neg h0];exact R7 ex hb r hr
 have hk:Sp.tk ds 48=false:=by
  cases ds with
  | nil=>rfl
  | cons c t =>
   rw[Dr,beq_eq_false_iff_ne];rintro rfl;exact h1 rfl
 unfold Sp.BH;rw[e1,e2,JH hne,hk,if_neg (by simp[hne]),LB (fun c t h=>(hT c t h).2)];simp only;rw[hex];simp only[List.append_nil,List.length_nil];obtain⟨t1,t2⟩:=Vx h1 h2;unfold Sp.Co;simp only[t1,t2];rw[if_neg hne];congr 4;omega
theorem TH{n:Sp.Nm}(hg:Sp.Gn n)(hb:-1000000<=n.2.2/\n.2.2<=1000000)(r:Sp.By)(hr:Sp.Nd r):Sp.num (Sp.A6 n++r)=some (n,r):=by
 rcases hg with rfl|⟨hne,hd,h1,h2⟩
 ·unfold Sp.A6;rw[if_pos rfl];unfold Sp.num;rw[if_neg (by rw[List.cons_append,Dr];decide)];obtain⟨e1,e2⟩:=Kf [48] r (by decide) (fun c t e=>(hr c t e).1);unfold Sp.BH;rw[e1,e2,if_neg (by simp),LB (fun c t e=>(hr c t e).2.1)];simp only;rw[LC hr];rfl
 ·obtain⟨ng,ds,ex⟩:=n;simp only at hne hd h1 h2 hb;unfold Sp.A6;rw[if_neg hne];simp only;unfold Sp.num;cases ng with
  | true =>
   simp only[if_pos,List.append_assoc,List.cons_append,List.nil_append];rw[if_pos (by rfl),List.tail_cons];exact Ll hne hd h1 h2 hb r hr
  | false =>
   simp only[Bool.false_eq_true,if_false,List.append_assoc,List.nil_append];rw[JH hne,I0 hd 45 (by decide),if_neg (by decide)];exact Ll hne hd h1 h2 hb r hr
end

section
open Go.Maps
def Sp.OkF(d x:Int)(fl:Sp.Fl):Prop:=fl.1=false/\fl.2.1<=d/\fl.2.2<=x
def Sp.gd(d x:Int):Nat->Int->Sp.V->Prop
 | 0,_,_=>False
 | f+1,lv,v=>lv<=d/\((∃k,k<3/\v=Sp.BV k)\/(∃s,Sp.Ut s/\v=Sp.Az s)\/(∃n,Sp.Gn n /\ -x<=n.2.2/\n.2.2<=x/\v=Sp.Bj n) \/
   (∃es,(∀e∈es,Sp.gd d x f (lv+1) e)/\v=Sp.Ar es) \/
   (∃es,es.Pairwise (fun p q=>p.1.before q.1=true)/\(∀p∈es,(∃s,p.1 = .string s/\Sp.Ut s)/\Sp.gd d x f (lv+1) p.2)/\v=Sp.Av es))
theorem G5{x:Lit×Sp.V}{l:List (Lit×Sp.V)}(hx:∃s,x.1 = .string s)(hs:∀p∈l,∃s,p.1 = .string s)(hne:∀p∈l,p.1≠x.1)(h:l.Pairwise (fun p q=>p.1.before q.1=true)) :
  (DataW.insert x l).Pairwise (fun p q=>p.1.before q.1=true):=by
 obtain⟨s,hs0⟩:=hx;induction l with
 | nil=>simp[DataW.insert]
 | cons y r ih =>
  rw[List.pairwise_cons] at h;obtain⟨h1,h2⟩:=h;obtain⟨t,ht⟩:=hs y (by simp);unfold DataW.insert;split
  ·rename_i hb;refine List.pairwise_cons.2 ⟨fun q hq=>?_,List.pairwise_cons.2 ⟨h1,h2⟩⟩;rcases List.mem_cons.1 hq with rfl|hq
   ·exact hb
   ·obtain⟨u,hu⟩:=hs q (by simp[hq]);have h3:=h1 q hq;rw[hs0,ht] at hb;rw[ht,hu] at h3;rw[hs0,hu];exact Go.WideShapes.bytes_trans _ _ _ hb h3
  ·rename_i hb;refine List.pairwise_cons.2 ⟨fun q hq=>?_,ih (fun p hp=>hs p (by simp[hp])) (fun p hp=>hne p (by simp[hp])) h2⟩;rcases List.mem_cons.1 ((Go.WideShapes.insert_perm _ _).mem_iff.1 hq) with rfl|hq
   ·rw[hs0,ht] at hb |-;have hn:t≠s:=by
     rintro rfl;exact hne y (by simp) (ht.trans hs0.symm)
    rcases WideAt.bytes_total t s hn with h3|h3
    ·exact h3
    ·exact absurd h3 hb
   ·exact h1 q hq
theorem WW(d x:Int)(f:Nat):∀ (lv:Int) (l:Sp.By) (fl:Sp.Fl) (v:Sp.V) (r:Sp.By) (fl':Sp.Fl),Sp.val f lv l fl=some (v,r,fl')->Sp.OkF d x fl'->Sp.OkF d x fl/\Sp.gd d x f lv v:=by
 induction f with
 | zero=>intro lv l fl v r fl' h;cases h
 | succ f ih =>
  intro lv l fl v r fl' h hok;have hbase:∀ {e:Int},Sp.OkF d x (fl.1,(max fl.2.1 lv,e))->fl.2.2<=e->Sp.OkF d x fl/\lv<=d:=by
   rintro e ⟨h1,h2,h3⟩ he;simp only at h1 h2 h3;exact⟨⟨h1,by omega,by omega⟩,by omega⟩
  unfold Sp.val at h;split at h
  ·split at h
   ·cases h
   ·rename_i r1 v1 fl1 h1;obtain⟨hI,_⟩:=Dw (σ:=Sp.V×Sp.Fl) (fun _ s=>Sp.OkF d x s.2->Sp.OkF d x (fl.1,(max fl.2.1 lv,fl.2.2)) /\ ∃es,s.1=Sp.Av es/\es.Pairwise (fun p q=>p.1.before q.1=true)/\(∀p∈es,(∃s,p.1 = .string s/\Sp.Ut s)/\Sp.gd d x f (lv+1) p.2))
     (fun _ _ _ h _=>h) (by
      rintro a s a' s' hI hm hok2;unfold Sp.CJ at hm;split at hm
      ·cases hm
      ·rename_i k l1 hq;split at hm
       ·split at hm
        ·cases hm
        ·rename_i w r2 fl2 hv;injection hm with hm;injection hm with h1 h2;subst h1;subst h2;obtain⟨k1,k2,k3⟩:=hok2;simp only[Bool.or_eq_false_iff] at k1 k2 k3;obtain⟨hok3,hg⟩:=ih _ _ _ _ _ _ hv ⟨k1.1,k2,k3⟩;obtain⟨hb,es,e1,e2,e3⟩:=hI hok3;refine⟨hb,?_⟩;have hno:=k1.2;rw[e1] at hno |-;have hno2:∀p∈es,p.1.sameKey (.string k)=false:=by
          simpa[Sp.Av,Maps.has] using hno
         have hfil:(es.filter fun p=>!p.1.sameKey (.string k))=es:=List.filter_eq_self.2 fun p hp=>by rw[hno2 p hp];rfl
         refine⟨DataW.insert (.string k,w) es,by simp only[Sp.Av,DataW.put,hfil],?_,?_⟩
         ·refine G5 ⟨k,rfl⟩ (fun p hp=>?_) (fun p hp=>?_) e2
          ·obtain⟨⟨s,hs,_⟩,_⟩:=e3 p hp;exact⟨s,hs⟩
          ·intro e;have:=hno2 p hp;rw[e] at this;simp[Lit.sameKey] at this
         ·intro p hp;rcases List.mem_cons.1 ((Go.WideShapes.insert_perm _ _).mem_iff.1 hp) with rfl|hp
          ·exact⟨⟨k,rfl,Rd hq⟩,hg⟩
          ·exact e3 p hp
       ·cases hm) (fun h=>⟨h,[],rfl,List.Pairwise.nil,by simp⟩) h1
    injection h with h;injection h with h2 h3;injection h3 with h3 h4;subst h2;subst h4;obtain⟨hb,es,e1,e2,e3⟩:=hI hok;obtain⟨b1,b2⟩:=hbase hb (Int.le_refl _);exact⟨b1,b2,Or.inr (Or.inr (Or.inr (Or.inr ⟨es,e2,e3,e1⟩)))⟩
  ·split at h
   ·split at h
    ·cases h
    ·rename_i r1 es1 fl1 h1;obtain⟨hI,_⟩:=Dw (σ:=List Sp.V×Sp.Fl) (fun _ s=>Sp.OkF d x s.2->Sp.OkF d x (fl.1,(max fl.2.1 lv,fl.2.2)) /\ ∀e∈s.1,Sp.gd d x f (lv+1) e)
      (fun _ _ _ h _=>h) (by
       rintro a s a' s' hI hm hok2;unfold Sp.C7 at hm;split at hm
       ·cases hm
       ·rename_i w r2 fl2 hv;injection hm with hm;injection hm with h1 h2;subst h1;subst h2;obtain⟨hok3,hg⟩:=ih _ _ _ _ _ _ hv hok2;obtain⟨hb,hall⟩:=hI hok3;refine⟨hb,fun e he=>?_⟩;rcases List.mem_append.1 he with he|he
        ·exact hall e he
        ·rw[List.mem_singleton] at he;subst he;exact hg) (fun h=>⟨h,by simp⟩) h1
     injection h with h;injection h with h2 h3;injection h3 with h3 h4;subst h2;subst h4;obtain⟨hb,hall⟩:=hI hok;obtain⟨b1,b2⟩:=hbase hb (Int.le_refl _);exact⟨b1,b2,Or.inr (Or.inr (Or.inr (Or.inl ⟨es1,hall,rfl⟩)))⟩
   ·split at h
    ·split at h
     ·cases h
     ·rename_i s r1 h1;injection h with h;injection h with h2 h3;injection h3 with h3 h4;subst h2;subst h4;obtain⟨b1,b2⟩:=hbase hok (Int.le_refl _);exact⟨b1,b2,Or.inr (Or.inl ⟨s,Rd h1,rfl⟩)⟩
    ·split at h
     ·split at h
      ·cases h
      ·rename_i n r1 h1;injection h with h;injection h with h2 h3;injection h3 with h3 h4;subst h2;subst h4;obtain⟨b1,b2⟩:=hbase hok (by omega);have h5:max (max fl.2.2 n.2.2) (-n.2.2)<=x:=hok.2.2;exact⟨b1,b2,Or.inr (Or.inr (Or.inl ⟨n,TI h1,by omega,by omega,rfl⟩))⟩
     ·split at h
      ·cases h
      ·rename_i k r1 h1;injection h with h;injection h with h2 h3;injection h3 with h3 h4;subst h2;subst h4;obtain⟨b1,b2⟩:=hbase hok (Int.le_refl _);refine⟨b1,b2,Or.inl ⟨k,?_,rfl⟩⟩;have hk:∀ (ws:List Sp.By) (k0:Nat),Sp.Cv l k0 ws=some (k,r1)->k<k0+ws.length:=by
        intro ws;induction ws with
        | nil=>intro k0 h;cases h
        | cons w ws ihw =>
         intro k0 h;unfold Sp.Cv at h;split at h
         ·injection h with h;injection h with h1 h2;simp;omega
         ·have:=ihw _ h;simp;omega
       simpa[Sp.words] using hk _ _ h1
end
end Go.Proofs.YtdpomdelmdofmaaGreatDoor
