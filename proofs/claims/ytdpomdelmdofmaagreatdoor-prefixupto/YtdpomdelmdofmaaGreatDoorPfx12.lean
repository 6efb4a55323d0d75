import Derived.Test.YtdpomdelmdofmaaGreatDoorPfx11
import Derived.Lib.ItoaLen
open Go.Lib renaming trimLeftB->AI,encodeRune->AS,trimRightB->A4,decodeN->CR
open List renaming length_nil->AT,map_cons->A2,length_cons->A3,length_append->Bs,map_nil->CD,mem_cons->CH,eq_nil_of_length_eq_zero->CL,getD_cons_zero->C1,getD_cons_succ->C2,head?_dropWhile_not->Dp,not_mem_nil->DD,cons_append->D0,nil_append->D1,sum_cons->D2,map_map->D3
open Go.World renaming cell?->A1
open Nat renaming le_trans->A5,le_refl->E0
open Go.Proofs.Tryz renaming prog->A6
open Go.DataW renaming insert->BY,map->Dt
open Go.WideShapes renaming insert_perm->Ft
open Go renaming Calls->F1
open Go.Maps renaming size_eq->F2
open Prod renaming ext->F5
open Go.RowKit.Below renaming refl->G0
open List.Pairwise renaming nil->G1
set_option maxRecDepth 100000
set_option maxHeartbeats 8000000
namespace Go.Proofs.YtdpomdelmdofmaaGreatDoor
open Go.Proofs.Tryz Go.RowKit Go.Maps
variable{w:World}{g n B b f m vb:Nat}{F:Nat->Prop}{D:List (Lit×DataW Value)}{es:List (Lit×To)}{q0 s l r:By}
def SR(w:World)(g n:Nat)(ks:List By):Prop:=∃cur,w.heap[g]? = some (.cells cur 9 (0,0))/\cur.toList.take n=ks.map encStr
theorem SR.cell{ks:List By}(h:SR w g n ks)(k:Nat)(hk:k<ks.length):w.cell? ⟨g,k,none⟩=some (.string ⟨ks[k].toArray⟩):=by
 obtain⟨cur,hb,ht⟩:=h;have h1:(ks.map encStr)[k]? = some (.string ⟨ks[k].toArray⟩):=by simp[hk,encStr]
 rw[<- ht] at h1;have q0:k<n:=by
  have:=List.getElem?_eq_some_iff.1 h1 |>.1;simp at this;omega
 rw[List.getElem?_take_of_lt q0] at h1;simp[A1,hb];simpa using h1
theorem SR.fr{w':World}{ks:List By}(h:SR w g n ks)(hf:Fr B b w w')(hb:g≠b):SR w' g n ks:=by
 obtain⟨cur,h1,h2⟩:=h;exact⟨cur,hf.oth _ _ h1 hb (fun c e=>by injection e with _ e _;exact absurd e (by decide)),h2⟩
theorem V4{w':World}(hF:∀k,F k->k<B)(hm:F m)(ho:w.ownsMap A6 9 RV m n (.map D))(hp:Pt (Rep f F w) D es)(hb:Below B w w'):
  w'.ownsMap A6 9 RV m n (.map D)/\Pt (Rep f F w') D es:=⟨Aj ho (hb.block m (hF m hm)),hp.mono fun _ _ hr=>hr.low hF hb⟩
theorem YW{qo:By}(hV:NO f)(h:Bu B b qo w)(hF:∀k,F k->k<B)(hT:Af w)(qb:NG<=B)(hB:B<=w.heap.size)(hm:F m)(ho:w.ownsMap A6 9 RV m n (.map D))(hp:Pt (Rep f F w) D es)(hl:qo.length+(1+((Ax ((Zz es).map (ZI f es))).length+1))<=8796093022208):
  F1 A6 106 #[.pointer (some ⟨b,0,none⟩),.map (some m)] w fun e w'=>e=.returned (.tuple #[])/\Bu B b (qo++123::(Ax ((Zz es).map (ZI f es))++[125])) w'/\Fr B b w w':=by
 have zg:=Bw;have zc:=B0;have zt:=dI f es;have zx:=hp.len;have HO:=Ab (fun w' (hb:Below B w w')=>V4 hF hm ho hp hb);have zk:=Ab (fun k (hk:k∈Zz es)=>Rw ho hp hk);have zj:=Ab hp.keys;have z7:=h;clear ho hp
 go_enter func106,ntmps106
 go_wp2_with (fail);refine (Bo 123 _ rfl h (by omega) hB).mono ?_
 rintro e w1 ⟨rfl,h1,f1⟩;have zw:B<=w1.heap.size:=A5 hB f1.low.size
 go_wp2_with (fail);refine (callsIn_wide.1 (Tryz.maps_Keys_141 (some m) w1)).mono ?_
 rintro e w2 ⟨rfl,rfl⟩
 go_wp2_with (fail);refine (callsIn_wide.1 (Tryz.slices_Sorted_keys_140_141 m n (.map D) RV w1 (Aa HO w1 f1.low).1 (by rw[F2];unfold maxLen;omega) (by rw[F2];omega))).mono ?_
 rintro e w3 ⟨v,ss,rfl,q4,qj,qm,hb3⟩;have q5:Below w1.heap.size w1 w3:=((G0 _ w1).alloc (E0 _) _).trans (hb3.mono (by simp));have h3:=Bg h1 q5;have f3:Fr B b w w3:=f1.trans ⟨q5.mono zw,OKz.below q5⟩;have zq:B<=w3.heap.size:=A5 hB f3.low.size;have qp:ss.mergeSort (fun x y=>decide (x<=y))=Zz es:=by
  rw[mergeSort_of_perm q4,Aa zj];rfl
 have q6:ss.length=(Zz es).length:=by rw[<- qp,List.length_mergeSort]
 rw[qp] at qj;have zl:=Iw h1;have zv:(w1.alloc (.cells #[.map (some m)] 109)).heap.size=w1.heap.size+1:=by simp
 rcases qj with⟨zf,⟨rfl,zm⟩|⟨g,cap,cur,rfl,hg,z1,qd,qz,zr,htk⟩⟩
 ·have qi:Zz es=[]:=CL (by omega);have HE:=Ab qi;clear qp zf zm qm q4 h h1 f1 hb3 q5 qi q6 z7
  go_wp2_with (fail);refine wp_loop_rounds 1 ?_
  rw[rounds_succ]
  go_wp2_with (fail);refine (Bo 125 _ rfl h3 (by simp;omega) zq).mono ?_
  rintro e w4 ⟨rfl,h4,f4⟩
  go_wp2_with (fail)
  go_end0
  refine⟨rfl,?_,f3.trans f4⟩;rw[Aa HE];simpa[Ax] using h4
 ·have zn:SR w3 g (Zz es).length (Zz es):=⟨cur,z1,by rw[<- htk,q6];simp⟩
  have qg:g≠b:=by omega
  rw[q6] at qd |-;clear qp zf qm q4 h h1 f1 hb3 q5 z1 htk zr q6 z7;generalize qi:Zz es=ks at *;have y4:(ks.length:Int)<=9223372036854775807:=by unfold maxLen at qz;omega
  have zo:=Ab qi;clear qi
  go_wp2_with (fail)
  go_loopw [12] (fun i wr=>∃k:Nat,k<=ks.length/\i=.int .i64 k/\Bu B b (qo++123::Ax ((ks.map (ZI f es)).take k)) wr/\Fr B b w wr/\SR wr g ks.length ks) (fun i _=>ks.length-(intOf i).toNat)
  case atStart=>exact⟨0,by omega,rfl,by simpa[Ax] using h3,f3,zn⟩
  case round=>
   obtain⟨k,hk,rfl,z8,hf,qv⟩:=hrel;have qw:=Ab z8;have qf:B<=wr.heap.size:=A5 hB hf.low.size;have y3:=Dh (ks.map (ZI f es)) k;clear z8 h3 f3;by_cases hlt:k<ks.length
   ·have cc:=qv.cell k hlt;have zu:k<(ks.map (ZI f es)).length:=by simpa using hlt
    have qr:=Ab (JQ (ks.map (ZI f es)) k zu);have zs:=Dh (ks.map (ZI f es)) (k+1);have qt:(ks.map (ZI f es))[k]=ZI f es ks[k]:=by simp
    have q0:=congrArg List.length (Aa qr);rw[qt] at q0;simp only[Bs] at q0;have zy:=bD f es ks[k];have zz:=cW ks[k];have zi:=Aa zk ks[k] (List.getElem_mem hlt);have qx:=Ab zi
    have zb:=Ab qt;have za:=Ab qv;clear zi qt qv;generalize ks[k]=key at *;have qe:=(Aa qx).2;have ze:=Ab qe;clear qe;have z6:=hT.below (hf.low.mono qb);by_cases h0:0<k
    ·have e0:decide ((0:Int)<(k:Int))=true:=by simp;omega
     rw[if_pos h0] at q0;simp only[A3,AT] at q0
     go_wp2_with (fail);refine (Bo 44 _ rfl (Aa qw) (by simp;omega) qf).mono ?_
     rintro e w4 ⟨rfl,h4,f4⟩;have zh:B<=w4.heap.size:=A5 qf f4.low.size
     go_wp2_with (fail);refine (DZ key h4 (by simp;omega) zh).mono ?_
     rintro e w5 ⟨rfl,h5,f5⟩;have qn:B<=w5.heap.size:=A5 zh f5.low.size
     go_wp2_with (fail);refine (Bo 58 _ rfl h5 (by simp;omega) qn).mono ?_
     rintro e w6 ⟨rfl,h6,f6⟩;have qq:B<=w6.heap.size:=A5 qn f6.low.size;have qk:=(hf.trans f4).trans (f5.trans f6);have q9:=Aa HO w6 qk.low;obtain⟨x,px,qu,q8⟩:=q9.1.lookup zg underlying109 (zc w6) (zd:=.held (.pointer none)) (zp:=[]) rfl (Aa ze);obtain⟨y,qh,q7⟩:=Pt.look key q9.2 (Aa qx).1;rw[qh] at q8;obtain rfl:x=y:=by
      have:=congrArg (fun z=>z.map Prod.fst) q8;simp[RV] at this;exact this
     have HY:=Ab q7;obtain⟨bb,qy,_⟩:=q7.ptr;subst qy;clear q8 qh q7 q9
     go_wp2_with (fail);refine (hV B b _ _ (ZV es key) w6 F h6 (Aa HY) hF (z6.below (((f4.trans f5).trans f6).low.mono qb)) qb qq (by simp;omega)).mono ?_
     rintro e w7 ⟨rfl,h7,f7⟩
     go_wp2_with (fail)
     go_roundw
     case rel=>exact⟨k+1,by omega,by go_num,by rw[Aa qr,if_pos h0,Aa zb];simpa[ZI] using h7,qk.trans f7,(Aa za).fr (((f4.trans f5).trans f6).trans f7) qg⟩
     case measure=>simp[intOf];omega
    ·have e0:decide ((0:Int)<(k:Int))=false:=by simp;omega
     rw[if_neg h0] at q0;simp only[AT] at q0
     go_wp2_with (fail);refine (DZ key (Aa qw) (by simp;omega) qf).mono ?_
     rintro e w5 ⟨rfl,h5,f5⟩;have qn:B<=w5.heap.size:=A5 qf f5.low.size
     go_wp2_with (fail);refine (Bo 58 _ rfl h5 (by simp;omega) qn).mono ?_
     rintro e w6 ⟨rfl,h6,f6⟩;have qq:B<=w6.heap.size:=A5 qn f6.low.size;have qk:=hf.trans (f5.trans f6);have q9:=Aa HO w6 qk.low;obtain⟨x,px,qu,q8⟩:=q9.1.lookup zg underlying109 (zc w6) (zd:=.held (.pointer none)) (zp:=[]) rfl (Aa ze);obtain⟨y,qh,q7⟩:=Pt.look key q9.2 (Aa qx).1;rw[qh] at q8;obtain rfl:x=y:=by
      have:=congrArg (fun z=>z.map Prod.fst) q8;simp[RV] at this;exact this
     have HY:=Ab q7;obtain⟨bb,qy,_⟩:=q7.ptr;subst qy;clear q8 qh q7 q9
     go_wp2_with (fail);refine (hV B b _ _ (ZV es key) w6 F h6 (Aa HY) hF (z6.below ((f5.trans f6).low.mono qb)) qb qq (by simp;omega)).mono ?_
     rintro e w7 ⟨rfl,h7,f7⟩
     go_wp2_with (fail)
     go_roundw
     case rel=>exact⟨k+1,by omega,by go_num,by rw[Aa qr,if_neg h0,Aa zb];simpa[ZI] using h7,qk.trans f7,(Aa za).fr ((f5.trans f6).trans f7) qg⟩
     case measure=>simp[intOf];omega
   ·go_wp2_with (fail);refine (Bo 125 _ rfl (Aa qw) (by simp;omega) qf).mono ?_
    rintro e w4 ⟨rfl,h4,f4⟩
    go_wp2_with (fail)
    go_end0
    refine⟨rfl,?_,hf.trans f4⟩;rw[List.take_of_length_le (by simp;omega)] at h4;rw[Aa zo];simpa using h4
section
variable{w:World}{b:Nat}{k:Int}{n:Nm}{s:By}{sl mp:Value}
theorem VB.c0(h:VB w b k n s sl mp):w.cell? ⟨b,0,none⟩=some (.int .i64 k):=by simp[A1,show w.heap[b]? = _ from h]
theorem VB.c1(h:VB w b k n s sl mp):w.cell? ⟨b,1,none⟩=some (.bool n.1):=by simp[A1,show w.heap[b]? = _ from h]
theorem VB.c2(h:VB w b k n s sl mp):w.cell? ⟨b,2,none⟩=some (.string ⟨n.2.1.toArray⟩):=by simp[A1,show w.heap[b]? = _ from h]
theorem VB.c3(h:VB w b k n s sl mp):w.cell? ⟨b,3,none⟩=some (.int .i64 n.2.2):=by simp[A1,show w.heap[b]? = _ from h]
theorem VB.c4(h:VB w b k n s sl mp):w.cell? ⟨b,4,none⟩=some (.string ⟨s.toArray⟩):=by simp[A1,show w.heap[b]? = _ from h]
theorem VB.c5(h:VB w b k n s sl mp):w.cell? ⟨b,5,none⟩=some sl:=by simp[A1,show w.heap[b]? = _ from h]
theorem VB.c6(h:VB w b k n s sl mp):w.cell? ⟨b,6,none⟩=some mp:=by simp[A1,show w.heap[b]? = _ from h]
end
theorem Af.word(h:Af w)(k:Nat)(hk:k<3):w.cell? ⟨0,k,none⟩=some (.string ⟨(Cz k).toArray⟩):=by
 obtain⟨t,fr,e⟩:=h.words
 match k,hk with
 | 0,_=>simp[A1,e,Cq,Cz,aK]
 | 1,_=>simp[A1,e,Cq,Cz,aK]
 | 2,_=>simp[A1,e,Cq,Cz,aK]
theorem QO{k:Nat}(h:Bu B b q0 w)(hk:k<3)(hvb:VB w vb k n0 [] (.slice none 0 0) (.map none))(hT:Af w)(hB:B<=w.heap.size)(hl:q0.length+5<=8796093022210):
  F1 A6 78 #[.pointer (some ⟨b,0,none⟩),.pointer (some ⟨vb,0,none⟩)] w fun e w'=>e=.returned (.tuple #[])/\Bu B b (q0++Cz k) w'/\Fr B b w w':=by
 have c0:=hvb.c0;have cw:=hT.word k hk;have q4:=G4 k hk;clear hT hvb;have e3:((k:Int)==3)=false:=by simp;omega
 have e4:((k:Int)==4)=false:=by simp;omega
 have e5:((k:Int)==5)=false:=by simp;omega
 have e6:((k:Int)==6)=false:=by simp;omega
 generalize Cz k=wk at *
 go_enter func78,ntmps78
 go_wp2_with (fail);refine (Fd wk h (by omega) hB).mono ?_
 rintro e w1 ⟨rfl,h1,f1⟩
 go_wp2_with (fail)
 go_end0
 exact⟨rfl,h1,f1⟩
theorem Tn{n:Nm}(h:Bu B b q0 w)(hvb:VB w vb 3 n [] (.slice none 0 0) (.map none))(hT:Af w)(q4:NG<=B)(hB:B<=w.heap.size)(h0:-100000000<=n.2.2)(h1:n.2.2<=100000000)(hl:q0.length+(BB n).length<=8796093022208):
  F1 A6 78 #[.pointer (some ⟨b,0,none⟩),.pointer (some ⟨vb,0,none⟩)] w fun e w'=>e=.returned (.tuple #[])/\Bu B b (q0++BB n) w'/\Fr B b w w':=by
 have c0:=hvb.c0;have c1:=hvb.c1;have c2:=hvb.c2;have c3:=hvb.c3;clear hvb
 go_enter func78,ntmps78
 go_wp2_with (fail);refine (Jn n h (by omega) hB hT q4 h0 h1).mono ?_
 rintro e w1 ⟨rfl,h1,f1⟩
 go_wp2_with (fail)
 go_end0
 exact⟨rfl,h1,f1⟩
theorem Tl(h:Bu B b q0 w)(hvb:VB w vb 4 n0 s (.slice none 0 0) (.map none))(hB:B<=w.heap.size)(hl:q0.length+(Ag s).length<=8796093022208):
  F1 A6 78 #[.pointer (some ⟨b,0,none⟩),.pointer (some ⟨vb,0,none⟩)] w fun e w'=>e=.returned (.tuple #[])/\Bu B b (q0++Ag s) w'/\Fr B b w w':=by
 have c0:=hvb.c0;have c4:=hvb.c4;have hq:=cW s;clear hvb
 go_enter func78,ntmps78
 go_wp2_with (fail);refine (DZ s h (by omega) hB).mono ?_
 rintro e w1 ⟨rfl,h1,f1⟩
 go_wp2_with (fail)
 go_end0
 exact⟨rfl,h1,f1⟩
theorem Tp{sl:Value}{ps:List Value}{es:List To}{q5:By}(hV:NO f)(h:Bu B b q5 w)(hF:∀k,F k->k<B)(hvb:VB w vb 5 n0 [] sl (.map none))(hT:Af w)(q8:NG<=B)(hB:B<=w.heap.size)(ho:w.ownsRow 0 80 1 sl ps.length ps)(hs:∀g,sl.ownBlock=some g->F g)(ha:Al (Rep f F w) ps es)(hl:q5.length+(1+((Ax (es.map (Zm f))).length+1))<=8796093022208):
  F1 A6 78 #[.pointer (some ⟨b,0,none⟩),.pointer (some ⟨vb,0,none⟩)] w fun e w'=>e=.returned (.tuple #[])/\Bu B b (q5++91::(Ax (es.map (Zm f))++[93])) w'/\Fr B b w w':=by
 have c0:=hvb.c0;have c5:=hvb.c5;have hal:=ha.length;clear hvb;rcases ho.2 with⟨rfl,hn⟩|⟨g,cap,cur,rfl,hg,qb,q0,q6,qd,htk⟩
 ·have q9:es=[]:=CL (by omega);subst q9;clear ho hs ha hal hn
  go_enter func78,ntmps78
  go_wp2_with (fail);refine (Tq h hB (by omega)).mono ?_
  rintro e w1 ⟨rfl,h1,f1⟩
  go_wp2_with (fail)
  go_end0
  exact⟨rfl,h1,f1⟩
 ·have q4:∀k (h:k<ps.length),w.cell? ⟨g,k,none⟩=some ps[k]:=by
   intro k hk;have:=ho.cellAt k (by omega);rw[this];simp[hk]
  have qf:=hF g (hs g rfl);have HL:=Ab hl;clear ho hs hal qb qd htk hl;generalize q7:ps.length=np at c5 q0;have qe:=Ab q7;clear q7
  go_enter func78,ntmps78
  go_wp2_with (fail);refine (QP hV h hF hT q8 hB (Aa qe).symm q0 q6 q4 qf ha (Aa HL)).mono ?_
  rintro e w1 ⟨rfl,h1,f1⟩
  go_wp2_with (fail)
  go_end0
  exact⟨rfl,h1,f1⟩
theorem Tm(hV:NO f)(h:Bu B b q0 w)(hF:∀k,F k->k<B)(hvb:VB w vb 6 n0 [] (.slice none 0 0) (.map (some m)))(hT:Af w)(q4:NG<=B)(hB:B<=w.heap.size)(hm:F m)(ho:w.ownsMap A6 9 RV m n (.map D))(hp:Pt (Rep f F w) D es)(hl:q0.length+(1+((Ax ((Zz es).map (ZI f es))).length+1))<=8796093022208):
  F1 A6 78 #[.pointer (some ⟨b,0,none⟩),.pointer (some ⟨vb,0,none⟩)] w fun e w'=>e=.returned (.tuple #[])/\Bu B b (q0++123::(Ax ((Zz es).map (ZI f es))++[125])) w'/\Fr B b w w':=by
 have c0:=hvb.c0;have c6:=hvb.c6;have HL:=Ab hl;clear hvb hl
 go_enter func78,ntmps78
 go_wp2_with (fail);refine (YW hV h hF hT q4 hB hm ho hp (Aa HL)).mono ?_
 rintro e w1 ⟨rfl,h1,f1⟩
 go_wp2_with (fail)
 go_end0
 exact⟨rfl,h1,f1⟩
theorem Yf:∀f,NO f:=by
 intro f;induction f with
 | zero=>intro B b q4 v d w F _ hr;exact hr.elim
 | succ f ih=>
  intro B b q4 v d w F h hr hF hT q0 hB hl;obtain⟨vb,rfl,hb,hr⟩:=hr;rcases hr with⟨k,hk,rfl,hvb⟩|⟨n,rfl,hvb,q6,q5⟩|⟨s,rfl,hvb⟩|⟨es,sl,ps,rfl,hvb,ho,hs,ha⟩|⟨es,m,n,D,rfl,hvb,hm,ho,hp⟩
  ·rw[NH] at hl |-;have hw:4<=(Cz k).length:=by
    match k,hk with
    | 0,_=>decide
    | 1,_=>decide
    | 2,_=>decide
   exact QO h hk hvb hT hB (by have:=G4 k hk;unfold Cz at *; omega)
  ·rw[Po] at hl |-;exact Tn h hvb hT q0 hB q6 q5 hl
  ·rw[KC] at hl |-;exact Tl h hvb hB hl
  ·rw[Dj] at hl |-;refine Tp ih h hF hvb hT q0 hB ho hs ha ?_;simp only[A3,Bs,AT] at hl;omega
  ·rw[dF] at hl |-;refine Tm ih h hF hvb hT q0 hB hm ho hp ?_;simp only[A3,Bs,AT] at hl;omega
theorem CT{v:Value}{d:To}(hr:Rep f F w v d)(hT:Af w)(hl:(Zm f d).length<=8796093022208):
  F1 A6 55 #[v] w fun e w'=>e=.returned (.string ⟨(Zm f d).toArray⟩)/\Below w.heap.size w w':=by
 have hF:Rep f (fun k=>k<w.heap.size) w v d:=hr.move fun k _ h2=>⟨rfl,h2⟩
 obtain⟨vb,rfl,hlt,_⟩:=hr.ptr;have q0:=(G0 w.heap.size w).alloc (E0 _) (.cells #[.pointer none,.slice none 0 0] 119);have h0:Bu w.heap.size w.heap.size [] (w.alloc (.cells #[.pointer none,.slice none 0 0] 119)):=Or.inl ⟨E0 _,.slice none 0 0,by show (w.heap.push _)[w.heap.size]? = _;simp,World.ownsRow_nil _ _ _ _,by simp[Value.ownBlock]⟩;have q6:=hF.low (fun k hk=>hk) q0;have q5:=hT.below (q0.mono hT.ng);have q4:=hT.ng;clear hr hF hT
 go_enter func55,ntmps55
 go_wp2_with (fail);refine (Yf f w.heap.size w.heap.size [] _ d _ _ h0 q6 (fun k hk=>hk) q5 q4 (by simp) (by simpa using hl)).mono ?_
 rintro e w1 ⟨rfl,h1,f1⟩
 go_wp2_with (fail);refine (Tryz.Builder_String_any w.heap.size w.heap.size _ w1 h1 (by have:=f1.low.size;simp at this;omega)).mono ?_
 rintro e w2 ⟨rfl,hb2⟩
 go_wp2_with (fail)
 go_ret;exact⟨by simp,(q0.trans f1.low).trans hb2⟩
theorem Wt{σ:Type}(cl:UInt8)(item:By->σ->Option (By×σ))(I:By->σ->Prop)(hm:∀l l' s,I l s->l'.length<=l.length->I l' s)(hi:∀l s l' s',I l s->item l s=some (l',s')->I l' s')(n:Nat):
  ∀ (l:By) (s:σ) (r:By) (s':σ),I l s->Z7 cl item n l s=some (r,s')->I r s':=by
 induction n with
 | zero=>intro l s r s' _ h;cases h
 | succ n ih=>
  intro l s r s' hI h;unfold Z7 at h;split at h
  ·cases h
  ·rename_i l1 s1 h1;have h2:=hi _ _ _ _ (hm _ _ _ hI (Bb l)) h1;have c:=Bb l1
   grind
theorem E1{σ:Type}{op cl:UInt8}{item:By->σ->Option (By×σ)}(I:By->σ->Prop)(hm:∀l l' s,I l s->l'.length<=l.length->I l' s)(hi:∀l s l' s',I l s->item l s=some (l',s')->I l' s'){s:σ}{s':σ}(hI:I l.tail s)(h:Bq op cl item l s=some (r,s')):I r s'/\0<l.length:=by
 unfold Bq at h;split at h
 ·rename_i k;have:=BH k;have b:=Bb l.tail;split at h
  ·grind
  ·exact⟨Wt cl item I hm hi _ _ _ _ _ (hm _ _ _ hI b) h,by omega⟩
 ·cases h
theorem XA{n:Nm}(h:Zw l=some (n,r)):n.2.1.length+r.length<=l.length:=by
 have hf:∀ {l:By} {n r},BJ l=some (n,r)->r.length<=l.length:=by
  intro l n r h;unfold BJ at h;have a:=B9 l.tail;have b:=B9 l.tail.tail
  grind
 have hb:∀ {b:Bool} {l:By} {n r},BN b l=some (n,r)->n.2.1.length+r.length<=l.length:=by
  intro b l n r h;unfold BN at h;have a:=B9 l;split at h
  ·cases h
  ·split at h
   ·cases h
   ·rename_i f r1 h1;have:=DO h1;split at h
    ·cases h
    ·rename_i e r2 h2;have:=hf h2;injection h with h;injection h with h3 h4;subst h4;subst h3;have h5:(Cv b (dg l++f) (e-f.length)).2.1.length<=(dg l++f).length:=by
      unfold Cv;have h1:=G8 (dg l++f) 48;have h2:=G7 (AI (dg l++f) 48) 48
      grind
     grind
 unfold Zw at h
 grind
theorem En(s:By):(Ag s).length<=6*s.length+2:=by
 have:=Jb s;simp[Ag];omega
theorem Rh(h:aE l=some (s,r)):s.length+4*r.length+4<=4*l.length:=by
 unfold aE at h;split at h
 ·rename_i k;have:=BH k;have:=Pn _ _ _ _ h;omega
 ·cases h
theorem Ln(l:List By):(BL l).length=(l.map fun x=>x.length+1).sum:=by
 induction l with
 | nil=>rfl
 | cons x r ih=>simp[BL,ih];omega
theorem EJ(l:List By):(Ax l).length<=(l.map fun x=>x.length+1).sum:=by
 cases l with
 | nil=>simp[Ax]
 | cons x r=>simp[Ax,Ln]
def ent(g:Nat)(p:Lit×To):Nat:=(Ag (strOf p.1)).length+(Zm g p.2).length+2
def C8(g:Nat)(es:List (Lit×To)):Nat:=(es.map (ent g)).sum
theorem Ol(g:Nat)(x:Lit×To)(l:List (Lit×To)):C8 g (BY x l)=ent g x+C8 g l:=by
 induction l with
 | nil=>rfl
 | cons y r ih=>
  unfold BY;split
  ·rfl
  ·simp only[C8,A2,D2] at ih |-; omega
theorem On(g:Nat)(c:Lit×To->Bool)(l:List (Lit×To)):C8 g (l.filter c)<=C8 g l:=by
 induction l with
 | nil=>simp
 | cons y r ih=>
  rw[List.filter_cons];split
  ·simp only[C8,A2,D2] at ih |-; omega
  ·simp only[C8,A2,D2] at ih |-; omega
def QH(g C:Nat)(l:By)(v:To):Prop:=∃es,v=.map es/\es.Pairwise (fun p q=>p.1≠q.1)/\(∀p∈es,∃x,p.1=.string x)/\C8 g es+40*l.length<=C
theorem OZ(hp:es.Pairwise (fun p q=>p.1≠q.1))(hk:∀p∈es,∃x,p.1=.string x):
  (Ax ((Zz es).map (ZI g es))).length<=C8 g es:=by
 refine A5 (EJ _) ?_;rw[D3];have h1:((Zz es).map ((fun x=>x.length+1) ∘ ZI g es)).Perm ((ZJ es).map ((fun x=>x.length+1) ∘ ZI g es)):=(List.mergeSort_perm _ _).map _;rw[h1.sum_nat];unfold ZJ C8;rw[D3];apply Nat.le_of_eq;congr 1;apply List.map_congr_left;intro p q0;obtain⟨x,hx⟩:=hk p q0;have h2:ZV es x=p.2:=by
  unfold ZV;exact WideAt.atKey_mem .nil trivial hp (by grind)
 obtain⟨k,v⟩:=p;simp only at hx h2;subst hx;simp only[Function.comp,ent,strOf];rw[bD,h2];omega
theorem QH.put{C:Nat}{l' k:By}{v d:To}(h:QH g C l v)(he:(Ag k).length+(Zm g d).length+2+40*l'.length<=40*l.length):QH g C l' (DataW.put v (.string k) d):=by
 obtain⟨es,rfl,hp,hk,hs⟩:=h;obtain⟨es',e1,q4⟩:=Tidy.put (D:=Dt es) (k:=.string k) ⟨es,rfl,hp⟩ trivial d;refine⟨es',e1,q4,?_,?_⟩
 ·have e2:es'=BY (.string k,d) (es.filter fun p=>!p.1.sameKey (.string k)):=by
   have:Dt (BY (.string k,d) (es.filter fun p=>!p.1.sameKey (.string k)))=Dt es':=e1
   grind
  intro p q0;rw[e2] at q0;rcases CH.1 ((Ft _ _).mem_iff.1 q0) with rfl|h2
  ·grind
  grind
 ·have e2:es'=BY (.string k,d) (es.filter fun p=>!p.1.sameKey (.string k)):=by
   have:Dt (BY (.string k,d) (es.filter fun p=>!p.1.sameKey (.string k)))=Dt es':=e1
   grind
  rw[e2,Ol];have h4:C8 g (es.filter fun p=>!p.1.sameKey (.string k))<=C8 g es:=On g _ es;show ent g (.string k,d)+C8 g (es.filter fun p=>!p.1.sameKey (.string k))+40*l'.length<=C;have h3:ent g (.string k,d)=(Ag k).length+(Zm g d).length+2:=rfl;omega
theorem QL(k:Nat):(aK.getD k []).length<=5:=by
 match k with
 | 0=>decide
 | 1=>decide
 | 2=>decide
 | k+3=>simp[aK]
theorem Xa(f:Nat):∀ (lv:Int) (l:By) (fl:Fl) (v:To) (r:By) (fl':Fl),l.length<=2000->ZD f lv l fl=some (v,r,fl') -> ∀g,(Zm g v).length+2+40*r.length<=40*l.length:=by
 induction f with
 | zero=>intro lv l fl v r fl' _ h;cases h
 | succ f ih=>
  intro lv l fl v r fl' hl h g;have q5:=E4 _ _ _ _ _ _ _ h;cases g with
  | zero=>simp[Zm];omega
  | succ g=>
   unfold ZD at h;split at h
   ·split at h
    ·cases h
    ·rename_i h1;have hI:=E1 (σ:=To×Fl) (fun m s=>QH g (40*l.tail.length) m s.1/\m.length<=2000) (fun a b s ⟨⟨es,e1,e2,e3,e4⟩,e5⟩ hab=>⟨⟨es,e1,e2,e3,by omega⟩,by omega⟩) (by
      rintro a s a' s' ⟨ho,ha⟩ hm;unfold CM at hm;split at hm
      ·cases hm
      ·rename_i k l1 hq;have q1:=Rh hq;have q2:=En k;have b:=Bb l1;split at hm
       ·rename_i htk;have ht:=BH htk;have c:=Bb (Zu l1).tail;split at hm
        ·cases hm
        ·rename_i d r2 q6 hv;have hc:=ih _ _ _ _ _ _ (by omega) hv g;injection hm with hm;injection hm with h1 h2;subst h1;subst h2;exact⟨ho.put (by omega),by omega⟩
       ·cases hm) ⟨⟨[],rfl,G1,by simp,by simp[C8]⟩,by grind⟩ h1
     obtain⟨⟨⟨es,e1,e2,e3,e4⟩,e5⟩,hpos⟩:=hI;injection h with h;injection h with h2 h3;injection h3 with h3 h4;subst h2;subst h3;rename_i v2 _ _ _;simp only at e1;subst e1;have h9:=OZ (g:=g) e2 e3;have e6:Zm (g+1) (Dt es)=123::(Ax ((Zz es).map (ZI g es))++[125]):=rfl
     grind
   ·split at h
    ·split at h
     ·cases h
     ·rename_i h1;have hI:=E1 (σ:=List To×Fl) (fun m s=>(s.1.map fun v=>(Zm g v).length+1).sum+40*m.length<=40*l.tail.length/\m.length<=2000) (by omega) (by
       rintro a s a' s' ⟨ho,ha⟩ hm;unfold Dr at hm;split at hm
       ·cases hm
       ·rename_i d r2 q6 hv;have hc:=ih _ _ _ _ _ _ ha hv g
        grind) (by grind) h1
      obtain⟨⟨e4,e5⟩,hpos⟩:=hI;injection h with h;injection h with h2 h3;injection h3 with h3 h4;subst h2;subst h3;rw[Dj];rename_i q0 _;have h9:=EJ (q0.map (Zm g));rw[D3] at h9;have:=List.length_tail (l:=l);simp only[A3,Bs,AT];simp only[Function.comp_def] at h9
      grind
    ·split at h
     ·split at h
      ·cases h
      ·rename_i s r1 h1;have q1:=Rh h1;have q2:=En s;injection h with h;injection h with h2 h3;injection h3 with h3 h4;subst h2;subst h3;rw[KC];omega
     ·split at h
      ·split at h
       ·cases h
       ·rename_i n r1 h1;have q1:=XA h1;have q2:=Ho h1 hl;have q3:=TW n;have q4:=Lib.itoa_length_le n.2.2 (by omega) (by omega);injection h with h;injection h with h2 h3;injection h3 with h3 h4;subst h2;subst h3;rw[Po];omega
      ·split at h
       ·cases h
       ·rename_i k r1 h1;injection h with h;injection h with h2 h3;injection h3 with h3 h4;subst h2;subst h3;rw[NH];have:=QL k;omega
theorem F9{t:By}{d x:Int}{v:To}(h:Zy t d x=(0,some v))(g:Nat):(Zm g v).length<=80000:=by
 unfold Zy at h;split at h
 ·grind
 ·rename_i hl;have hs:=Bb t;split at h
  ·grind
  ·rename_i v2 r fl hv;have hb:=Xa _ _ _ _ _ _ _ (by omega) hv g
   grind
def Sc(c:Nat):Prop:=c<55296\/(57344<=c/\c<=1114111)
abbrev ZY(c:Nat):By:=AS (c:Int)
def Ut(s:By):Prop:=∃cs:List Nat,(∀c∈cs,Sc c)/\s=cs.flatMap ZY
theorem VQ(h:DG l=some (m,r)):Sc m:=by
 unfold DG at h;split at h
 ·cases h
 ·rename_i a r1 hx;have h2:=LY hx;unfold Sc
  grind
theorem UC(l:By)(T:List (UInt8×Nat))(hT:∀x∈T,x.2<55296)(h:D8 l T=some (m,r)):Sc m:=by
 induction T with
 | nil=>cases h
 | cons x T ih=>
  obtain⟨c,n⟩:=x;rw[D8] at h;split at h
  ·injection h with h;injection h with h1 h2;have:=hT (c,n) (by simp);exact Or.inl (by omega)
  grind
theorem GM(l:By)(h:l≠[]):ZU l=CR l.length (l.getD 0 0).toNat (l.getD 1 0).toNat (l.getD 2 0).toNat (l.getD 3 0).toNat:=by
 unfold ZU;rw[if_neg (by grind),Lib.decode_at];have hg:∀i,(ByteArray.mk l.toArray).get! i=l.getD i 0:=by
  intro i;simp[ByteArray.get!,List.getD,Array.getElem!_eq_getD,Array.getD];split
  ·grind
  ·rename_i hi;rw[List.getElem?_eq_none (by omega)];rfl
 rw[hg,hg,hg,hg];rfl
theorem WS(n a b c d:Nat):Sc (CR n a b c d).1:=by
 grind [Sc,CR]
theorem XW(l:By):Sc (ZU l).1:=by
 by_cases h:l=[]
 ·subst h;exact Or.inr ⟨by decide,by decide⟩
 ·rw[GM l h];exact WS _ _ _ _ _
theorem XY(h:Z5 l=some (m,r)):Sc m:=by
 unfold Z5 at h;split at h
 ·unfold aW at h;split at h
  ·exact VQ h
  ·exact UC _ FX (by decide) h
 ·split at h
  ·cases h
  ·injection h with h;injection h with h1 h2;rw[<- h1];exact XW l
theorem WW(f:Nat):∀ (l s r:By),Db f l=some (s,r)->Ut s:=by
 induction f with
 | zero=>intro l s r h;cases h
 | succ f ih=>
  intro l s r h;unfold Db at h;split at h
  ·injection h with h;injection h with h1 h2;subst h1;exact⟨[],by simp,rfl⟩
  ·split at h
   ·cases h
   ·rename_i c r1 hc;split at h
    ·cases h
    ·rename_i s1 r2 hx;obtain⟨cs,h1,h2⟩:=ih _ _ _ hx;injection h with h;injection h with h3 h4;subst h3;exact⟨c::cs,by
      intro x hm;rcases CH.1 hm with rfl|hm
      ·exact XY hc
      grind,by grind⟩
theorem Rg(h:aE l=some (s,r)):Ut s:=by
 unfold aE at h;split at h
 ·exact WW _ _ _ _ h
 ·cases h
theorem Gm(c:Nat)(h:c<128):AS (c:Int)=[UInt8.ofNat c]:=by
 rw[AS,Lib.encodeRuneZ_one (by omega) (by omega)];simp
theorem Np(c:Nat)(h:128<=c)(hc:Sc c)(l:By):(∀x∈AS (c:Int),128<=x.toNat)/\ZU (AS (c:Int)++l)=(c,(AS (c:Int)).length)/\2<=(AS (c:Int)).length:=by
 unfold Sc at hc;have hn:∀z:Int,0<=z->z<256->(z.toNat.toUInt8).toNat=z.toNat:=by
  intro z h0 h1;simp;omega
 by_cases h2:c<=2047
 ·rw[AS,Lib.encodeRuneZ_two (by omega) (by omega)];have a1:=hn (192+(c:Int) / 64) (by omega) (by omega);have a2:=hn (128+(c:Int) % 64) (by omega) (by omega);refine⟨?_,?_,by simp⟩
  ·intro x hx;simp only[A2,CD,CH,DD,or_false] at hx;rcases hx with rfl|rfl
   ·rw[a1];omega
   ·rw[a2];omega
  ·rw[GM _ (by simp)];simp only[A2,CD,D0,D1,C1,C2,a1,a2,A3,AT];unfold CR
   repeat' split
   all_goals first|(exfalso;omega)|(apply F5<;>simp only<;>omega)
 ·by_cases h3:c<=65535
  ·rw[AS,Lib.encodeRuneZ_three (by omega)];have a1:=hn (224+(c:Int) / 4096) (by omega) (by omega);have a2:=hn (128+(c:Int) / 64 % 64) (by omega) (by omega);have a3:=hn (128+(c:Int) % 64) (by omega) (by omega);refine⟨?_,?_,by simp⟩
   ·intro x hx;simp only[A2,CD,CH,DD,or_false] at hx;rcases hx with rfl|rfl|rfl
    ·rw[a1];omega
    ·rw[a2];omega
    ·rw[a3];omega
   ·rw[GM _ (by simp)];simp only[A2,CD,D0,D1,C1,C2,a1,a2,a3,A3,AT];unfold CR
    repeat' split
    all_goals first|(exfalso;omega)|(apply F5<;>simp only<;>omega)
  ·rw[AS,Lib.encodeRuneZ_four (by omega) (by omega)];have a1:=hn (240+(c:Int) / 262144) (by omega) (by omega);have a2:=hn (128+(c:Int) / 4096 % 64) (by omega) (by omega);have a3:=hn (128+(c:Int) / 64 % 64) (by omega) (by omega);have a4:=hn (128+(c:Int) % 64) (by omega) (by omega);refine⟨?_,?_,by simp⟩
   ·intro x hx;simp only[A2,CD,CH,DD,or_false] at hx;rcases hx with rfl|rfl|rfl|rfl
    ·rw[a1];omega
    ·rw[a2];omega
    ·rw[a3];omega
    ·rw[a4];omega
   ·rw[GM _ (by simp)];simp only[A2,CD,D0,D1,C1,C2,a1,a2,a3,a4,A3,AT];unfold CR
    repeat' split
    all_goals first|(exfalso;omega)|(apply F5<;>simp only<;>omega)
theorem Yk(c d:UInt8)(l:By):Zn (c::l) d=(c==d):=rfl
def Gn(n:Nm):Prop:=n=(false,[],0)\/(n.2.1≠[]/\(∀c∈n.2.1,aN c=true)/\n.2.1.head? ≠ some 48/\n.2.1.getLast? ≠ some 48)
def Nd(r:By):Prop:=∀c t,r=c::t->aN c=false/\c≠46/\c≠101/\c≠69
theorem SJ(l:By):∀c∈dg l,aN c=true:=by
 induction l with
 | nil=>intro c h;cases h
 | cons d r ih=>
  intro c h;unfold dg at h
  grind
theorem QW(ds:By)(hd:∀c∈ds,aN c=true)(hw:A4 (AI ds 48) 48≠[]):
  (∀c∈A4 (AI ds 48) 48,aN c=true)/\(A4 (AI ds 48) 48).head? ≠ some 48/\(A4 (AI ds 48) 48).getLast? ≠ some 48:=by
 have q5:∀c∈AI ds 48,c∈ds:=fun c h=>(List.dropWhile_sublist _).subset h;have q0:A4 (AI ds 48) 48 <+: AI ds 48:=by
  unfold A4;have:=List.dropWhile_suffix (l:=(AI ds 48).reverse) (·==48)
  grind
 refine⟨by grind,?_,?_⟩
 ·have h1:(A4 (AI ds 48) 48).head? = (AI ds 48).head?:=by
   obtain⟨t,ht⟩:=q0;have q4:∀ (A B:By),A≠[]->A.head? = (A++B).head?:=by
    intro A B hA;cases A with
    | nil=>grind
    | cons a b=>rfl
   grind
  rw[h1];have:=Dp (·==(48:UInt8)) ds
  intro k;unfold AI at k
  grind
 ·intro k;unfold A4 at k;rw[List.getLast?_reverse] at k;have:=Dp (·==(48:UInt8)) (AI ds 48).reverse
  grind
theorem RI(ng:Bool)(ds:By)(e:Int)(hd:∀c∈ds,aN c=true):Gn (Cv ng ds e):=by
 unfold Cv;simp only;split
 ·exact Or.inl rfl
 ·rename_i hw;exact Or.inr ⟨hw,QW ds hd hw⟩
theorem Le{ng:Bool}{n:Nm}(h:BN ng l=some (n,r)):Gn n:=by
 unfold BN at h;split at h
 ·cases h
 ·split at h
  ·cases h
  ·rename_i f r1 hf;split at h
   ·cases h
   ·injection h with h;injection h with h1 h2;rw[<- h1];apply RI;intro c hc;rcases List.mem_append.1 hc with hc|hc
    ·exact SJ _ c hc
    ·unfold BP at hf;split at hf
     ·split at hf
      ·cases hf
      ·injection hf with hf;injection hf with h3 h4;rw[<- h3] at hc;exact SJ _ c hc
     grind
theorem TV{n:Nm}(h:Zw l=some (n,r)):Gn n:=by
 unfold Zw at h;split at h
 ·exact Le h
 ·exact Le h
end Go.Proofs.YtdpomdelmdofmaaGreatDoor
