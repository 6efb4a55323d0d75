/-
  A token's text: a byte of it, escaped.
-/
import Derived.Test.YtdpomdelmdofmaaGreatDoorMrg37
import Derived.Test.YtdpomdelmdofmaaGreatDoorMrg10
import Derived.Test.YtdpomdelmdofmaaGreatDoorMrg29
import Derived.Test.YtdpomdelmdofmaaGreatDoorMrg11
import Derived.Test.YtdpomdelmdofmaaGreatDoorMrg36
import Derived.Test.YtdpomdelmdofmaaGreatDoorMrg27
import Derived.Test.YtdpomdelmdofmaaGreatDoorMrg25
namespace Go.Proofs.YtdpomdelmdofmaaGreatDoor
section
set_option maxRecDepth 100000
set_option maxHeartbeats 2000000
open Go.RowKit
theorem BAt_bel {B b:Nat} {p:Value} {bs:List Value} {w w':World} (h:Lib.BuilderAt 119 5 B b p bs w) (hb:Below w.heap.size w w'):Lib.BuilderAt 119 5 B b p bs w':=by
 obtain⟨hB,v,hv,hown,hne⟩:=h
 refine⟨hB,v,(hb.block b (Array.getElem?_eq_some_iff.1 hv).1).trans hv,?_,hne⟩
 refine⟨hown.1,hown.2.imp id ?_⟩
 rintro⟨g,cap,cur,h1,h2,h3,h4⟩
 exact⟨g,cap,cur,h1,h2,(hb.block g (Array.getElem?_eq_some_iff.1 h3).1).trans h3,h4⟩
theorem Bu_bel {B b:Nat} {l:Sp.By} {w w':World} (h:Bu B b l w) (hb:Below w.heap.size w w'):Bu B b l w':=Or.imp (fun h=>BAt_bel h hb) (fun h=>BAt_bel h hb) h
theorem escT1_hit {j:Nat} (hj:j<2) {c:UInt8} (h:pesB j=c.toNat):Sp.escT1 c=(pesK j).data.toList:=by
 match j,hj with
 | 0,_ =>
  have:c=126:=UInt8.toNat_inj.1 (by have:(126:Int)=c.toNat:=h;show c.toNat=126;omega)
  subst this;rfl
 | 1,_ =>
  have:c=47:=UInt8.toNat_inj.1 (by have:(47:Int)=c.toNat:=h;show c.toNat=47;omega)
  subst this;rfl
theorem escT1_miss {c:UInt8} (h:∀j,j<2→pesB j≠c.toNat):Sp.escT1 c=[c]:=by
 unfold Sp.escT1
 rw[if_neg (fun e=>h 0 (by omega) (by rw[e];rfl)),if_neg (fun e=>h 1 (by omega) (by rw[e];rfl))]
theorem wEsc {B b:Nat} {acc:Sp.By} (c:UInt8) {w:World} (h:Bu B b acc w) (hl:acc.length+2≤140737488355328) (hB:B≤w.heap.size) (hT:PTab w) :
  Calls Tryz.prog 207 #[.pointer (some ⟨b,0,none⟩),.int .u8 c.toNat] w fun e w'=>e = .returned (.tuple #[])∧Bu B b (acc++Sp.escT1 c) w'∧Fr B b w w':=by
 obtain⟨ci,hci⟩:∃ci:Int,ci=c.toNat:=⟨_,rfl⟩
 rw[← hci]
 have HCI:=hide hci
 have HH:=hide h
 have HL:=hide hl
 have HB:=hide hB
 have hlt:4<w.heap.size:=by obtain⟨t,fr,e⟩:=hT;exact (Array.getElem?_eq_some_iff.1 e).1
 obtain⟨tt,fz,hg1⟩:=hT
 clear hci h hl hB
 go_enter Tryz.func207,Tryz.ntmps207
 go_wp2_with (refine wpList_load_row rfl 256 _ rfl 4 rfl tt _ fz _ hg1 Tryz.underlying256 rfl (by kernel_rfl) ?_)
 clear hg1 hlt
 go_loopw [7] (fun i wr=>∃j:Nat,j≤2∧i = .int .i64 j∧Hid (Below w.heap.size w wr)∧Hid (∀q,q<j→pesB q≠ci)) (fun i _=>2-(intOf i).toNat)
 case atStart=>exact⟨0,by omega,rfl,Below.refl _ _,fun q hq=>absurd hq (by omega)⟩
 case round =>
  obtain⟨j,hj,rfl,HBW,HNO⟩:=hrel
  by_cases h2:j=2
  ·subst h2
   have HE:=hide (escT1_miss (c:=c) fun q hq=>by rw[← unhide HCI];exact unhide HNO q hq)
   have HC:=hide (wByte c ci (unhide HCI) (Bu_bel (unhide HH) (unhide HBW)) (by have:=unhide HL;omega) (Nat.le_trans (unhide HB) (unhide HBW).size))
   go_wp2_with (fail)
   refine (unhide HC).mono ?_
   rintro e w2 ⟨rfl,h1,h3⟩
   have H1:=hide h1
   have H3:=hide h3
   clear h1 h3
   go_wp2_with (fail)
   refine bodyPost_end (results_none rfl _ _ _) rfl ⟨rfl,?_,?_⟩
   ·rw[unhide HE];exact unhide H1
   ·exact Fr.trans ⟨(unhide HBW).mono (unhide HB),OKz.below (unhide HBW)⟩ (unhide H3)
  ·have hjj:j<2:=by omega
   have hlt2:(j:Int)<2:=by omega
   have hidx:=fun w1=>pes_idx j hjj w1
   by_cases hh:pesB j=ci
   ·have e1:(pesB j == ci)=true:=by rw[hh];simp
    have HE:=hide (escT1_hit hjj (c:=c) (hh.trans (unhide HCI)))
    have hks:=pesK_size j hjj
    have hpk:pesK j=⟨(pesK j).data.toList.toArray⟩:=by rw[Array.toArray_toList]
    obtain⟨l,hll⟩:∃l,l=(pesK j).data.toList:=⟨_,rfl⟩
    rw[← hll] at hpk HE
    have hlen:l.length=2:=by rw[hpk,bs_size] at hks;exact hks
    rw[hpk] at hidx
    have hb9:Below w.heap.size w (wr.alloc (.cells #[.string ⟨l.toArray⟩,.int .u8 (pesB j)] 255)):=(unhide HBW).alloc (unhide HBW).size _
    have HC:=hide (wStr l (Bu_bel (unhide HH) hb9) (by have:=unhide HL;omega) (Nat.le_trans (unhide HB) hb9.size))
    have HB9:=hide hb9
    clear hks hpk hll hlen hb9 hh
    generalize pesB j=pb at *
    go_wp2_with (fail)
    refine (unhide HC).mono ?_
    rintro e w2 ⟨rfl,h1,h3⟩
    have H1:=hide h1
    have H3:=hide h3
    clear h1 h3
    go_wp2_with (fail)
    refine bodyPost_ret (v:=.tuple #[]) (results_none rfl _ _ _) rfl ⟨rfl,?_,?_⟩
    ·rw[unhide HE];exact unhide H1
    ·exact Fr.trans ⟨(unhide HB9).mono (unhide HB),OKz.below (unhide HB9)⟩ (unhide H3)
   ·have e1:(pesB j == ci)=false:=by rw[beq_eq_false_iff_ne];exact hh
    have HN2:=hide (show ∀q,q<j+1→pesB q≠ci from fun q hq=>if e:q=j then e▸hh else unhide HNO q (by omega))
    clear hh
    generalize pesK j=pk at *
    generalize pesB j=pb at *
    go_wp2_with (fail)
    exact⟨⟨j+1,by omega,by go_num,(unhide HBW).alloc (unhide HBW).size _,HN2⟩,by simp[intOf];omega⟩
end

section
set_option maxRecDepth 100000
set_option maxHeartbeats 4000000
open Go.RowKit
theorem ptxt_snoc {ks:List Sp.By} {k:Nat} (h:k<ks.length):Sp.ptxt (ks.take (k+1))=Sp.ptxt (ks.take k)++47::Sp.tokT ks[k]:=by
 rw[List.take_succ_eq_append_getElem h]
 simp only[Sp.ptxt,List.flatMap_append,List.flatMap_cons,List.flatMap_nil,List.append_nil]
theorem tokT_snoc {t:Sp.By} {k:Nat} (h:k<t.length):Sp.tokT (t.take (k+1))=Sp.tokT (t.take k)++Sp.escT1 t[k]:=by
 rw[List.take_succ_eq_append_getElem h]
 simp only[Sp.tokT,List.flatMap_append,List.flatMap_cons,List.flatMap_nil,List.append_nil]
theorem ptxt_take {ks:List Sp.By} (k:Nat):(Sp.ptxt (ks.take k)).length≤(Sp.ptxt ks).length:=by
 have h:Sp.ptxt ks=Sp.ptxt (ks.take k)++Sp.ptxt (ks.drop k):=by
  conv=>lhs;rw[← List.take_append_drop k ks]
  simp only[Sp.ptxt,List.flatMap_append]
 rw[h,List.length_append];omega
theorem pString_any {w:World} {pv:Value} {ks:List Sp.By} (hp:Toks w pv ks) (hs:(ks.map fun t=>t.length+1).sum≤1000000) (hT:PTab w) :
  Calls Tryz.prog 165 #[pv] w fun e w'=>e = .returned (.string ⟨(Sp.ptxt ks).toArray⟩)∧Below w.heap.size w w':=by
 obtain⟨B,hBe⟩:∃B,B=w.heap.size:=⟨_,rfl⟩
 obtain⟨W0,hW0⟩:∃W0,W0=w.alloc (.cells #[.pointer none,.slice none 0 0] 119):=⟨_,rfl⟩
 have hb0:Below B w W0:=by rw[hW0,hBe];exact (Below.refl _ _).alloc (Nat.le_refl _) _
 have hs0:W0.heap.size=B+1:=by rw[hW0,hBe];simp
 have h0:Bu B B [] W0:=Or.inl ⟨Nat.le_refl _,.slice none 0 0,by rw[hW0,hBe];show (w.heap.push _)[w.heap.size]? = _;simp,World.ownsRow_nil _ _ _ _,by simp[Value.ownBlock]⟩
 obtain⟨hl1,hl2⟩:=sum_len ks
 have hpl:=Sp.ptxt_len ks
 obtain⟨N,hN⟩:∃N,N=ks.length:=⟨_,rfl⟩
 obtain⟨ao,cap,hpv,hcell⟩:∃ao cap,pv = .slice ao N cap∧(0<N → ∃g o,ao=some ⟨g,o,none⟩∧g<B∧N≤cap ∧ ∀k (hk:k<ks.length),w.cell? ⟨g,o+k,none⟩=some (.string ⟨ks[k].toArray⟩)):=by
  rcases hp with⟨rfl,a,c,rfl,_⟩|⟨g,o,cap,rfl,h2,_,hg,hc⟩
  ·exact⟨a,c,by rw[hN];rfl,fun h=>absurd h (by rw[hN];simp)⟩
  ·exact⟨_,cap,by rw[hN],fun _=>⟨g,o,rfl,by rw[hBe];exact hg,by omega,hc⟩⟩
 subst hpv
 have HB0:=hide hb0
 have HS0:=hide hs0
 have H0:=hide h0
 have HC:=hide hcell
 have HT:=hide hT
 have HL:=hide (show (∀t∈ks,t.length≤1000000)∧(Sp.ptxt ks).length≤2000000 from⟨fun t ht=>by have:=hl2 t ht;omega,by omega⟩)
 have HN:=hide hN
 have HBE:=hide hBe
 have HW0:=hide hW0
 have hn1:(N:Int)≤1000000:=by omega
 have hcv:=fun W s=>Lib.run_convert_string_bytes (P:=Tryz.prog) W 9 117 5 s Tryz.underlying9 Tryz.underlying117 Tryz.underlying5
 rw[← hBe]
 clear hp hs hT hb0 hs0 h0 hl1 hl2 hpl hcell hN hBe hW0
 go_enter Tryz.func165,Tryz.ntmps165
 go_wp2_with (fail)
 rw[← unhide HW0,← unhide HBE]
 go_loopw [10] (fun i wr=>∃k:Nat,k≤N∧i = .int .i64 k∧Hid (Bu B B (Sp.ptxt (ks.take k)) wr)∧Hid (Fr B B W0 wr)) (fun i _=>N-(intOf i).toNat)
 case atStart=>exact⟨0,by omega,rfl,by simpa[Sp.ptxt] using H0,Fr.refl _ _ _⟩
 case round =>
  obtain⟨k,hk,rfl,HBU,HF⟩:=hrel
  have hBr:B≤wr.heap.size:=by have:=(unhide HF).low.size;have:=unhide HS0;omega
  by_cases hlt:k<N
  ·have hkl:k<ks.length:=by have:=unhide HN;omega
   obtain⟨g,o,hao,hg,hcap,hc⟩:=unhide HC (by omega)
   subst hao
   have ck:wr.cell? ⟨g,o+k,none⟩=some (.string ⟨ks[k].toArray⟩):=((((unhide HB0).trans (unhide HF).low).cell (p:=⟨g,o+k,none⟩) hg)).trans (hc k hkl)
   have HSN:=hide (ptxt_snoc hkl)
   have htl:=(unhide HL).1 _ (List.getElem_mem hkl)
   obtain⟨t,ht⟩:∃t,t=ks[k]:=⟨_,rfl⟩
   rw[← ht] at ck HSN htl
   have hpk:=Nat.le_trans (ptxt_take (ks:=ks) k) (unhide HL).2
   have hlt2:(k:Int)<(N:Int):=by omega
   have hlt3:(k:Int)<(cap:Int):=by omega
   have hn2:(N:Int)≤(cap:Int):=by omega
   have HBY:=hide (wByte 47 47 rfl (unhide HBU) (by omega) hBr)
   clear ht hc
   go_wp2_with (fail)
   refine (unhide HBY).mono ?_
   rintro e w1 ⟨rfl,h1,f1⟩
   obtain⟨cs,fz,hrow,hfz,hcs,hbw⟩:=conv_left w1 t
   have hB1:B≤w1.heap.size:=Nat.le_trans hBr f1.low.size
   have H2:=hide (Bu_below h1 hbw)
   have F2:=hide (((unhide HF).trans f1).trans ⟨hbw.mono hB1,OKz.below hbw⟩)
   have hgb:w1.heap.size≠B:=by
    rcases h1 with h1|h1
    ·have:=h1.lt;omega
    ·have:=h1.lt;omega
   have HROW:=hide hrow
   have HFZ:=hide hfz
   have HCS:=hide hcs
   clear h1 f1 hbw hrow hfz hcs HBY ck hg hcap
   go_wp2_with (fail)
   generalize Lib.bytesWorld w1 5 ⟨t.toArray⟩=w2 at *
   go_loopw [18] (fun i wx=>∃j:Nat,j≤t.length∧i = .int .i64 j∧Hid (Bu B B (Sp.ptxt (ks.take k)++47::Sp.tokT (t.take j)) wx)∧Hid (Fr B B W0 wx)∧Hid (wx.heap[w1.heap.size]? = some (.cells cs 5 fz))) (fun i _=>t.length-(intOf i).toNat)
   case atStart=>exact⟨0,by omega,rfl,by simpa[Sp.tokT] using H2,F2,HROW⟩
   case round =>
    obtain⟨j,hj,rfl,HBU2,HF2,HR2⟩:=hrel
    have hBx:B≤wr.heap.size:=by have:=(unhide HF2).low.size;have:=unhide HS0;omega
    by_cases hjl:j<t.length
    ·have hro:wr.heap[w1.heap.size]? = some (.cells cs 5 fz):=unhide HR2
     have cc:wr.cell? ⟨w1.heap.size,j,none⟩=some (.int .u8 (t[j].toNat:Int)):=by simp[World.cell?,hro,unhide HCS j hjl]
     have HSN2:=hide (tokT_snoc hjl)
     have hbt:(Sp.tokT (t.take j)).length≤2*t.length:=by
      have h1:=Sp.tokT_len (t.take j)
      have h2:(t.take j).length≤t.length:=by simp;omega
      omega
     have HKR:Hid (∀w':World,Fr B B wr w'→w'.heap[w1.heap.size]? = some (.cells cs 5 fz)):=fun w' h=>h.oth _ _ hro hgb (fun c e=>by injection e with _ _ e;exact unhide HFZ e)
     obtain⟨c,hc⟩:∃c,c=t[j]:=⟨_,rfl⟩
     rw[← hc] at cc HSN2
     have HES:=hide (wEsc c (unhide HBU2) (by simp only[List.length_append,List.length_cons];omega) hBx ((unhide HT).kept (unhide HBE▸((unhide HB0).trans (unhide HF2).low))))
     have hltj:(j:Int)<(t.length:Int):=by omega
     have hcn:=c.toNat_lt
     clear hc hro
     go_wp2_with (fail)
     refine (unhide HES).mono ?_
     rintro e w5 ⟨rfl,h5,f5⟩
     have H5:=hide h5
     have F5:=hide f5
     clear h5 f5
     go_wp2_with (fail)
     exact⟨⟨j+1,by omega,by go_num,by rw[unhide HSN2];simpa using H5,(unhide HF2).trans (unhide F5),unhide HKR _ (unhide F5)⟩,by simp[intOf];omega⟩
    ·obtain rfl:j=t.length:=by omega
     have hltj:¬ ((t.length:Nat):Int)<((t.length:Nat):Int):=by omega
     have hfin:=unhide HBU2
     rw[List.take_length,← unhide HSN] at hfin
     have HFIN:=hide hfin
     clear hfin
     go_wp2_with (fail)
     exact⟨⟨k+1,by omega,by go_num,HFIN,HF2⟩,by simp[intOf];omega⟩
  ·obtain rfl:k=N:=by omega
   have hlt2:¬ (k:Int)<(k:Int):=by omega
   have h9:=unhide HBU
   rw[List.take_of_length_le (by have:=unhide HN;omega)] at h9
   have HST:=hide (Tryz.Builder_String_any B B _ wr h9 hBr)
   clear h9
   go_wp2_with (fail)
   refine (unhide HST).mono ?_
   rintro e w2 ⟨rfl,hb2⟩
   go_wp2_with (fail)
   go_ret
   exact⟨by simp,((unhide HB0).trans (unhide HF).low).trans hb2⟩
end

section
set_option maxRecDepth 100000
set_option maxHeartbeats 1000000
open Go.RowKit Go.Maps
def elD (b1 b2:Bool) (x y:Value):List (Lit×DataW Value):=(if b1 then [(.string Sp.op_,.held x)] else [])++(if b2 then [(.string Sp.path_,.held y)] else [])
theorem elD_1 (b2:Bool) (x x' y:Value):DataW.put (.map (elD false b2 x' y)) (.string Sp.op_) (.held x) = .map (elD true b2 x y):=by cases b2<;>rfl
theorem elD_2 (b1:Bool) (x y y':Value):DataW.put (.map (elD b1 false x y')) (.string Sp.path_) (.held y) = .map (elD b1 true x y):=by cases b1<;>rfl
theorem elD_3 (x y z:Value):DataW.put (.map (elD true true x y)) (.string Sp.value_) (.held z) = .map (elD true true x y++if true then [(.string Sp.value_,.held z)] else []):=rfl
def StB (w:World) (B:Nat) (v:Value) (s:Sp.By):Prop:=∃p,v = .pointer (some ⟨p,0,none⟩)∧B≤p∧VB w p 4 n0 s (.slice none 0 0) (.map none)
theorem StB.keep {w w':World} {B:Nat} {v:Value} {s:Sp.By} (h:StB w B v s) (hk:∀p,p<w.heap.size→(∃c t f,w.heap[p]? = some (.cells c t f))→w'.heap[p]? = w.heap[p]?):StB w' B v s:=by
 obtain⟨p,h1,h2,h3⟩:=h
 exact⟨p,h1,h2,h3.kept (hk p h3.lt ⟨_,_,_,h3⟩)⟩
theorem StB.mono {w:World} {B B':Nat} {v:Value} {s:Sp.By} (h:StB w B v s) (hB:B'≤B):StB w B' v s:=by
 obtain⟨p,h1,h2,h3⟩:=h
 exact⟨p,h1,Nat.le_trans hB h2,h3⟩
def elA (t0:Value) (q1 q3:Nat) (t6 t7 t8 x4 x9 x10 x11 x12 x13 x14 x15 x16 x17:Value):Act :=
 { tmps:=#[t0,.pointer (some ⟨q1,0,none⟩),.pointer none,.pointer (some ⟨q3,0,none⟩),x4,.pointer (some ⟨q1,0,none⟩),t6,t7,t8,x9,x10,x11,x12,x13,x14,x15,x16,x17,undef,undef,undef,undef,undef,undef,undef,undef,undef,undef,undef,undef,undef,undef,undef],defers:=[] }
structure ElI (wb:World) (t0:Value) (q1 q3:Nat) (t6 t7 t8:Value) (nm:Sp.By) (pv:Value) (ps:Sp.By) (l:Array Bool) (a:Act) (w:World):Prop where
 sz:l.size=12
 bel:Below wb.heap.size wb w
 d4:l.getD 4 false=true→l.getD 3 false=true∧l.getD 0 false=true
 d9:l.getD 9 false=true→l.getD 8 false=true∧l.getD 0 false=true
 d10:l.getD 10 false=true→l.getD 9 false=true∧l.getD 0 false=true
 d11:l.getD 11 false=true→l.getD 10 false=true∧l.getD 0 false=true
 ex:∃x4 x9 x10 x11 x12 x13 x14 x15 x16 x17,a=elA t0 q1 q3 t6 t7 t8 x4 x9 x10 x11 x12 x13 x14 x15 x16 x17 ∧
  (l.getD 1 false=true→x10 = .pointer (some ⟨q3,0,none⟩))∧(l.getD 2 false=true→x11 = .string ⟨nm.toArray⟩)∧(l.getD 3 false=true→StB w wb.heap.size x12 nm) ∧
  (l.getD 5 false=true→x13 = .pointer (some ⟨q1,1,none⟩))∧(l.getD 6 false=true→x14=pv)∧(l.getD 7 false=true→x15 = .string ⟨ps.toArray⟩)∧(l.getD 8 false=true→StB w wb.heap.size x16 ps) ∧
  (l.getD 0 false=true → ∃M n,x9 = .map (some M)∧wb.heap.size≤M∧n≤(if l.getD 4 false then 1 else 0)+(if l.getD 9 false then 1 else 0)∧w.ownsMap Tryz.prog 9 RV M n (.map (elD (l.getD 4 false) (l.getD 9 false) x12 x16))) ∧
  (l.getD 10 false=true→x17=x9)∧(l.getD 11 false=true→x4=x9)
theorem getS {l:Array Bool} (h:l.size=12) (i j:Nat) (hi:i<12):(l.setIfInBounds i true).getD j false=if i=j then true else l.getD j false:=by
 by_cases e:i=j
 ·subst e
  rw[if_pos rfl]
  simp[Array.getD,h,hi]
 ·rw[if_neg e];exact getD_set_ne _ e
theorem map_cells {w:World} {M n:Nat} {D:DataW Value} (h:w.ownsMap Tryz.prog 9 RV M n D) {p:Nat} (hp:∃c t f,w.heap[p]? = some (.cells c t f)):p≠M:=by
 rintro rfl
 obtain⟨es,clock,hb,_⟩:=h
 obtain⟨c,t,f,e⟩:=hp
 rw[hb] at e
 cases e
theorem ElI.low {wb:World} {t0:Value} {q1 q3:Nat} {t6 t7 t8:Value} {nm:Sp.By} {pv:Value} {ps:Sp.By} {l:Array Bool} {a:Act} {w w':World} (h:ElI wb t0 q1 q3 t6 t7 t8 nm pv ps l a w) (hb:Below w.heap.size w w'):ElI wb t0 q1 q3 t6 t7 t8 nm pv ps l a w':=by
 obtain⟨hsz,hbel,hd4,hd9,hd10,hd11,x4,x9,x10,x11,x12,x13,x14,x15,x16,x17,ha,e1,e2,e3,e5,e6,e7,e8,e0,e10,e11⟩:=h
 refine⟨hsz,hbel.trans (hb.mono hbel.size),hd4,hd9,hd10,hd11,x4,x9,x10,x11,x12,x13,x14,x15,x16,x17,ha,e1,e2,fun h=>(e3 h).keep fun p hp _=>hb.block p hp,e5,e6,e7,fun h=>(e8 h).keep fun p hp _=>hb.block p hp,fun h=>?_,e10,e11⟩
 obtain⟨M,n,m1,m2,m3,m4⟩:=e0 h
 exact⟨M,n,m1,m2,m3,map_kept m4 (hb.block M (map_lt m4))⟩
theorem depN {l:Array Bool} {i j k m:Nat} (h:i≠j) (e:l.getD j false=true→l.getD k false=true∧l.getD m false=true):(l.setIfInBounds i true).getD j false=true→(l.setIfInBounds i true).getD k false=true∧(l.setIfInBounds i true).getD m false=true:=fun h' =>
 have h2:=e ((getD_set_ne _ h).symm.trans h')
 ⟨getD_set_true h2.1,getD_set_true h2.2⟩
def ElEnd (w:World) (nm ps:Sp.By) (nv:Bool) (y:Value) (e:Ending) (w':World):Prop:=∃p M x12 x16,e = .returned (.pointer (some ⟨p,0,none⟩))∧VB w' p 6 n0 [] (.slice none 0 0) (.map (some M))∧w.heap.size≤p∧w.heap.size≤M ∧
 StB w' w.heap.size x12 nm∧StB w' w.heap.size x16 ps∧Below w.heap.size w w'∧w'.ownsMap Tryz.prog 9 RV M 3 (.map (elD true true x12 x16++if nv then [(.string Sp.value_,.held y)] else []))
theorem elem_walk {w:World} {k:Nat} {pa y:Option Addr} {pl pc:Nat} {nm ps:Sp.By} {nv:Bool} (hk:k<6) (hl:3<w.heap.size) (c0:w.cell? ⟨3,k*3,none⟩=some (.string ⟨nm.toArray⟩)) (c1:w.cell? ⟨3,k*3+1,none⟩=some (.bool nv)) (c2:w.cell? ⟨3,k*3+2,none⟩=some (.bool false))
  (hS:∀w',Below w.heap.size w w'→Calls Tryz.prog 165 #[.slice pa pl pc] w' fun e w''=>e = .returned (.string ⟨ps.toArray⟩)∧Below w'.heap.size w' w'') :
  Calls Tryz.prog 122 #[.agg #[.int .i64 k,.slice pa pl pc,.slice none 0 0,.pointer y]] w (ElEnd w nm ps nv (.pointer y)):=by
 have hk2:(k:Int)<6:=by omega
 have hmm:=@run_makeMap Tryz.prog
 go_enter Tryz.func122,Tryz.ntmps122
 go_upto_region 2 with (fail)
 obtain⟨wb,hwb⟩:∃wb,wb=((w.alloc (.cells #[.int .i64 k,.slice pa pl pc,.slice none 0 0,.pointer y] 178)).alloc (.cells #[.string ⟨nm.toArray⟩,.bool nv,.bool false] 219)):=⟨_,rfl⟩
 rw[← hwb]
 have hwbs:wb.heap.size=w.heap.size+2:=by rw[hwb];simp
 have hbb:Below w.heap.size w wb:=by rw[hwb];exact ((Below.refl _ _).alloc (Nat.le_refl _) _).alloc (by simp) _
 have b1:wb.heap[w.heap.size]? = some (.cells #[.int .i64 k,.slice pa pl pc,.slice none 0 0,.pointer y] 178 (0,0)):=by rw[hwb];exact (Below.heap_alloc _ _ _ (by simp)).trans (heap_alloc_new w _)
 have b3:wb.heap[w.heap.size+1]? = some (.cells #[.string ⟨nm.toArray⟩,.bool nv,.bool false] 219 (0,0)):=by
  rw[hwb]
  have:=heap_alloc_new (w.alloc (.cells #[.int .i64 k,.slice pa pl pc,.slice none 0 0,.pointer y] 178)) (.cells #[.string ⟨nm.toArray⟩,.bool nv,.bool false] 219)
  simpa using this
 go_cut [4] (fun s4 wx=>∃M x12 x16,s4 = .map (some M)∧StB wx wb.heap.size x12 nm∧StB wx wb.heap.size x16 ps∧wb.heap.size≤M∧wx.ownsMap Tryz.prog 9 RV M 2 (.map (elD true true x12 x16))∧Below wb.heap.size wb wx)
 case first =>
  refine wp_region_any (by kernel_rfl) ?_
  refine wpAny_inv (ElI wb (.agg #[.int .i64 k,.slice pa pl pc,.slice none 0 0,.pointer y]) w.heap.size (w.heap.size+1) (.int .i64 k) (.pointer (some ⟨3,k*3,none⟩)) (.agg #[.string ⟨nm.toArray⟩,.bool nv,.bool false]) nm (.slice pa pl pc) ps) ?hs ?he _ _ _ _ ?hc ?h0
  case hc=>decide
  case h0 =>
   refine⟨rfl,⟨rfl,rfl,rfl,Nat.le_refl _,fun _ _=>rfl⟩,?_,?_,?_,?_,undef,undef,undef,undef,undef,undef,undef,undef,undef,undef,rfl,?_⟩
   all_goals simp
  case he =>
   intro l a w1 hI hr
   have hall:=ready_none hI.sz (by kernel_rfl) hr
   obtain⟨hsz,hbel,hd4,hd9,hd10,hd11,x4,x9,x10,x11,x12,x13,x14,x15,x16,x17,rfl,e1,e2,e3,e5,e6,e7,e8,e0,e10,e11⟩:=hI
   have g4:=hall 4 (by decide)
   have g9:=hall 9 (by decide)
   obtain⟨M,n,rfl,m2,m3,m4⟩:=e0 (hall 0 (by decide))
   rw[g4,g9] at m3 m4
   obtain rfl:=e11 (hall 11 (by decide))
   have s1:=e3 (hall 3 (by decide))
   have s2:=e8 (hall 8 (by decide))
   unfold elA
   go_wp2_with (fail)
   go_meet
   exact⟨M,x12,x16,rfl,s1,s2,m2,m4.mono m3,hbel⟩
  case hs =>
   intro l a w1 hI i hi
   obtain⟨hno,haft⟩:=ready_after hi
   have hi12:i<12:=by
    obtain⟨_,o,ho,_⟩:=mem_ready.1 hi
    exact (Array.getElem?_eq_some_iff.1 ho).1
   have hI0:=hI
   obtain⟨hsz,hbel,hd4,hd9,hd10,hd11,x4,x9,x10,x11,x12,x13,x14,x15,x16,x17,rfl,e1,e2,e3,e5,e6,e7,e8,e0,e10,e11⟩:=hI
   have hbel0:=hbel
   have hS1:=hbb.trans (hbel.mono hbb.size)
   have hcase:i=0∨i=1∨i=2∨i=3∨i=4∨i=5∨i=6∨i=7∨i=8∨i=9∨i=10∨i=11:=by omega
   rcases hcase with rfl|rfl|rfl|rfl|rfl|rfl|rfl|rfl|rfl|rfl|rfl|rfl
   ·refine wpOp_step rfl fun K hK=>?_
    unfold elA
    go_simp
    have hb2:Below w1.heap.size w1 (w1.alloc (.map #[] 0)):=(Below.refl _ _).alloc (Nat.le_refl _) _
    have hn0:l.getD 0 false=false:=by simpa[Array.getD,hsz] using hno
    have hn4:l.getD 4 false=false:=by
     cases h:l.getD 4 false
     ·rfl
     ·have:=(hd4 h).2;rw[hn0] at this;cases this
    have hn9:l.getD 9 false=false:=by
     cases h:l.getD 9 false
     ·rfl
     ·have:=(hd9 h).2;rw[hn0] at this;cases this
    obtain⟨hsz,hbel,hd4,hd9,hd10,hd11,y4,y9,y10,y11,y12,y13,y14,y15,y16,y17,ha,e1,e2,e3,e5,e6,e7,e8,e0,e10,e11⟩:=hI0.low hb2
    injection ha with ha _
    injection ha with ha
    simp only[List.cons.injEq,true_and,and_true] at ha
    obtain⟨rfl,rfl,rfl,rfl,rfl,rfl,rfl,rfl,rfl,rfl⟩:=ha
    refine hK _ _ ⟨by simp[hsz],hbel,depN (by decide) hd4,depN (by decide) hd9,depN (by decide) hd10,depN (by decide) hd11,_,_,_,_,_,_,_,_,_,_,rfl,setN (by decide) e1,setN (by decide) e2,setN (by decide) e3,setN (by decide) e5,setN (by decide) e6,setN (by decide) e7,setN (by decide) e8,?_,fun h=>absurd (hd10 ((getD_set_ne _ (by decide)).symm.trans h)).2 (by rw[hn0];decide),fun h=>absurd (hd11 ((getD_set_ne _ (by decide)).symm.trans h)).2 (by rw[hn0];decide)⟩
    intro _
    rw[getD_set_ne false (show 0≠4 by decide),getD_set_ne false (show 0≠9 by decide),hn4,hn9]
    exact⟨w1.heap.size,0,rfl,by have:=hbel0.size;omega,by simp,World.ownsMap_made w1 _ _ _⟩
   ·refine wpOp_step rfl fun K hK=>?_
    unfold elA
    go_simp
    refine hK _ _ ⟨by simp[hsz],hbel,depN (by decide) hd4,depN (by decide) hd9,depN (by decide) hd10,depN (by decide) hd11,_,_,_,_,_,_,_,_,_,_,rfl,fun _=>rfl,setN (by decide) e2,setN (by decide) e3,setN (by decide) e5,setN (by decide) e6,setN (by decide) e7,setN (by decide) e8,?_,setN (by decide) e10,setN (by decide) e11⟩
    rw[getD_set_ne false (show 1≠4 by decide),getD_set_ne false (show 1≠9 by decide)]
    exact setN (by decide) e0
   ·obtain rfl:=e1 (haft _ rfl ⟨1,.data⟩ (by simp) rfl)
    have hc:w1.cell? ⟨w.heap.size+1,0,none⟩=some (.string ⟨nm.toArray⟩):=by
     have:=(hbel.block (w.heap.size+1) (by omega)).trans b3
     simp[World.cell?,this]
    refine wpOp_step rfl fun K hK=>?_
    unfold elA
    go_simp
    refine hK _ _ ⟨by simp[hsz],hbel,depN (by decide) hd4,depN (by decide) hd9,depN (by decide) hd10,depN (by decide) hd11,_,_,_,_,_,_,_,_,_,_,rfl,setN (by decide) e1,fun _=>rfl,setN (by decide) e3,setN (by decide) e5,setN (by decide) e6,setN (by decide) e7,setN (by decide) e8,?_,setN (by decide) e10,setN (by decide) e11⟩
    rw[getD_set_ne false (show 2≠4 by decide),getD_set_ne false (show 2≠9 by decide)]
    exact setN (by decide) e0
   ·obtain rfl:=e2 (haft _ rfl ⟨2,.data⟩ (by simp) rfl)
    refine wpOp_step rfl fun K hK=>?_
    unfold elA
    go_simp
    refine (paQuoted_any nm).mono ?_
    rintro e w2 ⟨rfl,hv2,hb2,hs2⟩
    show K _ _
    obtain⟨hsz,hbel,hd4,hd9,hd10,hd11,y4,y9,y10,y11,y12,y13,y14,y15,y16,y17,ha,e1,e2,e3,e5,e6,e7,e8,e0,e10,e11⟩:=hI0.low hb2
    injection ha with ha _
    injection ha with ha
    simp only[List.cons.injEq,true_and,and_true] at ha
    obtain⟨rfl,rfl,rfl,rfl,rfl,rfl,rfl,rfl,rfl,rfl⟩:=ha
    refine hK _ _ ⟨by simp[hsz],hbel,depN (by decide) hd4,depN (by decide) hd9,depN (by decide) hd10,depN (by decide) hd11,_,_,_,_,_,_,_,_,_,_,rfl,setN (by decide) e1,setN (by decide) e2,fun _=>⟨_,rfl,hbel0.size,hv2⟩,setN (by decide) e5,setN (by decide) e6,setN (by decide) e7,setN (by decide) e8,?_,setN (by decide) e10,setN (by decide) e11⟩
    have hn3:l.getD 3 false=false:=by simpa[Array.getD,hsz] using hno
    have hn4:l.getD 4 false=false:=by
     cases h:l.getD 4 false
     ·rfl
     ·have:=(hd4 h).1;rw[hn3] at this;cases this
    rw[getD_set_ne false (show 3≠4 by decide),getD_set_ne false (show 3≠9 by decide),hn4]
    rw[hn4] at e0
    exact setN (by decide) e0
   ·have dd:=haft _ rfl ⟨3,.data⟩ (by simp) rfl
    obtain⟨p,rfl,hp1,hp2⟩:=e3 dd
    obtain⟨M,n,rfl,m2,m3,m4⟩:=e0 (haft _ rfl ⟨0,.data⟩ (by simp) rfl)
    have hni:l.getD 4 false=false:=by simpa[Array.getD,hsz] using hno
    rw[hni] at m3 m4
    have hn1:n≤1:=by
     revert m3
     cases l.getD 9 false<;>simp<;>omega
    obtain⟨w2,hrun,ho2,hg2⟩:=World.ownsMap.update m4 mlaw Tryz.underlying109 (by unfold maxLen;omega) (tkey Sp.op_ (by decide)) (show RV (.pointer (some ⟨p,0,none⟩))=some (.held (.pointer (some ⟨p,0,none⟩)),[]) from rfl)
    rw[elD_1] at ho2
    unfold Sp.op_ at hrun
    have hkp:∀q,q<w1.heap.size→(∃c t f,w1.heap[q]? = some (.cells c t f))→w2.heap[q]? = w1.heap[q]?:=fun q hq hc=>hg2.block q hq (fun e=>map_cells m4 hc (Option.some.inj e))
    have hbel2:Below wb.heap.size wb w2:=hbel.grown hg2 hbel.size (fun j hj=>by cases hj;exact m2)
    have e3:l.getD 3 false=true→StB w2 wb.heap.size (.pointer (some ⟨p,0,none⟩)) nm:=fun h=>(e3 h).keep hkp
    have e8:=fun h=>(e8 h).keep hkp
    refine wpOp_step rfl fun K hK=>?_
    unfold elA
    go_simp
    refine hK _ _ ⟨by simp[hsz],hbel2,fun _=>⟨getD_set_true dd,getD_set_true (haft _ rfl ⟨0,.data⟩ (by simp) rfl)⟩,depN (by decide) hd9,depN (by decide) hd10,depN (by decide) hd11,_,_,_,_,_,_,_,_,_,_,rfl,setN (by decide) e1,setN (by decide) e2,setN (by decide) e3,setN (by decide) e5,setN (by decide) e6,setN (by decide) e7,setN (by decide) e8,?_,setN (by decide) e10,setN (by decide) e11⟩
    intro _
    rw[getS hsz 4 4 (by decide),if_pos rfl,getD_set_ne false (show 4≠9 by decide)]
    exact⟨M,n+1,rfl,m2,by simp at m3 ⊢; omega,ho2⟩
   ·refine wpOp_step rfl fun K hK=>?_
    unfold elA
    go_simp
    refine hK _ _ ⟨by simp[hsz],hbel,depN (by decide) hd4,depN (by decide) hd9,depN (by decide) hd10,depN (by decide) hd11,_,_,_,_,_,_,_,_,_,_,rfl,setN (by decide) e1,setN (by decide) e2,setN (by decide) e3,fun _=>rfl,setN (by decide) e6,setN (by decide) e7,setN (by decide) e8,?_,setN (by decide) e10,setN (by decide) e11⟩
    rw[getD_set_ne false (show 5≠4 by decide),getD_set_ne false (show 5≠9 by decide)]
    exact setN (by decide) e0
   ·obtain rfl:=e5 (haft _ rfl ⟨5,.data⟩ (by simp) rfl)
    have hc:w1.cell? ⟨w.heap.size,1,none⟩=some (.slice pa pl pc):=by
     have:=(hbel.block w.heap.size (by omega)).trans b1
     simp[World.cell?,this]
    refine wpOp_step rfl fun K hK=>?_
    unfold elA
    go_simp
    refine hK _ _ ⟨by simp[hsz],hbel,depN (by decide) hd4,depN (by decide) hd9,depN (by decide) hd10,depN (by decide) hd11,_,_,_,_,_,_,_,_,_,_,rfl,setN (by decide) e1,setN (by decide) e2,setN (by decide) e3,setN (by decide) e5,fun _=>rfl,setN (by decide) e7,setN (by decide) e8,?_,setN (by decide) e10,setN (by decide) e11⟩
    rw[getD_set_ne false (show 6≠4 by decide),getD_set_ne false (show 6≠9 by decide)]
    exact setN (by decide) e0
   ·obtain rfl:=e6 (haft _ rfl ⟨6,.data⟩ (by simp) rfl)
    refine wpOp_step rfl fun K hK=>?_
    unfold elA
    go_simp
    refine (hS w1 hS1).mono ?_
    rintro e w2 ⟨rfl,hb2⟩
    show K _ _
    obtain⟨hsz,hbel,hd4,hd9,hd10,hd11,y4,y9,y10,y11,y12,y13,y14,y15,y16,y17,ha,e1,e2,e3,e5,e6,e7,e8,e0,e10,e11⟩:=hI0.low hb2
    injection ha with ha _
    injection ha with ha
    simp only[List.cons.injEq,true_and,and_true] at ha
    obtain⟨rfl,rfl,rfl,rfl,rfl,rfl,rfl,rfl,rfl,rfl⟩:=ha
    refine hK _ _ ⟨by simp[hsz],hbel,depN (by decide) hd4,depN (by decide) hd9,depN (by decide) hd10,depN (by decide) hd11,_,_,_,_,_,_,_,_,_,_,rfl,setN (by decide) e1,setN (by decide) e2,setN (by decide) e3,setN (by decide) e5,setN (by decide) e6,fun _=>rfl,setN (by decide) e8,?_,setN (by decide) e10,setN (by decide) e11⟩
    rw[getD_set_ne false (show 7≠4 by decide),getD_set_ne false (show 7≠9 by decide)]
    exact setN (by decide) e0
   ·obtain rfl:=e7 (haft _ rfl ⟨7,.data⟩ (by simp) rfl)
    refine wpOp_step rfl fun K hK=>?_
    unfold elA
    go_simp
    refine (paQuoted_any ps).mono ?_
    rintro e w2 ⟨rfl,hv2,hb2,hs2⟩
    show K _ _
    obtain⟨hsz,hbel,hd4,hd9,hd10,hd11,y4,y9,y10,y11,y12,y13,y14,y15,y16,y17,ha,e1,e2,e3,e5,e6,e7,e8,e0,e10,e11⟩:=hI0.low hb2
    injection ha with ha _
    injection ha with ha
    simp only[List.cons.injEq,true_and,and_true] at ha
    obtain⟨rfl,rfl,rfl,rfl,rfl,rfl,rfl,rfl,rfl,rfl⟩:=ha
    refine hK _ _ ⟨by simp[hsz],hbel,depN (by decide) hd4,depN (by decide) hd9,depN (by decide) hd10,depN (by decide) hd11,_,_,_,_,_,_,_,_,_,_,rfl,setN (by decide) e1,setN (by decide) e2,setN (by decide) e3,setN (by decide) e5,setN (by decide) e6,setN (by decide) e7,fun _=>⟨_,rfl,hbel0.size,hv2⟩,?_,setN (by decide) e10,setN (by decide) e11⟩
    have hn3:l.getD 8 false=false:=by simpa[Array.getD,hsz] using hno
    have hn4:l.getD 9 false=false:=by
     cases h:l.getD 9 false
     ·rfl
     ·have:=(hd9 h).1;rw[hn3] at this;cases this
    rw[getD_set_ne false (show 8≠4 by decide),getD_set_ne false (show 8≠9 by decide),hn4]
    rw[hn4] at e0
    exact setN (by decide) e0
   ·have dd:=haft _ rfl ⟨8,.data⟩ (by simp) rfl
    obtain⟨p,rfl,hp1,hp2⟩:=e8 dd
    obtain⟨M,n,rfl,m2,m3,m4⟩:=e0 (haft _ rfl ⟨0,.data⟩ (by simp) rfl)
    have hni:l.getD 9 false=false:=by simpa[Array.getD,hsz] using hno
    rw[hni] at m3 m4
    have hn1:n≤1:=by
     revert m3
     cases l.getD 4 false<;>simp<;>omega
    obtain⟨w2,hrun,ho2,hg2⟩:=World.ownsMap.update m4 mlaw Tryz.underlying109 (by unfold maxLen;omega) (tkey Sp.path_ (by decide)) (show RV (.pointer (some ⟨p,0,none⟩))=some (.held (.pointer (some ⟨p,0,none⟩)),[]) from rfl)
    rw[elD_2] at ho2
    unfold Sp.path_ at hrun
    have hkp:∀q,q<w1.heap.size→(∃c t f,w1.heap[q]? = some (.cells c t f))→w2.heap[q]? = w1.heap[q]?:=fun q hq hc=>hg2.block q hq (fun e=>map_cells m4 hc (Option.some.inj e))
    have hbel2:Below wb.heap.size wb w2:=hbel.grown hg2 hbel.size (fun j hj=>by cases hj;exact m2)
    have e3:=fun h=>(e3 h).keep hkp
    have e8:l.getD 8 false=true→StB w2 wb.heap.size (.pointer (some ⟨p,0,none⟩)) ps:=fun h=>(e8 h).keep hkp
    refine wpOp_step rfl fun K hK=>?_
    unfold elA
    go_simp
    refine hK _ _ ⟨by simp[hsz],hbel2,depN (by decide) hd4,fun _=>⟨getD_set_true dd,getD_set_true (haft _ rfl ⟨0,.data⟩ (by simp) rfl)⟩,depN (by decide) hd10,depN (by decide) hd11,_,_,_,_,_,_,_,_,_,_,rfl,setN (by decide) e1,setN (by decide) e2,setN (by decide) e3,setN (by decide) e5,setN (by decide) e6,setN (by decide) e7,setN (by decide) e8,?_,setN (by decide) e10,setN (by decide) e11⟩
    intro _
    rw[getS hsz 9 9 (by decide),if_pos rfl,getD_set_ne false (show 9≠4 by decide)]
    exact⟨M,n+1,rfl,m2,by simp at m3 ⊢; omega,ho2⟩
   ·refine wpOp_step rfl fun K hK=>?_
    unfold elA
    go_simp
    refine hK _ _ ⟨by simp[hsz],hbel,depN (by decide) hd4,depN (by decide) hd9,fun _=>⟨getD_set_true (haft _ rfl ⟨9,.data⟩ (by simp) rfl),getD_set_true (haft _ rfl ⟨0,.data⟩ (by simp) rfl)⟩,depN (by decide) hd11,_,_,_,_,_,_,_,_,_,_,rfl,setN (by decide) e1,setN (by decide) e2,setN (by decide) e3,setN (by decide) e5,setN (by decide) e6,setN (by decide) e7,setN (by decide) e8,?_,fun _=>rfl,setN (by decide) e11⟩
    rw[getD_set_ne false (show 10≠4 by decide),getD_set_ne false (show 10≠9 by decide)]
    exact setN (by decide) e0
   ·obtain rfl:=e10 (haft _ rfl ⟨10,.data⟩ (by simp) rfl)
    refine wpOp_step rfl fun K hK=>?_
    unfold elA
    go_simp
    refine hK _ _ ⟨by simp[hsz],hbel,depN (by decide) hd4,depN (by decide) hd9,depN (by decide) hd10,fun _=>⟨getD_set_true (haft _ rfl ⟨10,.data⟩ (by simp) rfl),getD_set_true (haft _ rfl ⟨0,.phase⟩ (by simp) rfl)⟩,_,_,_,_,_,_,_,_,_,_,rfl,setN (by decide) e1,setN (by decide) e2,setN (by decide) e3,setN (by decide) e5,setN (by decide) e6,setN (by decide) e7,setN (by decide) e8,?_,setN (by decide) e10,fun _=>rfl⟩
    rw[getD_set_ne false (show 11≠4 by decide),getD_set_ne false (show 11≠9 by decide)]
    exact setN (by decide) e0
 case rest =>
  obtain⟨M,x12,x16,rfl,hx,hy,hM,ho,hbc⟩:=hcut
  have hbs:=hbc.size
  have hin:∀j,j<wb.heap.size→j≠M:=fun j hj e=>by omega
  have g1:=(hbc.block (w.heap.size+1) (by omega)).trans b3
  have g2:=(hbc.block w.heap.size (by omega)).trans b1
  have q1:wc.cell? ⟨w.heap.size+1,1,none⟩=some (.bool nv):=by simp[World.cell?,g1]
  have q2:wc.cell? ⟨w.heap.size+1,2,none⟩=some (.bool false):=by simp[World.cell?,g1]
  have q3:wc.cell? ⟨w.heap.size,3,none⟩=some (.pointer y):=by simp[World.cell?,g2]
  have HB:=hide (hbb.trans (hbc.mono hbb.size))
  have hle:w.heap.size+2≤wb.heap.size:=by omega
  cases nv with
  | false =>
   have HX:=hide hx
   have HY:=hide hy
   have HO:=hide ho
   clear hx hy ho hbc g1 g2 hbb b1 b3 hwb hmm hS c0 c1 c2 hin
   go_wp2_with (fail)
   go_ret
   have hnew:∀o:Obj,Below wc.heap.size wc (wc.alloc o):=fun o=>(Below.refl _ _).alloc (Nat.le_refl _) _
   refine⟨wc.heap.size,M,x12,x16,rfl,heap_alloc_new wc _,by omega,by omega,?_,?_,(unhide HB).trans ((hnew _).mono (unhide HB).size),?_⟩
   ·exact ((unhide HX).keep fun p hp _=>(hnew _).block p hp).mono (by omega)
   ·exact ((unhide HY).keep fun p hp _=>(hnew _).block p hp).mono (by omega)
   ·rw[if_neg (by decide),List.append_nil]
    exact (map_kept (unhide HO) ((hnew _).block M (map_lt (unhide HO)))).mono (by omega)
  | true =>
   obtain⟨w3,hrun,ho3,hg3⟩:=World.ownsMap.update ho mlaw Tryz.underlying109 (by unfold maxLen;omega) (tkey Sp.value_ (by decide)) (show RV (.pointer y)=some (.held (.pointer y),[]) from rfl)
   rw[elD_3] at ho3
   unfold Sp.value_ at hrun
   have hkp:∀q,q<wc.heap.size→(∃c t f,wc.heap[q]? = some (.cells c t f))→w3.heap[q]? = wc.heap[q]?:=fun q hq hc=>hg3.block q hq (fun e=>map_cells ho hc (Option.some.inj e))
   have q5:w3.cell? ⟨w.heap.size+1,2,none⟩=some (.bool false):=by
    have:=(hg3.block (w.heap.size+1) (by omega) (fun e=>hin _ (by omega) (Option.some.inj e))).trans g1
    simp[World.cell?,this]
   have HX:=hide (hx.keep hkp)
   have HY:=hide (hy.keep hkp)
   have HO:=hide ho3
   have HB3:=hide ((unhide HB).grown hg3 (unhide HB).size (fun j hj=>by cases hj;omega))
   have hs3:=hg3.size
   clear hx hy ho ho3 hg3 hkp hbc g1 g2 hbb b1 b3 hwb hmm hS c0 c1 c2 hin
   go_wp2_with (fail)
   go_ret
   have hnew:∀o:Obj,Below w3.heap.size w3 (w3.alloc o):=fun o=>(Below.refl _ _).alloc (Nat.le_refl _) _
   refine⟨w3.heap.size,M,x12,x16,rfl,heap_alloc_new w3 _,by omega,by omega,?_,?_,(unhide HB3).trans ((hnew _).mono (unhide HB3).size),?_⟩
   ·exact ((unhide HX).keep fun p hp _=>(hnew _).block p hp).mono (by omega)
   ·exact ((unhide HY).keep fun p hp _=>(hnew _).block p hp).mono (by omega)
   ·rw[if_pos rfl]
    exact map_kept (unhide HO) ((hnew _).block M (map_lt (unhide HO)))
end

section
set_option maxRecDepth 100000
set_option maxHeartbeats 2000000
open Go.RowKit Go.Maps
def OpnF (f:Nat) (w:World) (G:Nat→Prop) (kv pv fv vv:Value) (o:Sp.Opn):Prop :=
 kv = .int .i64 o.1∧o.1<3∧TokG w G pv o.2.1∧fv = .slice none 0 0∧((o.1=1∧vv = .pointer none)∨(o.1≠1∧Rep f G w vv o.2.2))
theorem OpnF.move {f:Nat} {w w':World} {G G':Nat→Prop} {kv pv fv vv:Value} {o:Sp.Opn} (h:OpnF f w G kv pv fv vv o) (hk:∀k,G k→k<w.heap.size→w'.heap[k]? = w.heap[k]? ∧ G' k):OpnF f w' G' kv pv fv vv o :=
 ⟨h.1,h.2.1,h.2.2.1.move hk,h.2.2.2.1,h.2.2.2.2.imp id fun ⟨a,b⟩=>⟨a,b.move hk⟩⟩
theorem Rep.dn {d x:Int} {F:Nat→Prop} {w:World}:∀ {f g h:Nat} {lv:Int} {v:Value} {t:Sp.V},Rep f F w v t→Sp.gd d x h lv t→d<lv+g→Rep g F w v t
 | 0,_,_,_,_,_,hr,_,_=>hr.elim
 | _+1,_,0,_,_,_,_,hg,_=>hg.elim
 | _+1,0,_+1,_,_,_,_,hg,hd=>by
  have:=hg.1
  omega
 | f+1,g+1,h+1,lv,v,t,hr,hg,hd=>by
  obtain⟨b,e,hF,hr⟩:=hr
  refine⟨b,e,hF,?_⟩
  rcases hr with⟨k,hk,e2,hv⟩|⟨n,e2,hv,hb⟩|⟨s,e2,hv⟩|⟨es,sl,ps,e2,hv,ho,hs,ha⟩|⟨es,m,n,D,e2,hv,hm,ho,hp⟩
  ·exact Or.inl ⟨k,hk,e2,hv⟩
  ·exact Or.inr (Or.inl ⟨n,e2,hv,hb⟩)
  ·exact Or.inr (Or.inr (Or.inl ⟨s,e2,hv⟩))
  ·refine Or.inr (Or.inr (Or.inr (Or.inl ⟨es,sl,ps,e2,hv,ho,hs,Al.mem (fun a c hc hu=>?_) ha⟩)))
   obtain⟨_,hg⟩:=hg
   rcases hg with⟨k,_,e3⟩|⟨s,_,e3⟩|⟨n,_,_,_,e3⟩|⟨es',he,e3⟩|⟨es',_,_,e3⟩
   ·rw[e2] at e3;cases e3
   ·rw[e2] at e3;cases e3
   ·rw[e2] at e3;cases e3
   ·rw[e2] at e3
    injection e3 with e3 _
    subst e3
    exact Rep.dn hu (he c hc) (by omega)
   ·rw[e2] at e3;cases e3
  ·refine Or.inr (Or.inr (Or.inr (Or.inr ⟨es,m,n,D,e2,hv,hm,ho,Pt.mem (fun a p hc hu=>?_) hp⟩)))
   obtain⟨_,hg⟩:=hg
   rcases hg with⟨k,_,e3⟩|⟨s,_,e3⟩|⟨n,_,_,_,e3⟩|⟨es',_,e3⟩|⟨es',_,he,e3⟩
   ·rw[e2] at e3;cases e3
   ·rw[e2] at e3;cases e3
   ·rw[e2] at e3;cases e3
   ·rw[e2] at e3;cases e3
   ·rw[e2] at e3
    injection e3 with e3
    subst e3
    exact Rep.dn hu (he p hc).2 (by omega)
def nvOf (k:Nat):Bool:=!(k == 1)
theorem ops_cells {w:World} (h:OTab w) {k:Nat} (hk:k<3):3<w.heap.size∧w.cell? ⟨3,k*3,none⟩=some (.string ⟨(Sp.opName k).toArray⟩)∧w.cell? ⟨3,k*3+1,none⟩=some (.bool (nvOf k))∧w.cell? ⟨3,k*3+2,none⟩=some (.bool false):=by
 obtain⟨t,fr,e⟩:=h
 have hc:∀i,w.cell? ⟨3,i,none⟩=opsCells[i]?:=fun i=>by simp[World.cell?,e]
 refine⟨(Array.getElem?_eq_some_iff.1 e).1,?_⟩
 rw[hc,hc,hc]
 match k,hk with
 | 0,_=>exact⟨rfl,rfl,rfl⟩
 | 1,_=>exact⟨rfl,rfl,rfl⟩
 | 2,_=>exact⟨rfl,rfl,rfl⟩
theorem StB.rep {w:World} {B:Nat} {v:Value} {s:Sp.By} (h:StB w B v s) {f:Nat} {F:Nat→Prop} (hF:∀k,B≤k→F k):Rep (f+1) F w v (Sp.vStr s):=by
 obtain⟨p,rfl,h1,h2⟩:=h
 exact⟨p,rfl,hF p h1,Or.inr (Or.inr (Or.inl ⟨s,rfl,h2⟩))⟩
theorem elem_any1 {f:Nat} {w:World} {G:Nat→Prop} {kv pv fv vv:Value} {o:Sp.Opn} (h:OpnF (f+1) w G kv pv fv vv o) (hs:(o.2.1.map fun t=>t.length+1).sum≤1000000) (hT:Laid w) :
  Calls Tryz.prog 122 #[.agg #[kv,pv,fv,vv]] w fun e w'=>∃p,e = .returned (.pointer (some ⟨p,0,none⟩))∧w.heap.size≤p∧Rep (f+2) (fun q=>(G q∧q<w.heap.size)∨w.heap.size≤q) w' (.pointer (some ⟨p,0,none⟩)) (Sp.elemV o)∧Below w.heap.size w w':=by
 obtain⟨rfl,hk,ht,rfl,hv⟩:=h
 obtain⟨pa,pl,pc,rfl⟩:=tokG_slice ht
 obtain⟨y,rfl⟩:∃y,vv = .pointer y:=by
  rcases hv with⟨_,rfl⟩|⟨_,hr⟩
  ·exact⟨_,rfl⟩
  ·obtain⟨b,e,_⟩:=Rep.ptr hr;exact⟨_,e⟩
 obtain⟨hl,c0,c1,c2⟩:=ops_cells hT.otab hk
 refine (elem_walk (nm:=Sp.opName o.1) (ps:=Sp.ptxt o.2.1) (by omega) hl c0 c1 c2 fun w' hb=>pString_any (ht.move fun k hk hkl=>⟨hb.block k hkl,hk⟩).toks hs (hT.below (hb.mono hT.ng)).pesc).mono ?_
 rintro e w' ⟨p,M,x12,x16,rfl,hvb,hp,hM,h1,h2,hb,ho⟩
 refine⟨p,rfl,hp,?_,hb⟩
 have r1:Rep (f+1) (fun q=>(G q∧q<w.heap.size)∨w.heap.size≤q) w' x12 (Sp.vStr (Sp.opName o.1)):=h1.rep fun k hk=>Or.inr hk
 have r2:Rep (f+1) (fun q=>(G q∧q<w.heap.size)∨w.heap.size≤q) w' x16 (Sp.vStr (Sp.ptxt o.2.1)):=h2.rep fun k hk=>Or.inr hk
 rcases hv with⟨h1k,e⟩|⟨h1k,hr⟩
 ·have en:nvOf o.1=false:=by rw[h1k];rfl
  rw[en] at ho
  refine⟨p,rfl,Or.inr hp,Or.inr (Or.inr (Or.inr (Or.inr ⟨[(.string Sp.op_,Sp.vStr (Sp.opName o.1)),(.string Sp.path_,Sp.vStr (Sp.ptxt o.2.1))],M,3,_,?_,hvb,Or.inr hM,ho,?_⟩)))⟩
  ·unfold Sp.elemV;rw[if_pos h1k]
  ·exact⟨⟨rfl,x12,rfl,r1⟩,⟨rfl,x16,rfl,r2⟩,trivial⟩
 ·have en:nvOf o.1=true:=by unfold nvOf;simpa using h1k
  rw[en] at ho
  refine⟨p,rfl,Or.inr hp,Or.inr (Or.inr (Or.inr (Or.inr ⟨[(.string Sp.op_,Sp.vStr (Sp.opName o.1)),(.string Sp.path_,Sp.vStr (Sp.ptxt o.2.1)),(.string Sp.value_,o.2.2)],M,3,_,?_,hvb,Or.inr hM,ho,?_⟩)))⟩
  ·unfold Sp.elemV;rw[if_neg h1k]
  ·exact⟨⟨rfl,x12,rfl,r1⟩,⟨rfl,x16,rfl,r2⟩,⟨rfl,.pointer y,rfl,hr.move fun k hk hkl=>⟨hb.block k hkl,Or.inl ⟨hk,hkl⟩⟩⟩,trivial⟩
theorem elem_any {f:Nat} (hf:0<f) {w:World} {G:Nat→Prop} {kv pv fv vv:Value} {o:Sp.Opn} (h:OpnF f w G kv pv fv vv o) (hs:(o.2.1.map fun t=>t.length+1).sum≤1000000) (hT:Laid w) :
  Calls Tryz.prog 122 #[.agg #[kv,pv,fv,vv]] w fun e w'=>∃p,e = .returned (.pointer (some ⟨p,0,none⟩))∧w.heap.size≤p∧Rep (f+1) (fun q=>(G q∧q<w.heap.size)∨w.heap.size≤q) w' (.pointer (some ⟨p,0,none⟩)) (Sp.elemV o)∧Below w.heap.size w w':=by
 cases f with
 | zero=>omega
 | succ f=>exact elem_any1 h hs hT
theorem Rep.arr {f:Nat} {F:Nat→Prop} {w:World} {b:Nat} {es:List Sp.V} {sl:Value} {ps:List Value} (hF:F b) (h:VB w b 5 n0 [] sl (.map none)) (ho:w.ownsRow 0 80 1 sl ps.length ps) (hs:∀g,sl.ownBlock=some g→F g) (ha:Al (Rep f F w) ps es):Rep (f+1) F w (.pointer (some ⟨b,0,none⟩)) (Sp.vArr es) :=
 ⟨b,rfl,hF,Or.inr (Or.inr (Or.inr (Or.inl ⟨es,sl,ps,rfl,h,ho,hs,ha⟩)))⟩
structure TxI (wb:World) (B vb:Nat) (sl:Value) (n:Nat) (xs:List Value) (ov:Value) (f:Nat) (F:Nat→Prop) (d:Sp.V) (A:Value→Value→Value→Value→Value→Value→Value→Value→Value→Value→Value→Act) (l:Array Bool) (a:Act) (w:World):Prop where
 sz:l.size=12
 os:w.os=wb.os
 tape:w.tape=wb.tape
 output:w.output=wb.output
 size:wb.heap.size≤w.heap.size
 kept:∀k,k<wb.heap.size→sl.ownBlock≠some k→k≠vb→w.heap[k]? = wb.heap[k]?
 row0:l.getD 8 false=false → ∀k,sl.ownBlock=some k→w.heap[k]? = wb.heap[k]?
 vb0:l.getD 11 false=false→w.heap[vb]? = wb.heap[vb]?
 d7:l.getD 7 false=true→l.getD 6 false=true∧l.getD 6 false=true
 d8:l.getD 8 false=true→l.getD 7 false=true∧l.getD 4 false=true
 d11:l.getD 11 false=true→l.getD 8 false=true∧l.getD 10 false=true
 ex:∃x14 x15 x16 x17 x18 x19 x20 x21 x22 x23 x24,a=A x14 x15 x16 x17 x18 x19 x20 x21 x22 x23 x24 ∧
  (l.getD 0 false=true→x14 = .pointer (some ⟨vb,0,none⟩))∧(l.getD 1 false=true→x15 = .pointer (some ⟨vb,0,none⟩))∧(l.getD 2 false=true→x16 = .pointer (some ⟨vb,0,none⟩))∧(l.getD 3 false=true→x17 = .pointer (some ⟨vb,5,none⟩)) ∧
  (l.getD 4 false=true→x18=sl)∧(l.getD 5 false=true→x19=ov)∧(l.getD 6 false=true→Hid (∃p,x20 = .pointer p))∧(l.getD 6 false=true→l.getD 8 false=false→Rep f (fun q=>F q∨wb.heap.size≤q) w x20 d) ∧
  (l.getD 7 false=true → ∃g,x21 = .slice (some ⟨g,0,none⟩) 1 1∧wb.heap.size≤g∧(l.getD 8 false=false→w.heap[g]? = some (.cells #[x20] 80 (0,0)))) ∧
  (l.getD 8 false=true → ∃q cap,x22 = .slice (some ⟨q,0,none⟩) (n+1) cap∧w.ownsRow B 80 1 x22 (n+1) (xs++[x20])∧(sl.ownBlock=some q∨wb.heap.size≤q)∧Rep f (fun k=>(F k∨wb.heap.size≤k)∧k≠q) w x20 d) ∧
  (l.getD 9 false=true→x23 = .pointer (some ⟨vb,0,none⟩))∧(l.getD 10 false=true→x24 = .pointer (some ⟨vb,5,none⟩))∧(l.getD 11 false=true→VB w vb 5 n0 [] x22 (.map none))
structure TxR (w:World) (G:Nat→Prop) (f:Nat) (j:List Sp.Opn) (k:Nat) (xs:List Value) (sl:Value) (wr:World):Prop where
 bel:Below w.heap.size w wr
 box:VB wr w.heap.size 5 n0 [] sl (.map none)
 own:wr.ownsRow (w.heap.size+1) 80 1 sl k xs
 al:Al (Rep f (fun q=>(G q∧q<w.heap.size)∨(w.heap.size+1≤q∧sl.ownBlock≠some q)) wr) xs ((j.take k).map Sp.elemV)
theorem paText_any {f:Nat} {w:World} {G:Nat→Prop} {ao:Option Addr} {N cap:Nat} {j:List Sp.Opn} (hf:0<f) (hN:N=j.length)
  (hrow:0<N → ∃g,ao=some ⟨g,0,none⟩∧g<w.heap.size∧N≤cap ∧ ∀k (hk:k<j.length),∃pa pl pc y,OpnF f w G (.int .i64 j[k].1) (.slice pa pl pc) (.slice none 0 0) (.pointer y) j[k]∧w.cell? ⟨g,k*4,none⟩=some (.int .i64 j[k].1)∧w.cell? ⟨g,k*4+1,none⟩=some (.slice pa pl pc)∧w.cell? ⟨g,k*4+2,none⟩=some (.slice none 0 0)∧w.cell? ⟨g,k*4+3,none⟩=some (.pointer y))
  (hp:∀o∈j,(o.2.1.map fun t=>t.length+1).sum≤1000000) (hn:N≤10000000000000) (hl:(Sp.can (f+2) (Sp.vArr (j.map Sp.elemV))).length≤8796093022208) (hT:Laid w) :
  Calls Tryz.prog 87 #[.slice ao N cap] w fun e w'=>e = .returned (.string ⟨(Sp.can (f+2) (Sp.vArr (j.map Sp.elemV))).toArray⟩)∧Below w.heap.size w w':=by
 have hng:=hT.ng
 obtain⟨W0,hW0⟩:∃W0,W0=w.alloc (.cells #[.int .i64 5,.bool false,.string ⟨#[]⟩,.int .i64 0,.string ⟨#[]⟩,.slice none 0 0,.map none] 111):=⟨_,rfl⟩
 have hb0:Below w.heap.size w W0:=by rw[hW0];exact (Below.refl _ _).alloc (Nat.le_refl _) _
 have H0:=hide (show TxR w G (f+1) j 0 [] (.slice none 0 0) W0 from⟨hb0,by rw[hW0];exact heap_alloc_new w _,⟨rfl,Or.inl ⟨rfl,rfl⟩⟩,by rw[List.take_zero];trivial⟩)
 have HN:=hide hN
 have HROW:=hide hrow
 have HP:=hide hp
 have HL:=hide hl
 have HT:=hide hT
 have HW0:=hide hW0
 clear hN hrow hp hl hT hW0 hb0
 go_enter Tryz.func87,Tryz.ntmps87
 go_wp2_with (fail)
 rw[← unhide HW0]
 go_loopw [10] (fun i wr=>∃ (k:Nat) (xs:List Value) (sl:Value),k≤N∧i = .int .i64 k∧Hid (TxR w G (f+1) j k xs sl wr)) (fun i _=>N-(intOf i).toNat)
 case atStart=>exact⟨0,[],.slice none 0 0,by omega,rfl,H0⟩
 case round =>
  obtain⟨k,xs,sl,hk,rfl,HI⟩:=hrel
  by_cases hlt:k<N
  ·have hkl:k<j.length:=by have:=unhide HN;omega
   obtain⟨g,rfl,hg,hcap,hc⟩:=unhide HROW (by omega)
   obtain⟨pa,pl,pc,y,ho,c0,c1,c2,c3⟩:=hc k hkl
   obtain⟨kk,hkk⟩:∃kk,kk=j[k].1:=⟨_,rfl⟩
   rw[← hkk] at ho c0
   have hbw:=(unhide HI).bel
   have k0:=(hbw.cell (p:=⟨g,k*4,none⟩) hg).trans c0
   have k1:=(hbw.cell (p:=⟨g,k*4+1,none⟩) hg).trans c1
   have k2:=(hbw.cell (p:=⟨g,k*4+2,none⟩) hg).trans c2
   have k3:=(hbw.cell (p:=⟨g,k*4+3,none⟩) hg).trans c3
   have hlt2:(k:Int)<(N:Int):=by omega
   have hlt3:(k:Int)<(cap:Int):=by omega
   have hn2:(N:Int)≤(cap:Int):=by omega
   have HO:=hide ho
   clear hc c0 c1 c2 c3 hkk ho hbw
   go_upto_region 5 with (fail)
   obtain⟨wb,hwb⟩:∃wb,wb=wr.alloc (.cells #[.int .i64 kk,.slice pa pl pc,.slice none 0 0,.pointer y] 178):=⟨_,rfl⟩
   rw[← hwb]
   have hI:=unhide HI
   have hrs:=hI.bel.size
   have hvr:=hI.box.lt
   have hwbs:wb.heap.size=wr.heap.size+1:=by rw[hwb];simp
   have hbb:Below wr.heap.size wr wb:=by rw[hwb];exact (Below.refl _ _).alloc (Nat.le_refl _) _
   have hob:wb.heap[wr.heap.size]? = some (.cells #[.int .i64 kk,.slice pa pl pc,.slice none 0 0,.pointer y] 178 (0,0)):=by rw[hwb];exact heap_alloc_new wr _
   have p0:wb.cell? ⟨wr.heap.size,0,none⟩=some (.int .i64 kk):=by simp[World.cell?,hob]
   have p1:wb.cell? ⟨wr.heap.size,1,none⟩=some (.slice pa pl pc):=by simp[World.cell?,hob]
   have p2:wb.cell? ⟨wr.heap.size,2,none⟩=some (.slice none 0 0):=by simp[World.cell?,hob]
   have p3:wb.cell? ⟨wr.heap.size,3,none⟩=some (.pointer y):=by simp[World.cell?,hob]
   have hvb:VB wb w.heap.size 5 n0 [] sl (.map none):=hI.box.kept (hbb.block _ hvr)
   have hc5:=hvb.c5
   have hown:wb.ownsRow (w.heap.size+1) 80 1 sl k xs:=owns_kept hI.own fun r hr=>hbb.block r (owns_lt hI.own r hr).1
   have hslt:∀r,sl.ownBlock=some r→r<wb.heap.size:=fun r hr=>(owns_lt hown r hr).1
   have hvbfar:sl.ownBlock≠some w.heap.size:=fun e=>by have:=(owns_lt hown _ e).2;omega
   have hfar:sl.ownBlock≠some wr.heap.size∧wr.heap.size≠w.heap.size:=⟨fun e=>by have:=(owns_lt hI.own _ e).1;omega,by omega⟩
   obtain⟨d,hd⟩:∃d,d=Sp.elemV j[k]:=⟨_,rfl⟩
   have hbwb:Below w.heap.size w wb:=hI.bel.trans (hbb.mono hrs)
   have HEL:∀W:World,(W.os=wb.os∧W.tape=wb.tape∧W.output=wb.output∧wb.heap.size≤W.heap.size ∧ ∀q,q<wb.heap.size→sl.ownBlock≠some q→q≠w.heap.size→W.heap[q]? = wb.heap[q]?)→Calls Tryz.prog 122 #[.agg #[.int .i64 kk,.slice pa pl pc,.slice none 0 0,.pointer y]] W fun e w'=>∃p,e = .returned (.pointer (some ⟨p,0,none⟩))∧W.heap.size≤p∧Rep (f+1) (fun q=>((G q∧q<w.heap.size)∧q<W.heap.size)∨W.heap.size≤q) w' (.pointer (some ⟨p,0,none⟩)) d∧Below W.heap.size W w':=by
    rintro W ⟨h1,h2,h3,h4,h5⟩
    have hbW:Below w.heap.size w W:=⟨h1.trans hbwb.os,h2.trans hbwb.tape,h3.trans hbwb.output,Nat.le_trans hbwb.size h4,fun q hq=>(h5 q (Nat.lt_of_lt_of_le hq hbwb.size) (fun e=>by have:=(owns_lt hown q e).2;omega) (by omega)).trans (hbwb.block q hq)⟩
    rw[hd]
    exact elem_any hf (G:=fun q=>G q∧q<w.heap.size) ((unhide HO).move fun q hq hql=>⟨hbW.block q hql,hq,hql⟩) (unhide HP _ (List.getElem_mem hkl)) ((unhide HT).below (hbW.mono hng))
   obtain⟨i0,hi0,h⟩:=Option.map_eq_some_iff.1 b_ptr
   injection h with hz0 h
   injection h with hz2 hz3
   obtain⟨z0,hz9⟩:∃z0,z0=Value.pointer none:=⟨_,rfl⟩
   rw[← hz9] at hz0
   have hz1:z0.cells.size=1:=by rw[hz9];rfl
   refine wp_region_any (by kernel_rfl) ?_
   refine wpAny_inv (TxI wb (w.heap.size+1) w.heap.size sl k xs (.agg #[.int .i64 kk,.slice pa pl pc,.slice none 0 0,.pointer y]) (f+1) (fun q=>G q∧q<w.heap.size) d (fun x14 x15 x16 x17 x18 x19 x20 x21 x22 x23 x24=>{ tmps:=#[.slice (some ⟨g,0,none⟩) N cap,undef,.string ⟨#[]⟩,.pointer (some ⟨w.heap.size,0,none⟩),undef,.pointer (some ⟨wr.heap.size,0,none⟩),.agg #[.int .i64 5,.bool false,.string ⟨#[]⟩,.int .i64 0,.string ⟨#[]⟩,.slice none 0 0,.map none],.pointer (some ⟨w.heap.size,0,none⟩),.slice (some ⟨g,0,none⟩) N cap,.int .i64 N,.int .i64 k,.bool true,.pointer (some ⟨g,k*4,none⟩),.agg #[.int .i64 kk,.slice pa pl pc,.slice none 0 0,.pointer y],x14,x15,x16,x17,x18,x19,x20,x21,x22,x23,x24,u25,undef,undef],defers:=[] })) ?hs ?he _ _ _ _ ?hc ?h0
   case hc=>decide
   case h0 =>
    refine⟨rfl,rfl,rfl,rfl,Nat.le_refl _,fun _ _ _ _=>rfl,fun _ _ _=>rfl,fun _=>rfl,?_,?_,?_,_,_,_,_,_,_,_,_,_,_,_,rfl,?_⟩
    all_goals simp
   case he =>
    intro l a w1 hJ hr
    have hall:=ready_none hJ.sz (by kernel_rfl) hr
    obtain⟨hsz,os,tape,output,size,kept,row0,vb0,d7,d8,d11,x14,x15,x16,x17,x18,x19,x20,x21,x22,x23,x24,rfl,e0,e1,e2,e3,e4,e5,e6,e6b,e7,e8,e9,e10,e11⟩:=hJ
    obtain⟨q,cap2,rfl,ho,hq,hrep⟩:=e8 (hall 8 (by decide))
    have hv:=e11 (hall 11 (by decide))
    have HOS:=hide os
    have HTP:=hide tape
    have HOU:=hide output
    have HKP:=hide kept
    have HVV:=hide hv
    have HHO:=hide ho
    have HRP:=hide hrep
    clear os tape output kept hv ho hrep row0 vb0 d7 d8 d11 e0 e1 e2 e3 e4 e5 e6 e6b e7 e8 e9 e10 e11 hall hr
    go_wp2_with (fail)
    refine⟨⟨k+1,xs++[x20],.slice (some ⟨q,0,none⟩) (k+1) cap2,by omega,by go_num,?_⟩,by simp[intOf];omega⟩
    have os:=unhide HOS
    have tape:=unhide HTP
    have output:=unhide HOU
    have kept:=unhide HKP
    have hv:=unhide HVV
    have ho:=unhide HHO
    have hrep:=unhide HRP
    refine⟨⟨os.trans hbwb.os,tape.trans hbwb.tape,output.trans hbwb.output,by omega,fun r hr=>(kept r (by omega) (fun e=>by have:=(owns_lt hown r e).2;omega) (by omega)).trans (hbwb.block r hr)⟩,hv,ho,?_⟩
    rw[List.take_succ_eq_append_getElem hkl,List.map_append,List.map_singleton,← hd]
    refine Al.snoc (hrep.move fun r hr _=>⟨rfl,?_⟩) (hI.al.mono fun a b hab=>hab.move fun r hr hrl=>?_)
    ·rcases hr.1 with h|h
     ·exact Or.inl h
     ·refine Or.inr ⟨by omega,fun e=>hr.2 (by simp[Value.ownBlock] at e;omega)⟩
    ·have hne:sl.ownBlock≠some r∧r≠w.heap.size:=by
      rcases hr with⟨_,h⟩|⟨h,h'⟩
      ·exact⟨fun e=>by have:=(owns_lt hown r e).2;omega,by omega⟩
      ·exact⟨h',by omega⟩
     refine⟨(kept r (by omega) hne.1 hne.2).trans (hbb.block r hrl),hr.imp id fun ⟨h,_⟩=>⟨h,fun e=>?_⟩⟩
     have e2:q=r:=by simpa[Value.ownBlock] using e
     rcases hq with h'|h'
     ·exact hne.1 (by rw[h',e2])
     ·omega
   case hs =>
    intro l a w1 hJ i hi
    obtain⟨hno,haft⟩:=ready_after hi
    have hi12:i<12:=by
     obtain⟨_,o,ho,_⟩:=mem_ready.1 hi
     exact (Array.getElem?_eq_some_iff.1 ho).1
    obtain⟨hsz,os,tape,output,size,kept,row0,vb0,d7,d8,d11,x14,x15,x16,x17,x18,x19,x20,x21,x22,x23,x24,rfl,e0,e1,e2,e3,e4,e5,e6,e6b,e7,e8,e9,e10,e11⟩:=hJ
    clear hi
    have hcase:i=0∨i=1∨i=2∨i=3∨i=4∨i=5∨i=6∨i=7∨i=8∨i=9∨i=10∨i=11:=by omega
    rcases hcase with rfl|rfl|rfl|rfl|rfl|rfl|rfl|rfl|rfl|rfl|rfl|rfl
    ·refine wpOp_step rfl fun K hK=>?_
     go_simp
     refine hK _ _ ⟨by simp[hsz],os,tape,output,size,kept,fun h=>row0 ((getD_set_ne _ (by decide)).symm.trans h),fun h=>vb0 ((getD_set_ne _ (by decide)).symm.trans h),depN (by decide) d7,depN (by decide) d8,depN (by decide) d11,_,_,_,_,_,_,_,_,_,_,_,rfl,fun _=>rfl,setN (by decide) e1,setN (by decide) e2,setN (by decide) e3,setN (by decide) e4,setN (by decide) e5,setN (by decide) e6,fun h h'=>e6b ((getD_set_ne _ (by decide)).symm.trans h) ((getD_set_ne _ (by decide)).symm.trans h'),?_,setN (by decide) e8,setN (by decide) e9,setN (by decide) e10,setN (by decide) e11⟩
     exact fun h=>by
      obtain⟨g',h1,h2,h3⟩:=e7 ((getD_set_ne _ (by decide)).symm.trans h)
      exact⟨g',h1,h2,fun h'=>h3 ((getD_set_ne _ (by decide)).symm.trans h')⟩
    ·refine wpOp_step rfl fun K hK=>?_
     go_simp
     refine hK _ _ ⟨by simp[hsz],os,tape,output,size,kept,fun h=>row0 ((getD_set_ne _ (by decide)).symm.trans h),fun h=>vb0 ((getD_set_ne _ (by decide)).symm.trans h),depN (by decide) d7,depN (by decide) d8,depN (by decide) d11,_,_,_,_,_,_,_,_,_,_,_,rfl,setN (by decide) e0,fun _=>rfl,setN (by decide) e2,setN (by decide) e3,setN (by decide) e4,setN (by decide) e5,setN (by decide) e6,fun h h'=>e6b ((getD_set_ne _ (by decide)).symm.trans h) ((getD_set_ne _ (by decide)).symm.trans h'),?_,setN (by decide) e8,setN (by decide) e9,setN (by decide) e10,setN (by decide) e11⟩
     exact fun h=>by
      obtain⟨g',h1,h2,h3⟩:=e7 ((getD_set_ne _ (by decide)).symm.trans h)
      exact⟨g',h1,h2,fun h'=>h3 ((getD_set_ne _ (by decide)).symm.trans h')⟩
    ·obtain rfl:=e1 (haft _ rfl ⟨1,.data⟩ (by simp) rfl)
     refine wpOp_step rfl fun K hK=>?_
     go_simp
     refine hK _ _ ⟨by simp[hsz],os,tape,output,size,kept,fun h=>row0 ((getD_set_ne _ (by decide)).symm.trans h),fun h=>vb0 ((getD_set_ne _ (by decide)).symm.trans h),depN (by decide) d7,depN (by decide) d8,depN (by decide) d11,_,_,_,_,_,_,_,_,_,_,_,rfl,setN (by decide) e0,setN (by decide) e1,fun _=>rfl,setN (by decide) e3,setN (by decide) e4,setN (by decide) e5,setN (by decide) e6,fun h h'=>e6b ((getD_set_ne _ (by decide)).symm.trans h) ((getD_set_ne _ (by decide)).symm.trans h'),?_,setN (by decide) e8,setN (by decide) e9,setN (by decide) e10,setN (by decide) e11⟩
     exact fun h=>by
      obtain⟨g',h1,h2,h3⟩:=e7 ((getD_set_ne _ (by decide)).symm.trans h)
      exact⟨g',h1,h2,fun h'=>h3 ((getD_set_ne _ (by decide)).symm.trans h')⟩
    ·obtain rfl:=e2 (haft _ rfl ⟨2,.data⟩ (by simp) rfl)
     refine wpOp_step rfl fun K hK=>?_
     go_simp
     refine hK _ _ ⟨by simp[hsz],os,tape,output,size,kept,fun h=>row0 ((getD_set_ne _ (by decide)).symm.trans h),fun h=>vb0 ((getD_set_ne _ (by decide)).symm.trans h),depN (by decide) d7,depN (by decide) d8,depN (by decide) d11,_,_,_,_,_,_,_,_,_,_,_,rfl,setN (by decide) e0,setN (by decide) e1,setN (by decide) e2,fun _=>rfl,setN (by decide) e4,setN (by decide) e5,setN (by decide) e6,fun h h'=>e6b ((getD_set_ne _ (by decide)).symm.trans h) ((getD_set_ne _ (by decide)).symm.trans h'),?_,setN (by decide) e8,setN (by decide) e9,setN (by decide) e10,setN (by decide) e11⟩
     exact fun h=>by
      obtain⟨g',h1,h2,h3⟩:=e7 ((getD_set_ne _ (by decide)).symm.trans h)
      exact⟨g',h1,h2,fun h'=>h3 ((getD_set_ne _ (by decide)).symm.trans h')⟩
    ·have hn4:l.getD 4 false=false:=by simpa[Array.getD,hsz] using hno
     have hn8:l.getD 8 false=false:=by
      cases h:l.getD 8 false
      ·rfl
      ·have:=(d8 h).2;rw[hn4] at this;cases this
     have hn11:l.getD 11 false=false:=by
      cases h:l.getD 11 false
      ·rfl
      ·have:=(d11 h).1;rw[hn8] at this;cases this
     have cv:w1.cell? ⟨w.heap.size,5,none⟩=some sl:=(World.cell?_of_block (a:=⟨w.heap.size,5,none⟩) (vb0 hn11)).trans hc5
     obtain rfl:=e3 (haft _ rfl ⟨3,.data⟩ (by simp) rfl)
     refine wpOp_step rfl fun K hK=>?_
     go_simp
     refine hK _ _ ⟨by simp[hsz],os,tape,output,size,kept,fun h=>row0 ((getD_set_ne _ (by decide)).symm.trans h),fun h=>vb0 ((getD_set_ne _ (by decide)).symm.trans h),depN (by decide) d7,depN (by decide) d8,depN (by decide) d11,_,_,_,_,_,_,_,_,_,_,_,rfl,setN (by decide) e0,setN (by decide) e1,setN (by decide) e2,setN (by decide) e3,fun _=>rfl,setN (by decide) e5,setN (by decide) e6,fun h h'=>e6b ((getD_set_ne _ (by decide)).symm.trans h) ((getD_set_ne _ (by decide)).symm.trans h'),?_,setN (by decide) e8,setN (by decide) e9,setN (by decide) e10,setN (by decide) e11⟩
     exact fun h=>by
      obtain⟨g',h1,h2,h3⟩:=e7 ((getD_set_ne _ (by decide)).symm.trans h)
      exact⟨g',h1,h2,fun h'=>h3 ((getD_set_ne _ (by decide)).symm.trans h')⟩
    ·have cq:=fun i=>World.cell?_of_block (a:=⟨wr.heap.size,i,none⟩) (kept wr.heap.size (by omega) hfar.1 hfar.2)
     have q0:=(cq 0).trans p0
     have q1:=(cq 1).trans p1
     have q2:=(cq 2).trans p2
     have q3:=(cq 3).trans p3
     refine wpOp_step rfl fun K hK=>?_
     go_simp
     refine hK _ _ ⟨by simp[hsz],os,tape,output,size,kept,fun h=>row0 ((getD_set_ne _ (by decide)).symm.trans h),fun h=>vb0 ((getD_set_ne _ (by decide)).symm.trans h),depN (by decide) d7,depN (by decide) d8,depN (by decide) d11,_,_,_,_,_,_,_,_,_,_,_,rfl,setN (by decide) e0,setN (by decide) e1,setN (by decide) e2,setN (by decide) e3,setN (by decide) e4,fun _=>rfl,setN (by decide) e6,fun h h'=>e6b ((getD_set_ne _ (by decide)).symm.trans h) ((getD_set_ne _ (by decide)).symm.trans h'),?_,setN (by decide) e8,setN (by decide) e9,setN (by decide) e10,setN (by decide) e11⟩
     exact fun h=>by
      obtain⟨g',h1,h2,h3⟩:=e7 ((getD_set_ne _ (by decide)).symm.trans h)
      exact⟨g',h1,h2,fun h'=>h3 ((getD_set_ne _ (by decide)).symm.trans h')⟩
    ·have hn6:l.getD 6 false=false:=by simpa[Array.getD,hsz] using hno
     have hn7:l.getD 7 false=false:=by
      cases h:l.getD 7 false
      ·rfl
      ·have:=(d7 h).1;rw[hn6] at this;cases this
     have hn8:l.getD 8 false=false:=by
      cases h:l.getD 8 false
      ·rfl
      ·have:=(d8 h).1;rw[hn7] at this;cases this
     obtain rfl:=e5 (haft _ rfl ⟨5,.data⟩ (by simp) rfl)
     refine wpOp_step rfl fun K hK=>?_
     go_simp
     refine (HEL w1 ⟨os,tape,output,size,kept⟩).mono ?_
     rintro e w2 ⟨p,rfl,hpp,hrep,hb2⟩
     show K _ _
     have kept:=fun q h1 h2 h3=>(hb2.block q (Nat.lt_of_lt_of_le h1 size)).trans (kept q h1 h2 h3)
     have row0:=fun h q hq=>(hb2.block q (Nat.lt_of_lt_of_le (hslt q hq) size)).trans (row0 h q hq)
     have vb0:=fun h=>(hb2.block w.heap.size (by omega)).trans (vb0 h)
     have os:=hb2.os.trans os
     have tape:=hb2.tape.trans tape
     have output:=hb2.output.trans output
     have size':=Nat.le_trans size hb2.size
     have hrep':Rep (f+1) (fun q=>(G q∧q<w.heap.size)∨wb.heap.size≤q) w2 (.pointer (some ⟨p,0,none⟩)) d:=hrep.move fun q hq _=>⟨rfl,by rcases hq with⟨h1,h2⟩|h1;exact Or.inl h1;exact Or.inr (by omega)⟩
     refine hK _ _ ⟨by simp[hsz],os,tape,output,size',kept,fun h=>row0 ((getD_set_ne _ (by decide)).symm.trans h),fun h=>vb0 ((getD_set_ne _ (by decide)).symm.trans h),fun h=>absurd ((getD_set_ne _ (by decide)).symm.trans h) (by rw[hn7];decide),fun h=>absurd ((getD_set_ne _ (by decide)).symm.trans h) (by rw[hn8];decide),depN (by decide) d11,_,_,_,_,_,_,_,_,_,_,_,rfl,setN (by decide) e0,setN (by decide) e1,setN (by decide) e2,setN (by decide) e3,setN (by decide) e4,setN (by decide) e5,fun _=>⟨_,rfl⟩,fun _ _=>hrep',fun h=>absurd ((getD_set_ne _ (by decide)).symm.trans h) (by rw[hn7];decide),fun h=>absurd ((getD_set_ne _ (by decide)).symm.trans h) (by rw[hn8];decide),setN (by decide) e9,setN (by decide) e10,fun h=>absurd (d11 ((getD_set_ne _ (by decide)).symm.trans h)).1 (by rw[hn8];decide)⟩
    ·have hn7:l.getD 7 false=false:=by simpa[Array.getD,hsz] using hno
     have hn8:l.getD 8 false=false:=by
      cases h:l.getD 8 false
      ·rfl
      ·have:=(d8 h).1;rw[hn7] at this;cases this
     have d6:=haft _ rfl ⟨6,.data⟩ (by simp) rfl
     obtain⟨p,rfl⟩:=unhide (e6 d6)
     have hrep:=e6b d6 hn8
     refine wpOp_step rfl fun K hK=>?_
     go_simp
     have hb2:Below w1.heap.size w1 (w1.alloc (.cells #[.pointer p] 80)):=(Below.refl _ _).alloc (Nat.le_refl _) _
     have kept:=fun q h1 h2 h3=>(hb2.block q (Nat.lt_of_lt_of_le h1 size)).trans (kept q h1 h2 h3)
     have row0:=fun h q hq=>(hb2.block q (Nat.lt_of_lt_of_le (hslt q hq) size)).trans (row0 h q hq)
     have vb0:=fun h=>(hb2.block w.heap.size (by omega)).trans (vb0 h)
     have size':=Nat.le_trans size hb2.size
     have hrep':Rep (f+1) (fun q=>(G q∧q<w.heap.size)∨wb.heap.size≤q) (w1.alloc (.cells #[.pointer p] 80)) (.pointer p) d:=hrep.move fun q hq hql=>⟨hb2.block q hql,hq⟩
     refine hK _ _ ⟨by simp[hsz],os,tape,output,size',kept,fun h=>row0 ((getD_set_ne _ (by decide)).symm.trans h),fun h=>vb0 ((getD_set_ne _ (by decide)).symm.trans h),fun _=>⟨getD_set_true d6,getD_set_true d6⟩,depN (by decide) d8,depN (by decide) d11,_,_,_,_,_,_,_,_,_,_,_,rfl,setN (by decide) e0,setN (by decide) e1,setN (by decide) e2,setN (by decide) e3,setN (by decide) e4,setN (by decide) e5,setN (by decide) e6,fun _ _=>hrep',fun _=>⟨_,rfl,by omega,fun _=>heap_alloc_new w1 _⟩,fun h=>absurd ((getD_set_ne _ (by decide)).symm.trans h) (by rw[hn8];decide),setN (by decide) e9,setN (by decide) e10,fun h=>absurd (d11 ((getD_set_ne _ (by decide)).symm.trans h)).1 (by rw[hn8];decide)⟩
    ·have d47:=haft _ rfl ⟨7,.data⟩ (by simp) rfl
     have d44:=haft _ rfl ⟨4,.data⟩ (by simp) rfl
     have hn8:l.getD 8 false=false:=by simpa[Array.getD,hsz] using hno
     have hn11:l.getD 11 false=false:=by
      cases h:l.getD 11 false
      ·rfl
      ·have:=(d11 h).1;rw[hn8] at this;cases this
     obtain rfl:=e4 d44
     obtain⟨g1,rfl,hg1,hcs⟩:=e7 d47
     have hcs:=hcs hn8
     have d6:=(d7 d47).1
     have hrep:=e6b d6 hn8
     obtain⟨p,rfl⟩:=unhide (e6 d6)
     have hown1:w1.ownsRow (w.heap.size+1) 80 1 x18 k xs:=owns_kept hown (row0 hn8)
     refine wpOp_step rfl fun K hK=>?_
     refine step_append_lies (w:=w1) rfl (.tmp 18) (.tmp 21) 106 rfl (w.heap.size+1) 80 i0 z0 1 8 Tryz.underlying106 hi0 hz0 hz2 hz3 hz1 (by decide) x18 k xs rfl hown1 ⟨g1,0,none⟩ 1 1 [.pointer p] rfl rfl (World.news_of_block (cs:=#[.pointer p]) (t:=80) (fr:=(0,0)) hcs) (by simp[Value.oneCell']) (by decide) (by unfold maxLen;omega) (by omega) (by omega) w1.heap.size rfl ?_
     intro q cap2 w2 ho hgr hat hlt9
     have hfarq:∀r,x18.ownBlock≠some r→r<w1.heap.size→w2.heap[r]? = w1.heap[r]?:=fun r h1 h2=>hgr.block r h2 (fun e=>h1 e.symm)
     have kept:=fun r h1 h2 h3=>(hfarq r h2 (Nat.lt_of_lt_of_le h1 size)).trans (kept r h1 h2 h3)
     have vb0:=fun h=>(hfarq w.heap.size hvbfar (by omega)).trans (vb0 h)
     have os:=hgr.os.trans os
     have tape:=hgr.tape.trans tape
     have output:=hgr.output.trans output
     have size':=Nat.le_trans size hgr.size
     have hq:x18.ownBlock=some q∨wb.heap.size≤q:=hat.imp id fun e=>by omega
     have hrep':Rep (f+1) (fun r=>((G r∧r<w.heap.size)∨wb.heap.size≤r)∧r≠q) w2 (.pointer p) d:=hrep.move fun r hr hrl=>by
      have hne:x18.ownBlock≠some r:=fun e=>by have:=hslt r e;have:=(owns_lt hown1 r e).2;omega
      refine⟨hfarq r hne hrl,hr,?_⟩
      rintro rfl
      rcases hat with h|h
      ·exact hne h
      ·omega
     refine hK _ _ ⟨by simp[hsz],os,tape,output,size',kept,(fun h=>by rw[getS hsz 8 8 (by decide),if_pos rfl] at h;cases h),fun h=>vb0 ((getD_set_ne _ (by decide)).symm.trans h),depN (by decide) d7,fun _=>⟨getD_set_true d47,getD_set_true d44⟩,depN (by decide) d11,_,_,_,_,_,_,_,_,_,_,_,rfl,setN (by decide) e0,setN (by decide) e1,setN (by decide) e2,setN (by decide) e3,setN (by decide) e4,setN (by decide) e5,fun _=>⟨_,rfl⟩,(fun _ h=>by rw[getS hsz 8 8 (by decide),if_pos rfl] at h;cases h),fun _=>⟨g1,rfl,hg1,(fun h=>by rw[getS hsz 8 8 (by decide),if_pos rfl] at h;cases h)⟩,fun _=>⟨q,cap2,rfl,ho,hq,hrep'⟩,setN (by decide) e9,setN (by decide) e10,fun h=>absurd ((getD_set_ne _ (by decide)).symm.trans h) (by rw[hn11];decide)⟩
    ·obtain rfl:=e0 (haft _ rfl ⟨0,.data⟩ (by simp) rfl)
     refine wpOp_step rfl fun K hK=>?_
     go_simp
     refine hK _ _ ⟨by simp[hsz],os,tape,output,size,kept,fun h=>row0 ((getD_set_ne _ (by decide)).symm.trans h),fun h=>vb0 ((getD_set_ne _ (by decide)).symm.trans h),depN (by decide) d7,depN (by decide) d8,depN (by decide) d11,_,_,_,_,_,_,_,_,_,_,_,rfl,setN (by decide) e0,setN (by decide) e1,setN (by decide) e2,setN (by decide) e3,setN (by decide) e4,setN (by decide) e5,setN (by decide) e6,fun h h'=>e6b ((getD_set_ne _ (by decide)).symm.trans h) ((getD_set_ne _ (by decide)).symm.trans h'),?_,setN (by decide) e8,fun _=>rfl,setN (by decide) e10,setN (by decide) e11⟩
     exact fun h=>by
      obtain⟨g',h1,h2,h3⟩:=e7 ((getD_set_ne _ (by decide)).symm.trans h)
      exact⟨g',h1,h2,fun h'=>h3 ((getD_set_ne _ (by decide)).symm.trans h')⟩
    ·obtain rfl:=e9 (haft _ rfl ⟨9,.data⟩ (by simp) rfl)
     refine wpOp_step rfl fun K hK=>?_
     go_simp
     refine hK _ _ ⟨by simp[hsz],os,tape,output,size,kept,fun h=>row0 ((getD_set_ne _ (by decide)).symm.trans h),fun h=>vb0 ((getD_set_ne _ (by decide)).symm.trans h),depN (by decide) d7,depN (by decide) d8,depN (by decide) d11,_,_,_,_,_,_,_,_,_,_,_,rfl,setN (by decide) e0,setN (by decide) e1,setN (by decide) e2,setN (by decide) e3,setN (by decide) e4,setN (by decide) e5,setN (by decide) e6,fun h h'=>e6b ((getD_set_ne _ (by decide)).symm.trans h) ((getD_set_ne _ (by decide)).symm.trans h'),?_,setN (by decide) e8,setN (by decide) e9,fun _=>rfl,setN (by decide) e11⟩
     exact fun h=>by
      obtain⟨g',h1,h2,h3⟩:=e7 ((getD_set_ne _ (by decide)).symm.trans h)
      exact⟨g',h1,h2,fun h'=>h3 ((getD_set_ne _ (by decide)).symm.trans h')⟩
    ·have d48:=haft _ rfl ⟨8,.data⟩ (by simp) rfl
     have d410:=haft _ rfl ⟨10,.data⟩ (by simp) rfl
     have hn11:l.getD 11 false=false:=by simpa[Array.getD,hsz] using hno
     obtain⟨q,cap2,rfl,ho,hq,hrep⟩:=e8 d48
     obtain rfl:=e10 d410
     have e18:sl=x18:=(e4 (d8 d48).2).symm
     subst e18
     have hv1:VB w1 w.heap.size 5 n0 [] sl (.map none):=(vb0 hn11).trans hvb
     have cv:=hv1.c5
     have zv:w1.frozen? ⟨w.heap.size,5,none⟩=false:=by simp[World.frozen?,show w1.heap[w.heap.size]? = _ from hv1]
     refine wpOp_step rfl fun K hK=>?_
     go_simp
     have hset:∀r,r≠w.heap.size→(w1.setCell ⟨w.heap.size,5,none⟩ (.slice (some ⟨q,0,none⟩) (k+1) cap2)).heap[r]? = w1.heap[r]?:=fun r hr=>Below.heap_setCell _ _ _ _ hr
     have hqb:q≠w.heap.size:=by have:=(owns_lt ho q rfl).2;omega
     have kept:=fun r h1 h2 h3=>(hset r h3).trans (kept r h1 h2 h3)
     have row0:l.getD 8 false=false → ∀r,sl.ownBlock=some r→(w1.setCell ⟨w.heap.size,5,none⟩ (.slice (some ⟨q,0,none⟩) (k+1) cap2)).heap[r]? = wb.heap[r]?:=fun h=>by rw[d48] at h;cases h
     have size':wb.heap.size≤(w1.setCell ⟨w.heap.size,5,none⟩ (.slice (some ⟨q,0,none⟩) (k+1) cap2)).heap.size:=by simp[World.setCell];omega
     have ho':=owns_kept ho (w':=w1.setCell ⟨w.heap.size,5,none⟩ (.slice (some ⟨q,0,none⟩) (k+1) cap2)) (fun r hr=>hset r (by simp[Value.ownBlock] at hr;omega))
     have hrep':=hrep.move (w':=w1.setCell ⟨w.heap.size,5,none⟩ (.slice (some ⟨q,0,none⟩) (k+1) cap2)) fun r hr _=>⟨hset r (by rcases hr.1 with h|h<;>omega),hr⟩
     refine hK _ _ ⟨by simp[hsz],os,tape,output,size',kept,fun h=>row0 ((getD_set_ne _ (by decide)).symm.trans h),(fun h=>by rw[getS hsz 11 11 (by decide),if_pos rfl] at h;cases h),depN (by decide) d7,depN (by decide) d8,fun _=>⟨getD_set_true d48,getD_set_true d410⟩,_,_,_,_,_,_,_,_,_,_,_,rfl,setN (by decide) e0,setN (by decide) e1,setN (by decide) e2,setN (by decide) e3,setN (by decide) e4,setN (by decide) e5,setN (by decide) e6,fun _ h=>absurd d48 (by rw[(getD_set_ne _ (by decide)).symm.trans h];decide),(fun h=>(e7 ((getD_set_ne _ (by decide)).symm.trans h)).imp fun g' ⟨h1,h2,_⟩=>⟨h1,h2,fun h'=>absurd d48 (by rw[(getD_set_ne _ (by decide)).symm.trans h'];decide)⟩),fun _=>⟨q,cap2,rfl,ho',hq,hrep'⟩,setN (by decide) e9,setN (by decide) e10,fun _=>hv1.set5 _⟩
  ·obtain rfl:k=N:=by omega
   have hI:=unhide HI
   have hlen:k=j.length:=unhide HN
   have hal:=hI.al
   rw[List.take_of_length_le (by omega)] at hal
   have hxl:xs.length=k:=by have:=hal.length;simp at this;omega
   have hrep:Rep (f+2) (fun _=>True) wr (.pointer (some ⟨w.heap.size,0,none⟩)) (Sp.vArr (j.map Sp.elemV)):=Rep.arr trivial hI.box (by rw[hxl];exact owns_base hI.own (Nat.zero_le _)) (fun _ _=>trivial) (hal.mono fun a b hab=>hab.move fun r _ _=>⟨rfl,trivial⟩)
   have HC:=hide (Canonical_any hrep ((unhide HT).below (hI.bel.mono hng)) (unhide HL))
   have HB:=hide hI.bel
   have hlt2:¬ (k:Int)<(k:Int):=by omega
   clear hI hlen hal hxl hrep
   go_wp2_with (fail)
   refine (unhide HC).mono ?_
   rintro e w2 ⟨rfl,hb2⟩
   go_wp2_with (fail)
   go_ret
   exact⟨rfl,(unhide HB).trans (hb2.mono (unhide HB).size)⟩
end

section
open Go.RowKit Go.Maps
theorem Opns.at {w:World} {G:Nat→Prop}:∀ {xs:List Value} {j:List Sp.Opn},Opns w G xs j → ∀k (hk:k<j.length),∃ (h:k*4+3<xs.length),OpnR w G (xs[k*4]'(by omega)) (xs[k*4+1]'(by omega)) (xs[k*4+2]'(by omega)) xs[k*4+3] j[k]
 | [],[],_,_,hk=>absurd hk (by simp)
 | [],_::_,h,_,_=>h.elim
 | _::_::_::_::_,_::_,⟨a,_⟩,0,_=>⟨by simp,a⟩
 | _::_::_::_::r,_::s,⟨_,b⟩,k+1,hk=>by
  obtain⟨h1,h2⟩:=Opns.at b k (by simpa using hk)
  refine⟨by simp;omega,?_⟩
  have e0:(k+1)*4=k*4+4:=by omega
  simp only[e0,List.getElem_cons_succ]
  simpa using h2
theorem cap_le {w:World} {B e n cap:Nat} {ao:Option Addr} {xs:List Value} (h:w.ownsRow B e 4 (.slice ao n cap) n xs) (hp:0<n):n≤cap:=by
 rcases h.2 with⟨_,h0⟩|⟨g,cap',cur,h1,hB,h3,h4,_⟩
 ·omega
 ·injection h1 with _ _ h1
  subst h1
  exact h4
namespace Sp
theorem joinR_ge:∀l:List By,l.length≤(joinR l).length
 | []=>by simp
 | a::l=>by
  have h:=joinR_ge l
  simp only[joinR,List.length_cons,List.length_append]
  omega
theorem joinC_ge (l:List By):l.length≤(joinC l).length+1:=by
 cases l with
 | nil=>simp
 | cons a r =>
  have h:=joinR_ge r
  simp only[joinC,List.length_cons,List.length_append]
  omega
theorem ptext_ge (j:List Opn):j.length≤(ptext j).length:=by
 have h:=joinC_ge ((j.map elemV).map (can (top-1)))
 rw[List.length_map,List.length_map] at h
 show _≤(can (top-1+1) (vArr (j.map elemV))).length
 rw[can_arr]
 simp only[List.length_cons,List.length_append,List.length_nil]
 omega
end Sp
theorem text_inv {w:World} {G:Nat→Prop} {iv:Value} {j:List Sp.Opn} (h:InvR w G iv (some j)) (hT:Laid w) :
  Calls Tryz.prog 87 #[iv] w fun e w'=>e = .returned (.string ⟨(Sp.ptext j).toArray⟩)∧Below w.heap.size w w':=by
 obtain⟨⟨xs,ho,hG,hr⟩,hl,hok⟩:=h
 obtain⟨ao,cap,g,rfl,hc⟩:=owns_cell4 ho
 have hlen:j.length≤10000000000000:=by
  have h1:j.length≤(Sp.ptext j).length:=Sp.ptext_ge j
  omega
 refine paText_any (f:=top-2) (G:=G) (by unfold top;omega) rfl (fun hp=>?_) (fun o ho=>(hok o ho).1) hlen hl hT
 obtain⟨e1,e2,_,e3⟩:=hc hp
 obtain⟨_,hb⟩:=ownsN_lt ho g e2
 refine⟨g,e1,(ownsN_lt ho g e2).1,cap_le ho hp,fun k hk=>?_⟩
 obtain⟨hx,q0,q1,q2,q3,q4⟩:=hr.at k hk
 obtain⟨pa,pl,pc,hpv⟩:=tokG_slice q2
 have hz:∃y,xs[k*4+3] = .pointer y:=by
  rcases q4 with⟨_,e⟩|⟨_,hr⟩
  ·exact⟨_,e⟩
  ·obtain⟨b,e,_⟩:=Rep.ptr hr;exact⟨_,e⟩
 obtain⟨y,hy⟩:=hz
 have c0:=e3 (k*4) (by omega)
 have c1:=e3 (k*4+1) (by omega)
 have c2:=e3 (k*4+2) (by omega)
 have c3:=e3 (k*4+3) (by omega)
 refine⟨pa,pl,pc,y,⟨rfl,q1,hpv▸q2,rfl,q4.imp (fun ⟨a,b⟩=>⟨a,hy▸b⟩) fun ⟨a,b⟩=>⟨a,?_⟩⟩,by rw[c0,q0],by rw[c1,hpv],by rw[c2,q3],by rw[c3,hy]⟩
 obtain⟨d,x,g1,g2⟩:=(hok _ (List.getElem_mem hk)).2 a
 rw[← hy]
 exact Rep.dn b g1 (by unfold top;omega)
end
end Go.Proofs.YtdpomdelmdofmaaGreatDoor
