import Derived.Test.YtdpomdelmdofmaaGreatDoorRea10
import Derived.Lib.SlMapEqual
open Nat renaming le_trans->AI,le_refl->C1
open List renaming length_nil->AS,take_of_length_le->A1,length_append->A5,length_mergeSort->BY,length_cons->CR,find?_cons->C2,length->D3
open Go.Proofs.Tryz renaming prog->AT
open Go renaming World->A2,Value->CD,maxLen->Dt,Calls->D2
open Go.RowKit renaming intOf->A3,Below->D0
open Go.Lib renaming bytesWorld->A4,itoa->Dp,BuilderAt->DD
open Go.World renaming cell?->A6
open Go.Maps renaming size_eq->Bs,has->E0
open Go.DataW renaming atKey->CH
open Go.RowKit.Below renaming refl->CL
open Go.Sort renaming grow->D1
set_option maxHeartbeats 8000000
set_option maxRecDepth 100000
namespace Go.Proofs.YtdpomdelmdofmaaGreatDoor
open Go.Proofs.Tryz Go.RowKit Go.Maps
variable{B b f n m:Nat}{w':A2}{F:Nat->Prop}{D:List (Lit×DataW CD)}{es:List (Lit×To)}
theorem C8{l:By}{w:A2}(h:Bu B b l w)(hb:D0 w.heap.size w w'):Bu B b l w':=by
 have hk:∀ {p:CD} {bs:List CD},DD 119 5 B b p bs w->DD 119 5 B b p bs w':=by
  intro p bs h;obtain⟨hB,v,q4,q0,hne⟩:=h;exact⟨hB,v,(hb.block b (by grind)).trans q4,⟨q0.1,q0.2.imp id fun ⟨g,cap,cur,h1,h2,h3,h4⟩=>⟨g,cap,cur,h1,h2,(hb.block g (by grind)).trans h3,h4⟩⟩,hne⟩
 exact h.imp hk hk
theorem M5(w:A2)(s:By):∃cs fz,(A4 w 5 ⟨s.toArray⟩).heap[w.heap.size]? = some (.cells cs 5 fz)/\fz≠(0,0)/\(∀j (h:j<s.length),cs[j]? = some (.int .u8 (s[j].toNat:Int)))/\D0 w.heap.size w (A4 w 5 ⟨s.toArray⟩):=by
 refine⟨_,_,Lib.bytesWorld_at_new w 5 _,by simp,?_,?_⟩
 ·intro j h;have h2:j<(s.toArray.map fun b=>Value.int .u8 (b.toNat:Int)).size:=by grind
  simp only[Lib.bytesCells]
  grind
 ·refine⟨rfl,rfl,rfl,by rw[Lib.bytesWorld_size];omega,fun k hk=>Lib.bytesWorld_at_old w 5 _ k hk⟩
theorem Eo{q6:By}(s:By){w:A2}(h:Bu B b q6 w)(hl:q6.length+(6*s.length+2)<=140737488355328)(hB:B<=w.heap.size):
  D2 AT 104 #[.pointer (some ⟨b,0,none⟩),.string ⟨s.toArray⟩] w fun e w'=>e=.returned (.tuple #[])/\Bu B b (q6++Ag s) w'/\Fr B b w w':=by
 have qk:=fun W=>Lib.run_convert_string_bytes (P:=AT) W 9 117 5 ⟨s.toArray⟩ underlying9 underlying117 underlying5
 go_enter func104,ntmps104
 go_wp2_with (fail);refine (BB 34 _ rfl h (by omega) hB).mono ?_
 rintro e w1 ⟨rfl,h1,f1⟩
 go_wp2_with (fail);obtain⟨cs,fz,qb,qm,qj,q7⟩:=M5 w1 s
 have qg:B<=w1.heap.size:=AI hB f1.low.size;have h2:=C8 h1 q7;have f2:Fr B b w (A4 w1 5 ⟨s.toArray⟩):=f1.trans ⟨q7.mono qg,OKz.below q7⟩;generalize A4 w1 5 ⟨s.toArray⟩=w2 at *;have HW:=Ab q7;have hgb:w1.heap.size≠b:=by
  rcases h1 with h1|h1
  ·have:=h1.lt;omega
  ·have:=h1.lt;omega
 clear qk h h1 f1 q7
 go_loopw [11] (fun i wr=>∃k:Nat,k<=s.length/\i=.int .i64 k/\Bu B b (q6++34::AK (s.take k)) wr/\Fr B b w wr/\wr.heap[w1.heap.size]? = some (.cells cs 5 fz)) (fun i _=>s.length-(A3 i).toNat)
 case atStart=>grind [B1,AK,A3]
 case round=>
  obtain⟨k,hk,rfl,qd,hf,qe⟩:=hrel;have q5:=Ab qd;have q0:B<=wr.heap.size:=by grind
  clear qd h2 f2 qb;by_cases hlt:k<s.length
  ·have cc:wr.cell? ⟨w1.heap.size,k,none⟩=some (.int .u8 (s[k].toNat:Int)):=by simp[A6,qe,qj k hlt]
   have qf:=UD s k hlt;have hsl:=J2 (s.take k);have hsl2:(s.take k).length=k:=by simp;omega
   have q8:Hid (∀w':A2,Fr B b wr w'->w'.heap[w1.heap.size]? = some (.cells cs 5 fz)):=fun w' h=>h.oth _ _ qe hgb (by grind);have q9:=Ab qf;have qi:q6.length+(1+(AK (s.take k)).length)+7<=140737488355328:=by omega
   have hn:=s[k].toNat_lt;generalize hc:s[k]=c at *;clear qf hc;by_cases c1:c.toNat=34
   ·have HE:=Ab (show B1 c=[92,c] by grind [B1,AK,A3]);have e1:((c.toNat:Int)==34)=true:=by simp;omega
    clear c1
    go_wp2_with (fail);refine (BB 92 _ rfl (Aa q5) (by simp;omega) q0).mono ?_
    rintro e w3 ⟨rfl,h3,f3⟩;have q4:B<=w3.heap.size:=AI q0 f3.low.size
    go_wp2_with (fail);refine (BB c _ rfl h3 (by simp;omega) q4).mono ?_
    rintro e w4 ⟨rfl,h4,f4⟩
    go_wp2_with (fail)
    go_roundw
    case rel=>exact⟨k+1,by omega,by go_num,by rw[Aa q9,Aa HE];grind,(hf.trans f3).trans f4,Aa q8 _ (f3.trans f4)⟩
    grind [B1,AK,A3]
   ·have e1:((c.toNat:Int)==34)=false:=by simp;omega
    by_cases c2:c.toNat=92
    ·have HE:=Ab (show B1 c=[92,c] by grind [B1,AK,A3]);have e2:((c.toNat:Int)==92)=true:=by simp;omega
     clear c1 c2
     go_wp2_with (fail);refine (BB 92 _ rfl (Aa q5) (by simp;omega) q0).mono ?_
     rintro e w3 ⟨rfl,h3,f3⟩;have q4:B<=w3.heap.size:=AI q0 f3.low.size
     go_wp2_with (fail);refine (BB c _ rfl h3 (by simp;omega) q4).mono ?_
     rintro e w4 ⟨rfl,h4,f4⟩
     go_wp2_with (fail)
     go_roundw
     case rel=>exact⟨k+1,by omega,by go_num,by rw[Aa q9,Aa HE];grind,(hf.trans f3).trans f4,Aa q8 _ (f3.trans f4)⟩
     grind [B1,AK,A3]
    ·have e2:((c.toNat:Int)==92)=false:=by simp;omega
     by_cases c3:c.toNat<32
     ·have HE:=Ab (show B1 c=[92,117,48,48,FU (c.toNat / 16),FU (c.toNat % 16)] by grind [B1,AK,A3]);have e3:decide ((c.toNat:Int)<32)=true:=by simp;omega
      go_wp2_with (fail);refine (JI [92,117,48,48] (Aa q5) (by simp;omega) q0).mono ?_
      rintro e w3 ⟨rfl,h3,f3⟩;have q4:B<=w3.heap.size:=AI q0 f3.low.size
      go_wp2_with (fail);refine (BB (FU (c.toNat / 16)) _ ?_ h3 (by simp;omega) q4).mono ?_
      ·rw[Um _ (by omega)]
      rintro e w4 ⟨rfl,h4,f4⟩;have qh:B<=w4.heap.size:=AI q4 f4.low.size
      go_wp2_with (fail);refine (BB (FU (c.toNat % 16)) _ ?_ h4 (by simp;omega) qh).mono ?_
      ·rw[Um _ (by omega)]
      rintro e w5 ⟨rfl,h5,f5⟩
      go_wp2_with (fail)
      go_roundw
      case rel=>exact⟨k+1,by omega,by go_num,by rw[Aa q9,Aa HE];grind,((hf.trans f3).trans f4).trans f5,Aa q8 _ ((f3.trans f4).trans f5)⟩
      grind [B1,AK,A3]
     ·have HE:=Ab (show B1 c=[c] by grind [B1,AK,A3]);have e3:decide ((c.toNat:Int)<32)=false:=by simp;omega
      clear c1 c2 c3
      go_wp2_with (fail);refine (BB c _ rfl (Aa q5) (by simp;omega) q0).mono ?_
      rintro e w3 ⟨rfl,h3,f3⟩
      go_wp2_with (fail)
      go_roundw
      case rel=>exact⟨k+1,by omega,by go_num,by rw[Aa q9,Aa HE];grind,hf.trans f3,Aa q8 _ f3⟩
      grind [B1,AK,A3]
  ·go_wp2_with (fail);refine (BB 34 _ rfl (Aa q5) ?_ q0).mono ?_
   ·have:=J2 (s.take k);grind
   rintro e w3 ⟨rfl,h3,f3⟩
   go_wp2_with (fail)
   go_end0
   refine⟨rfl,?_,hf.trans f3⟩;rw[A1 (by omega)] at h3;simpa[Ag] using h3
def NB(w:A2)(g:Nat)(nb:Bool)(nd:By)(ne:Int):Prop:=w.heap[g]? = some (.cells #[.bool nb,.string ⟨nd.toArray⟩,.int .i64 ne] 108 (0,0))
section
variable{w:A2}{g:Nat}{nb:Bool}{nd:By}{ne:Int}
theorem NB.c0(h:NB w g nb nd ne):w.cell? ⟨g,0,none⟩=some (.bool nb):=by simp[A6,show w.heap[g]? = _ from h]
theorem NB.c1(h:NB w g nb nd ne):w.cell? ⟨g,1,none⟩=some (.string ⟨nd.toArray⟩):=by simp[A6,show w.heap[g]? = _ from h]
theorem NB.c2(h:NB w g nb nd ne):w.cell? ⟨g,2,none⟩=some (.int .i64 ne):=by simp[A6,show w.heap[g]? = _ from h]
theorem NB.fr(h:NB w g nb nd ne)(hf:Fr B b w w')(hb:g≠b):NB w' g nb nd ne:=hf.oth _ _ h hb (fun c e=>by grind)
theorem NB.low(h:NB w g nb nd ne)(hf:D0 w.heap.size w w'):NB w' g nb nd ne:=(hf.block g (Array.getElem?_eq_some_iff.1 h).1).trans h
end
theorem XR{l:By}{w:A2}(h:Bu B b l w):b<w.heap.size:=by
 rcases h with h|h
 ·exact h.lt
 ·exact h.lt
theorem Ki{q4:By}(n:Nm){w:A2}(h:Bu B b q4 w)(hl:q4.length+(Cm n).length<=140737488355328)(hB:B<=w.heap.size)(hT:Ai w)(qk:NG<=B)(h0:-100000000<=n.2.2)(h1:n.2.2<=100000000):
  D2 AT 103 #[.pointer (some ⟨b,0,none⟩),BV n] w fun e w'=>e=.returned (.tuple #[])/\Bu B b (q4++Cm n) w'/\Fr B b w w':=by
 obtain⟨nb,nd,ne⟩:=n;simp only at h0 h1;have qn:=XR h;have n0:NB (w.alloc (.cells #[.bool nb,.string ⟨nd.toArray⟩,.int .i64 ne] 108)) w.heap.size nb nd ne:=by
  show (w.heap.push _)[w.heap.size]? = _;simp
 have h2:=C8 h ((CL _ w).alloc (C1 _) (.cells #[.bool nb,.string ⟨nd.toArray⟩,.int .i64 ne] 108));have f0:Fr B b w (w.alloc (.cells #[.bool nb,.string ⟨nd.toArray⟩,.int .i64 ne] 108)):=⟨(CL _ w).alloc hB _,OKz.below ((CL _ w).alloc (C1 _) _)⟩
 obtain⟨T,q6⟩:∃T,T=Cm (nb,nd,ne):=⟨_,rfl⟩
 rw[<- q6] at hl |-;unfold Cm at q6;have HE:=Ab q6;clear q6;unfold BV
 go_enter func103,ntmps103
 go_wp2_with (fail);refine (SL (nb,nd,ne) _).mono ?_
 rintro e w1 ⟨rfl,hb1⟩;have h3:=C8 h2 hb1;have n1:=n0.low hb1;have f1:Fr B b w w1:=f0.trans ⟨hb1.mono (by first|omega|(simp;omega)),OKz.below hb1⟩;have q5:B<=w1.heap.size:=AI hB f1.low.size;simp only;clear h h2 n0 f0 hb1;cases hz:nd.isEmpty with
 | true=>
  obtain rfl:T=[48]:=by rw[Aa HE];grind
  clear hz
  go_wp2_with (fail);refine (BB 48 _ rfl h3 (by simp at hl;omega) q5).mono ?_
  rintro e w2 ⟨rfl,h4,f2⟩
  go_wp2_with (fail);refine bodyPost_ret (v:=.tuple #[]) (results_none (by kernel_rfl) _ _ _) rfl ?_
  exact⟨rfl,h4,f1.trans f2⟩
 | false=>
  obtain⟨Y,hY⟩:∃Y:By,Y=if ne=0 then [] else 101::Dp ne:=⟨_,rfl⟩
  have hE:T=(if nb then [45] else [])++(nd++Y):=by rw[Aa HE,hY];grind
  have q8:q4.length+(if nb then [45] else []:By).length+nd.length+Y.length<=140737488355328:=by rw[hE] at hl;simp only[A5] at hl;omega
  have qb:=Ab hE;have HY:=Ab hY;have q0:=n1.c0;clear hz hE hY hl;cases nb
  rotate_left
  focus
   go_wp2_with (fail);refine (BB 45 _ rfl h3 (by simp at q8;omega) q5).mono ?_
   rintro e w2 ⟨rfl,h4,q9⟩;have f2:=f1.trans q9;have n2:=n1.fr q9 (by omega);have qf:B<=w2.heap.size:=AI hB f2.low.size;clear q0 h3 n1 f1 q5 q9
  rotate_left
  have h4:Bu B b (q4++[]) w1:=by simpa using h3
  obtain⟨w2,hw⟩:∃w2,w2=w1:=⟨_,rfl⟩
  subst hw;have f2:=f1;have n2:=n1;have qf:=q5;clear h3 n1 f1 q5;all_goals (
   have q1:=n2.c1
   go_wp2_with (fail);refine (JI nd h4 (by simp at q8 |-; omega) qf).mono ?_
   rintro e w3 ⟨rfl,h5,qd⟩;have f3:=f2.trans qd;have n3:=n2.fr qd (by omega);have qi:B<=w3.heap.size:=AI hB f3.low.size;clear q1;have q2:=n3.c2;cases hx:(ne != 0) with
   | false=>
    obtain rfl:Y=[]:=by rw[Aa HY];grind
    go_wp2_with (fail)
    go_end0
    exact⟨rfl,by rw[Aa qb];simpa using h5,f3⟩
   | true=>
    have hY:Y=101::Dp ne:=by rw[Aa HY];grind
    have qh:=Ab hY;have qo:Y.length=1+(Dp ne).length:=by rw[hY];simp;omega
    clear hY
    go_wp2_with (fail);refine (BB 101 _ rfl h5 (by simp at q8 |-; omega) qi).mono ?_
    rintro e w4 ⟨rfl,h6,qe⟩;have f4:=f3.trans qe;have n4:=n3.fr qe (by omega);have qg:B<=w4.heap.size:=AI hB f4.low.size;have qm:=(hT.below (f4.low.mono qk)).tab;clear q2;have q2:=n4.c2
    go_wp2_with (fail);refine (Tryz.strconv_Itoa ne (by omega) (by omega) w4 qm).mono ?_
    rintro e w5 ⟨rfl,kk,os,rfl⟩;have q7:=Fu w4 kk os;have h7:=C8 h6 q7;have qj:B<=(D1 (w4.drewN kk) os).heap.size:=AI qg q7.size;have f5:Fr B b w4 (D1 (w4.drewN kk) os):=⟨q7.mono qg,OKz.below q7⟩
    generalize D1 (w4.drewN kk) os=w5 at *
    go_wp2_with (fail);refine (JI (Dp ne) h7 (by simp at q8 |-; omega) qj).mono ?_
    rintro e w6 ⟨rfl,h8,f6⟩
    go_wp2_with (fail)
    go_end0
    exact⟨rfl,by rw[Aa qb,Aa qh];simpa using h8,(f4.trans f5).trans f6⟩)
def Pp(f:Nat):Prop:=∀ (B b:Nat) (q0:By) (v:CD) (d:To) (w:A2) (F:Nat->Prop),Bu B b q0 w->Rep f F w v d->(∀k,F k->k<B)->Ai w->NG<=B->B<=w.heap.size->q0.length+(dZ f d).length<=8796093022208 ->
 D2 AT 78 #[.pointer (some ⟨b,0,none⟩),v] w fun e w'=>e=.returned (.tuple #[])/\Bu B b (q0++dZ f d) w'/\Fr B b w w'
theorem Rep.low{w:A2}{v:CD}{d:To}(h:Rep f F w v d)(hF:∀k,F k->k<B)(hb:D0 B w w'):Rep f F w' v d:=h.move fun k h1 _=>⟨hb.block k (hF k h1),h1⟩
theorem SV{q8:By}(hV:Pp f){g cap:Nat}{ps:List CD}{es:List To}{w:A2}(h:Bu B b q8 w)(hF:∀k,F k->k<B)(hT:Ai w)(q9:NG<=B)(hB:B<=w.heap.size)(hn:n=ps.length)(qr:n<=cap)(q6:cap<=Dt)(q7:∀k (h:k<ps.length),w.cell? ⟨g,k,none⟩=some ps[k])(hg:g<B)(hal:Al (Rep f F w) ps es)(hl:q8.length+(1+((Am (es.map (dZ f))).length+1))<=8796093022208):
  D2 AT 105 #[.pointer (some ⟨b,0,none⟩),.slice (some ⟨g,0,none⟩) n cap] w fun e w'=>e=.returned (.tuple #[])/\Bu B b (q8++91::(Am (es.map (dZ f))++[93])) w'/\Fr B b w w':=by
 have qo:=hal.length;have HN:=Ab hn;have qw:(n:Int)<=9223372036854775807:=by unfold Dt at q6;omega
 clear hn
 go_enter func105,ntmps105
 go_wp2_with (fail);refine (BB 91 _ rfl h (by omega) hB).mono ?_
 rintro e w1 ⟨rfl,h1,f1⟩
 go_wp2_with (fail);clear h
 go_loopw [10] (fun i wr=>∃k:Nat,k<=n/\i=.int .i64 k/\Bu B b (q8++91::Am ((es.map (dZ f)).take k)) wr/\Fr B b w wr) (fun i _=>n-(A3 i).toNat)
 case atStart=>grind [dZ,Am,AS]
 case round=>
  obtain⟨k,hk,rfl,qm,hf⟩:=hrel;have qd:=Ab qm;have qb:B<=wr.heap.size:=AI hB hf.low.size;have qv:=DF (es.map (dZ f)) k;have qp:=Aa HN;have qi:=Ab qo;have qj:=Ab qp;clear qm h1 f1 qo qp;by_cases hlt:k<n
  ·have qn:k<ps.length:=by have:=Aa qj;omega
   have qu:k<(es.map (dZ f)).length:=by have:=Aa qi;simp;omega
   have qf:k<es.length:=by grind
   have cc:wr.cell? ⟨g,k,none⟩=some ps[k]:=(hf.low.cell (p:=⟨g,k,none⟩) hg).trans (q7 k qn);have q4:=(hal.get k qn qf).low hF hf.low;have qg:=Ab (KQ (es.map (dZ f)) k qu);have qt:=DF (es.map (dZ f)) (k+1);have qe:(es.map (dZ f))[k]=dZ f es[k]:=by simp
   have q0:=congrArg D3 (Aa qg);rw[qe] at q0;simp only[A5] at q0;have q5:=Ab q4;have qh:=Ab qe;obtain⟨bb,qq,_⟩:=q4.ptr;clear q4 qe;generalize ps[k]=pk at *;subst qq;have qk:=hT.below (hf.low.mono q9);by_cases h0:0<k
   ·have e0:decide ((0:Int)<(k:Int))=true:=by simp;omega
    rw[if_pos h0] at q0;simp only[CR,AS] at q0
    go_wp2_with (fail);refine (BB 44 _ rfl (Aa qd) (by simp;omega) qb).mono ?_
    rintro e w3 ⟨rfl,h3,f3⟩
    go_wp2_with (fail);refine (hV B b _ _ es[k] w3 F h3 ((Aa q5).low hF f3.low) hF (qk.below (f3.low.mono q9)) q9 (AI qb f3.low.size) (by simp;omega)).mono ?_
    rintro e w4 ⟨rfl,h4,f4⟩
    go_wp2_with (fail)
    go_roundw
    case rel=>exact⟨k+1,by omega,by go_num,by rw[Aa qg,if_pos h0,Aa qh];grind,(hf.trans f3).trans f4⟩
    case measure=>simp[A3];omega
   ·have e0:decide ((0:Int)<(k:Int))=false:=by simp;omega
    rw[if_neg h0] at q0;simp only[AS] at q0
    go_wp2_with (fail);refine (hV B b _ _ es[k] wr F (Aa qd) (Aa q5) hF qk q9 qb (by simp;omega)).mono ?_
    rintro e w4 ⟨rfl,h4,f4⟩
    go_wp2_with (fail)
    go_roundw
    case rel=>exact⟨k+1,by omega,by go_num,by rw[Aa qg,if_neg h0,Aa qh];grind,hf.trans f4⟩
    case measure=>simp[A3];omega
  ·go_wp2_with (fail);refine (BB 93 _ rfl (Aa qd) (by simp;omega) qb).mono ?_
   rintro e w3 ⟨rfl,h3,f3⟩
   go_wp2_with (fail)
   go_end0
   refine⟨rfl,?_,hf.trans f3⟩;rw[A1 (by have:=Aa qi;have:=Aa qj;simp;omega)] at h3
   grind
theorem VA{q0:By}{w:A2}(h:Bu B b q0 w)(hB:B<=w.heap.size)(hl:q0.length+2<=140737488355328):
  D2 AT 105 #[.pointer (some ⟨b,0,none⟩),.slice none 0 0] w fun e w'=>e=.returned (.tuple #[])/\Bu B b (q0++91::([]++[93])) w'/\Fr B b w w':=by
 go_enter func105,ntmps105
 go_wp2_with (fail);refine (BB 91 _ rfl h (by omega) hB).mono ?_
 rintro e w1 ⟨rfl,h1,f1⟩
 go_wp2_with (fail);refine wp_loop_rounds 1 ?_
 rw[rounds_succ]
 go_wp2_with (fail);refine (BB 93 _ rfl h1 (by simp;omega) (AI hB f1.low.size)).mono ?_
 rintro e w3 ⟨rfl,h3,f3⟩
 go_wp2_with (fail)
 go_end0
 exact⟨rfl,by grind,f1.trans f3⟩
theorem Pt.keys{P:CD->To->Prop}:∀ {l:List (Lit×DataW CD)} {m:List (Lit×To)},Pt P l m->strKeys (.map l)=fB m
 | [],[],_=>rfl
 | a::r,b::s,⟨⟨kk,_⟩,t⟩=>by
  have h:=Pt.keys t;simp only[strKeys,fB,List.map_cons] at h |-;rw[kk,h];congr 1
theorem Pt.look{P:CD->To->Prop}(k:By):∀ {l:List (Lit×DataW CD)} {m:List (Lit×To)},Pt P l m->E0 (.map l) (.string k)=true -> ∃x,(DataW.map l).atKey (.string k) (.held (.pointer none))=.held x/\P x (fT m k)
 | [],[],_,h=>by cases h
 | a::r,b::s,⟨⟨kk,x,e,hp⟩,t⟩,h=>by
  cases hs:a.1.sameKey (.string k) with
  | true=>
   refine⟨x,?_,?_⟩
   ·simp[CH,hs,e]
   ·have hs2:b.1.sameKey (.string k)=true:=by grind
    simpa[fT,CH,hs2] using hp
  | false=>
   have hs2:b.1.sameKey (.string k)=false:=by grind
   have h2:E0 (.map r) (.string k)=true:=by
    have h3:(a::r).any (fun p=>p.1.sameKey (.string k))=true:=h;rw[List.any_cons,hs,Bool.false_or] at h3;exact h3
   obtain⟨y,h4,h5⟩:=Pt.look k t h2;refine⟨y,?_,?_⟩
   ·simpa[CH,C2,hs] using h4
   ·simpa[fT,CH,C2,hs2] using h5
theorem Pt.len{P:CD->To->Prop}:∀ {l:List (Lit×DataW CD)} {m:List (Lit×To)},Pt P l m->l.length=m.length
 | [],[],_=>rfl
 | _::_,_::_,⟨_,d⟩=>congrArg (· + 1) (Pt.len d)
def eP(es:List (Lit×To)):List By:=(fB es).mergeSort fun x y=>decide (x<=y)
def eX(f:Nat)(es:List (Lit×To))(k:By):By:=Ag k++58::dZ f (fT es k)
theorem kT(f:Nat)(es:List (Lit×To)):dZ (f+1) (Ap es)=123::(Am ((eP es).map (eX f es))++[125]):=rfl
theorem kK(es:List (Lit×To)):(eP es).length=es.length:=by
 grind [eP,fB,BY]
theorem kU(l:List By):l.length<=(BC l).length:=by
 induction l with
 | nil=>simp
 | cons x r ih=>simp[BC];omega
theorem kV(l:List By)(h:∀x∈l,0<x.length):l.length<=(Am l).length:=by
 cases l with
 | nil=>simp
 | cons x r=>have:=h x (by simp);have:=kU r;simp[Am];omega
theorem kL(s:By):s.length+2<=(Ag s).length:=by
 have h:∀s:By,s.length<=(AK s).length:=by
  intro s;induction s with
  | nil=>simp
  | cons c r ih=>
   grind [AK,Ag,B1]
 have:=h s;simp[Ag];omega
theorem iP(f:Nat)(es:List (Lit×To))(k:By):(eX f es k).length=(Ag k).length+(1+(dZ f (fT es k)).length):=by
 simp[eX];omega
theorem kW(f:Nat)(es:List (Lit×To)):es.length<=(Am ((eP es).map (eX f es))).length:=by
 have h:=kV ((eP es).map (eX f es)) (by
  grind [iP,kK,eP])
 grind [iP,kK,eP]
theorem TK{w:A2}(ho:w.ownsMap AT 9 RV m n (.map D))(hp:Pt (Rep f F w) D es){k:By}(hk:k∈eP es):
  E0 (.map D) (.string k)=true/\keyOf AT 9 (.string ⟨k.toArray⟩)=some (.string k):=by
 have h1:k∈strKeys (.map D):=by
  rw[hp.keys];exact (List.mergeSort_perm _ _).mem_iff.1 hk
 obtain⟨p,q5,hpk⟩:=List.mem_map.1 (show k∈D.map fun p=>strOf p.1 from h1);obtain⟨D',hD,q4⟩:=ho.keysOf;injection hD with hD;subst hD;obtain⟨key,q0⟩:=q4 p q5;obtain⟨x,hx,q6,q7⟩:=Maps.keyOf_str underlying9 q0;rw[q6] at hpk q0;have:x=k:=hpk;subst this;subst hx;refine⟨?_,q0⟩;rw[Maps.has_eq,List.any_eq_true];exact⟨p,q5,by rw[q6];simp[Lit.sameKey]⟩
def SR(w:A2)(g n:Nat)(ks:List By):Prop:=∃cur,w.heap[g]? = some (.cells cur 9 (0,0))/\cur.toList.take n=ks.map encStr
theorem SR.cell{w:A2}{g:Nat}{ks:List By}(h:SR w g n ks)(k:Nat)(hk:k<ks.length):w.cell? ⟨g,k,none⟩=some (.string ⟨ks[k].toArray⟩):=by
 obtain⟨cur,hb,ht⟩:=h;have h1:(ks.map encStr)[k]? = some (.string ⟨ks[k].toArray⟩):=by grind
 rw[<- ht] at h1;have q0:k<n:=by
  grind
 rw[List.getElem?_take_of_lt q0] at h1;simp[A6,hb]
 grind
theorem SR.fr{w:A2}{g:Nat}{ks:List By}(h:SR w g n ks)(hf:Fr B b w w')(hb:g≠b):SR w' g n ks:=by
 obtain⟨cur,h1,h2⟩:=h;exact⟨cur,hf.oth _ _ h1 hb (by grind),h2⟩
theorem YH{w:A2}(hF:∀k,F k->k<B)(hm:F m)(ho:w.ownsMap AT 9 RV m n (.map D))(hp:Pt (Rep f F w) D es)(hb:D0 B w w'):
  w'.ownsMap AT 9 RV m n (.map D)/\Pt (Rep f F w') D es:=⟨An ho (hb.block m (hF m hm)),hp.mono fun _ _ hr=>hr.low hF hb⟩
theorem cW{qo:By}(hV:Pp f){w:A2}(h:Bu B b qo w)(hF:∀k,F k->k<B)(hT:Ai w)(qd:NG<=B)(hB:B<=w.heap.size)(hm:F m)(ho:w.ownsMap AT 9 RV m n (.map D))(hp:Pt (Rep f F w) D es)(hl:qo.length+(1+((Am ((eP es).map (eX f es))).length+1))<=8796093022208):
  D2 AT 106 #[.pointer (some ⟨b,0,none⟩),.map (some m)] w fun e w'=>e=.returned (.tuple #[])/\Bu B b (qo++123::(Am ((eP es).map (eX f es))++[125])) w'/\Fr B b w w':=by
 have zf:=BE;have zg:=B3;have zt:=kW f es;have zv:=hp.len;have HO:=Ab (fun w' (hb:D0 B w w')=>YH hF hm ho hp hb);have zi:=Ab (fun k (hk:k∈eP es)=>TK ho hp hk);have zk:=Ab hp.keys;have zc:=h;clear ho hp
 go_enter func106,ntmps106
 go_wp2_with (fail);refine (BB 123 _ rfl h (by omega) hB).mono ?_
 rintro e w1 ⟨rfl,h1,f1⟩;have zl:B<=w1.heap.size:=AI hB f1.low.size
 go_wp2_with (fail);refine (callsIn_wide.1 (Tryz.maps_Keys_141 (some m) w1)).mono ?_
 rintro e w2 ⟨rfl,rfl⟩
 go_wp2_with (fail);refine (callsIn_wide.1 (Tryz.slices_Sorted_keys_140_141 m n (.map D) RV w1 (Aa HO w1 f1.low).1 (by rw[Bs];unfold Dt;omega) (by rw[Bs];omega))).mono ?_
 rintro e w3 ⟨v,ss,rfl,q5,qm,qk,hb3⟩;have q4:D0 w1.heap.size w1 w3:=((CL _ w1).alloc (C1 _) _).trans (hb3.mono (by simp));have h3:=C8 h1 q4;have f3:Fr B b w w3:=f1.trans ⟨q4.mono zl,OKz.below q4⟩;have zm:B<=w3.heap.size:=AI hB f3.low.size;have qp:ss.mergeSort (fun x y=>decide (x<=y))=eP es:=by
  rw[mergeSort_of_perm q5,Aa zk];rfl
 have q7:ss.length=(eP es).length:=by rw[<- qp,BY]
 rw[qp] at qm;have zn:=XR h1;have zo:(w1.alloc (.cells #[.map (some m)] 109)).heap.size=w1.heap.size+1:=by simp
 rcases qm with⟨zh,⟨rfl,zu⟩|⟨g,cap,cur,rfl,hg,hgb,qj,qv,zq,htk⟩⟩
 ·have qi:eP es=[]:=by grind
  have HE:=Ab qi;clear qp zh zu qk q5 h h1 f1 hb3 q4 qi q7 zc
  go_wp2_with (fail);refine wp_loop_rounds 1 ?_
  rw[rounds_succ]
  go_wp2_with (fail);refine (BB 125 _ rfl h3 (by simp;omega) zm).mono ?_
  rintro e w4 ⟨rfl,h4,f4⟩
  go_wp2_with (fail)
  go_end0
  refine⟨rfl,?_,f3.trans f4⟩;rw[Aa HE];simpa[Am] using h4
 ·have zw:SR w3 g (eP es).length (eP es):=⟨cur,hgb,by grind⟩
  have qg:g≠b:=by omega
  rw[q7] at qj |-;clear qp zh qk q5 h h1 f1 hb3 q4 hgb htk zq q7 zc;generalize qi:eP es=ks at *;have zz:(ks.length:Int)<=9223372036854775807:=by unfold Dt at qv;omega
  have zj:=Ab qi;clear qi
  go_wp2_with (fail)
  go_loopw [12] (fun i wr=>∃k:Nat,k<=ks.length/\i=.int .i64 k/\Bu B b (qo++123::Am ((ks.map (eX f es)).take k)) wr/\Fr B b w wr/\SR wr g ks.length ks) (fun i _=>ks.length-(A3 i).toNat)
  case atStart=>grind [eX,eP,Am]
  case round=>
   obtain⟨k,hk,rfl,ze,hf,qy⟩:=hrel;have qr:=Ab ze;have qe:B<=wr.heap.size:=AI hB hf.low.size;have zy:=DF (ks.map (eX f es)) k;clear ze h3 f3;by_cases hlt:k<ks.length
   ·have cc:=qy.cell k hlt;have zs:k<(ks.map (eX f es)).length:=by grind
    have qz:=Ab (KQ (ks.map (eX f es)) k zs);have zr:=DF (ks.map (eX f es)) (k+1);have qw:(ks.map (eX f es))[k]=eX f es ks[k]:=by simp
    have q0:=congrArg D3 (Aa qz);rw[qw] at q0;simp only[A5] at q0;have zx:=iP f es ks[k];have y3:=kL ks[k];have zb:=Aa zi ks[k] (List.getElem_mem hlt);have qq:=Ab zb
    have z1:=Ab qw;have z7:=Ab qy;clear zb qw qy;generalize ks[k]=key at *;have qh:=(Aa qq).2;have z6:=Ab qh;clear qh;have za:=hT.below (hf.low.mono qd);by_cases h0:0<k
    ·have e0:decide ((0:Int)<(k:Int))=true:=by simp;omega
     rw[if_pos h0] at q0;simp only[CR,AS] at q0
     go_wp2_with (fail);refine (BB 44 _ rfl (Aa qr) (by simp;omega) qe).mono ?_
     rintro e w4 ⟨rfl,h4,f4⟩;have z8:B<=w4.heap.size:=AI qe f4.low.size
     go_wp2_with (fail);refine (Eo key h4 (by simp;omega) z8).mono ?_
     rintro e w5 ⟨rfl,h5,f5⟩;have qb:B<=w5.heap.size:=AI z8 f5.low.size
     go_wp2_with (fail);refine (BB 58 _ rfl h5 (by simp;omega) qb).mono ?_
     rintro e w6 ⟨rfl,h6,f6⟩;have qt:B<=w6.heap.size:=AI qb f6.low.size;have q9:=(hf.trans f4).trans (f5.trans f6);have q6:=Aa HO w6 q9.low;obtain⟨x,px,qx,qf⟩:=q6.1.lookup zf underlying109 (zg w6) (zd:=.held (.pointer none)) (zp:=[]) rfl (Aa z6);obtain⟨y,qn,q8⟩:=Pt.look key q6.2 (Aa qq).1;rw[qn] at qf;obtain rfl:x=y:=by
      grind [eX,eP,Am,Bs,AS,RV,A3,Dt]
     have HY:=Ab q8;obtain⟨bb,qu,_⟩:=q8.ptr;subst qu;clear qf qn q8 q6
     go_wp2_with (fail);refine (hV B b _ _ (fT es key) w6 F h6 (Aa HY) hF (za.below (((f4.trans f5).trans f6).low.mono qd)) qd qt (by simp;omega)).mono ?_
     rintro e w7 ⟨rfl,h7,f7⟩
     go_wp2_with (fail)
     go_roundw
     case rel=>exact⟨k+1,by omega,by go_num,by rw[Aa qz,if_pos h0,Aa z1];simpa[eX] using h7,q9.trans f7,(Aa z7).fr (((f4.trans f5).trans f6).trans f7) qg⟩
     case measure=>simp[A3];omega
    ·have e0:decide ((0:Int)<(k:Int))=false:=by simp;omega
     rw[if_neg h0] at q0;simp only[AS] at q0
     go_wp2_with (fail);refine (Eo key (Aa qr) (by simp;omega) qe).mono ?_
     rintro e w5 ⟨rfl,h5,f5⟩;have qb:B<=w5.heap.size:=AI qe f5.low.size
     go_wp2_with (fail);refine (BB 58 _ rfl h5 (by simp;omega) qb).mono ?_
     rintro e w6 ⟨rfl,h6,f6⟩;have qt:B<=w6.heap.size:=AI qb f6.low.size;have q9:=hf.trans (f5.trans f6);have q6:=Aa HO w6 q9.low;obtain⟨x,px,qx,qf⟩:=q6.1.lookup zf underlying109 (zg w6) (zd:=.held (.pointer none)) (zp:=[]) rfl (Aa z6);obtain⟨y,qn,q8⟩:=Pt.look key q6.2 (Aa qq).1;rw[qn] at qf;obtain rfl:x=y:=by
      grind [eX,eP,Am,Bs,AS,RV,A3,Dt]
     have HY:=Ab q8;obtain⟨bb,qu,_⟩:=q8.ptr;subst qu;clear qf qn q8 q6
     go_wp2_with (fail);refine (hV B b _ _ (fT es key) w6 F h6 (Aa HY) hF (za.below ((f5.trans f6).low.mono qd)) qd qt (by simp;omega)).mono ?_
     rintro e w7 ⟨rfl,h7,f7⟩
     go_wp2_with (fail)
     go_roundw
     case rel=>exact⟨k+1,by omega,by go_num,by rw[Aa qz,if_neg h0,Aa z1];simpa[eX] using h7,q9.trans f7,(Aa z7).fr ((f5.trans f6).trans f7) qg⟩
     case measure=>simp[A3];omega
   ·go_wp2_with (fail);refine (BB 125 _ rfl (Aa qr) (by simp;omega) qe).mono ?_
    rintro e w4 ⟨rfl,h4,f4⟩
    go_wp2_with (fail)
    go_end0
    refine⟨rfl,?_,hf.trans f4⟩;rw[A1 (by simp;omega)] at h4;rw[Aa zj]
    grind
end Go.Proofs.YtdpomdelmdofmaaGreatDoor
