import Derived.Test.YtdpomdelmdofmaaGreatDoorRea43
open Go renaming getD_set_ne->AI,getD_set_true->AS,wpOp_step->AT,Value->A1,undef->CD,heap_alloc_new->CH,World->DD,bodyPost_ret->G0,Calls->G3
open Nat renaming le_refl->A3,le_trans->A6
open Go.Proofs.Tryz renaming prog->A4
open Go.RowKit renaming Below->A5,intOf->HA
open List renaming take_succ_eq_append_getElem->Bs,flatMap_append->Dt,getElem_mem->D2,length_cons->D3,take_of_length_le->E0,append_nil->Ft,length_map->FD,length_append->F7,flatMap_cons->G1,flatMap_nil->G2
open Or renaming inr->BY,inl->HK
open Go.RowKit.Below renaming refl->CL
open Go.World renaming cell?->CR,cell?_of_block->F1
open Go.World.ownsMap renaming update->C1
open List.cons renaming injEq->C2
open Option.some renaming inj->Dp
open Go.Value renaming ownBlock->D0
open Array renaming getElem?_eq_some_iff->D1
open UInt8 renaming toNat_inj->HD
open Go.Lib renaming BuilderAt->HG
open Go.DataW renaming put->HJ
set_option maxRecDepth 100000
set_option maxHeartbeats 4000000
namespace Go.Proofs.YtdpomdelmdofmaaGreatDoor
open Go.Proofs.Tryz Go.RowKit Go.Maps
variable{B b k f:Nat}{w w':DD}{ks:List By}{pv v kv fv vv:A1}{s:By}{l:Array Bool}{G:Nat->Prop}{o:dX}
theorem Ri{p:A1}{bs:List A1}(h:HG 119 5 B b p bs w)(hb:A5 w.heap.size w w'):HG 119 5 B b p bs w':=by
 obtain⟨hB,v,hv,q0,hne⟩:=h;refine⟨hB,v,(hb.block b (by grind)).trans hv,?_,hne⟩;refine⟨q0.1,q0.2.imp id ?_⟩;rintro⟨g,cap,cur,h1,h2,h3,h4⟩;exact⟨g,cap,cur,h1,h2,(hb.block g (by grind)).trans h3,h4⟩
theorem Vs{l:By}(h:Bu B b l w)(hb:A5 w.heap.size w w'):Bu B b l w':=Or.imp (fun h=>Ri h hb) (fun h=>Ri h hb) h
theorem UC{j:Nat}(hj:j<2){c:UInt8}(h:D5 j=c.toNat):Dd c=(EJ j).data.toList:=by
 match j,hj with
 | 0,_=>
  have:c=126:=HD.1 (by have:(126:Int)=c.toNat:=h;grind);subst this;rfl
 | 1,_=>
  have:c=47:=HD.1 (by have:(47:Int)=c.toNat:=h;grind);subst this;rfl
theorem Sa{c:UInt8}(h:∀j,j<2->D5 j≠c.toNat):Dd c=[c]:=by
 unfold Dd;rw[if_neg (fun e=>h 0 (by omega) (by rw[e];rfl)),if_neg (fun e=>h 1 (by omega) (by rw[e];rfl))]
theorem cX{q6:By}(c:UInt8)(h:Bu B b q6 w)(hl:q6.length+2<=140737488355328)(hB:B<=w.heap.size)(hT:ET w):
  G3 A4 207 #[.pointer (some ⟨b,0,none⟩),.int .u8 c.toNat] w fun e w'=>e=.returned (.tuple #[])/\Bu B b (q6++Dd c) w'/\Fr B b w w':=by
 obtain⟨ci,q7⟩:∃ci:Int,ci=c.toNat:=⟨_,rfl⟩
 rw[<- q7];have q5:=Ab q7;have HH:=Ab h;have HL:=Ab hl;have HB:=Ab hB;have hlt:4<w.heap.size:=by obtain⟨t,fr,e⟩:=hT;grind
 obtain⟨tt,fz,qg⟩:=hT;clear q7 h hl hB
 go_enter func207,ntmps207
 go_wp2_with (refine wpList_load_row rfl 256 _ rfl 4 rfl tt _ fz _ qg underlying256 rfl (by kernel_rfl) ?_)
 clear qg hlt
 go_loopw [7] (fun i wr=>∃j:Nat,j<=2/\i=.int .i64 j/\Hid (A5 w.heap.size w wr)/\Hid (∀q,q<j->D5 q≠ci)) (fun i _=>2-(HA i).toNat)
 case atStart=>exact⟨0,by omega,rfl,CL _ _,fun q hq=>absurd hq (by omega)⟩
 case round=>
  obtain⟨j,hj,rfl,q0,qf⟩:=hrel;by_cases h2:j=2
  ·subst h2;have HE:=Ab (Sa (c:=c) fun q hq=>by rw[<- Aa q5];exact Aa qf q hq);have HC:=Ab (BB c ci (Aa q5) (Vs (Aa HH) (Aa q0)) (by have:=Aa HL;omega) (A6 (Aa HB) (Aa q0).size))
   go_wp2_with (fail);refine (Aa HC).mono ?_
   rintro e w2 ⟨rfl,h1,h3⟩;have H1:=Ab h1;have H3:=Ab h3;clear h1 h3
   go_wp2_with (fail);refine bodyPost_end (results_none rfl _ _ _) rfl ⟨rfl,?_,?_⟩
   ·rw[Aa HE];exact Aa H1
   ·exact Fr.trans ⟨(Aa q0).mono (Aa HB),OKz.below (Aa q0)⟩ (Aa H3)
  ·have q9:j<2:=by omega
   have qj:(j:Int)<2:=by omega
   have q8:=fun w1=>Qs j q9 w1;by_cases hh:D5 j=ci
   ·have e1:(D5 j==ci)=true:=by grind
    have HE:=Ab (UC q9 (c:=c) (hh.trans (Aa q5)));have qb:=Mm j q9;have hpk:EJ j=⟨(EJ j).data.toList.toArray⟩:=by rfl
    obtain⟨l,qh⟩:∃l,l=(EJ j).data.toList:=⟨_,rfl⟩
    rw[<- qh] at hpk HE;have qd:l.length=2:=by rw[hpk,Bc] at qb;exact qb
    rw[hpk] at q8;have q4:A5 w.heap.size w (wr.alloc (.cells #[.string ⟨l.toArray⟩,.int .u8 (D5 j)] 255)):=(Aa q0).alloc (Aa q0).size _;have HC:=Ab (JI l (Vs (Aa HH) q4) (by have:=Aa HL;omega) (A6 (Aa HB) q4.size));have qe:=Ab q4;clear qb hpk qh qd q4 hh;generalize D5 j=pb at *
    go_wp2_with (fail);refine (Aa HC).mono ?_
    rintro e w2 ⟨rfl,h1,h3⟩;have H1:=Ab h1;have H3:=Ab h3;clear h1 h3
    go_wp2_with (fail);refine G0 (v:=.tuple #[]) (results_none rfl _ _ _) rfl ⟨rfl,?_,?_⟩
    ·rw[Aa HE];exact Aa H1
    ·exact Fr.trans ⟨(Aa qe).mono (Aa HB),OKz.below (Aa qe)⟩ (Aa H3)
   ·have e1:(D5 j==ci)=false:=by grind
    have qi:=Ab (show ∀q,q<j+1->D5 q≠ci from fun q hq=>if e:q=j then e▸hh else Aa qf q (by omega));clear hh;generalize EJ j=pk at *;generalize D5 j=pb at *
    go_wp2_with (fail);exact⟨⟨j+1,by omega,by go_num,(Aa q0).alloc (Aa q0).size _,qi⟩,by simp[HA];omega⟩
theorem Tx(h:k<ks.length):AE (ks.take (k+1))=AE (ks.take k)++47::Bw ks[k]:=by
 rw[Bs h];simp only[AE,Dt,G1,G2,Ft]
theorem S7{t:By}(h:k<t.length):Bw (t.take (k+1))=Bw (t.take k)++Dd t[k]:=by
 rw[Bs h];simp only[Bw,Dt,G1,G2,Ft]
theorem Tw(k:Nat):(AE (ks.take k)).length<=(AE ks).length:=by
 have h:AE ks=AE (ks.take k)++AE (ks.drop k):=by
  conv=>lhs;rw[<- List.take_append_drop k ks]
  simp only[AE,Dt]
 grind
theorem PJ(hp:CW w pv ks)(hs:(ks.map fun t=>t.length+1).sum<=1000000)(hT:ET w):
  G3 A4 165 #[pv] w fun e w'=>e=.returned (.string ⟨(AE ks).toArray⟩)/\A5 w.heap.size w w':=by
 obtain⟨B,q7⟩:∃B,B=w.heap.size:=⟨_,rfl⟩
 obtain⟨W0,q9⟩:∃W0,W0=w.alloc (.cells #[.pointer none,.slice none 0 0] 119):=⟨_,rfl⟩
 have qr:A5 B w W0:=by rw[q9,q7];exact (CL _ _).alloc (A3 _) _
 have qx:W0.heap.size=B+1:=by simp_all
 have h0:Bu B B [] W0:=HK ⟨A3 _,.slice none 0 0,by rw[q9,q7];show (w.heap.push _)[w.heap.size]? = _;simp,World.ownsRow_nil _ _ _ _,by simp[D0]⟩;obtain⟨zh,qw⟩:=Jb ks;have zj:=Hf ks;obtain⟨N,hN⟩:∃N,N=ks.length:=⟨_,rfl⟩
 obtain⟨ao,cap,zk,q0⟩:∃ao cap,pv=.slice ao N cap/\(0<N -> ∃g o,ao=some ⟨g,o,none⟩/\g<B/\N<=cap /\ ∀k (hk:k<ks.length),w.cell? ⟨g,o+k,none⟩=some (.string ⟨ks[k].toArray⟩)):=by
  rcases hp with⟨rfl,a,c,rfl,_⟩|⟨g,o,cap,rfl,h2,_,hg,hc⟩
  ·grind
  ·exact⟨_,cap,by rw[hN],by grind⟩
 subst zk;have qd:=Ab qr;have qp:=Ab qx;have H0:=Ab h0;have HC:=Ab q0;have HT:=Ab hT;have HL:=Ab (show (∀t∈ks,t.length<=1000000)/\(AE ks).length<=2000000 from⟨fun t ht=>by have:=qw t ht;omega,by omega⟩);have HN:=Ab hN;have qm:=Ab q7;have zc:=Ab q9;have zq:(N:Int)<=1000000:=by omega
 have zo:=fun W s=>Lib.run_convert_string_bytes (P:=A4) W 9 117 5 s underlying9 underlying117 underlying5;rw[<- q7];clear hp hs hT qr qx h0 zh qw zj q0 hN q7 q9
 go_enter func165,ntmps165
 go_wp2_with (fail);rw[<- Aa zc,<- Aa qm]
 go_loopw [10] (fun i wr=>∃k:Nat,k<=N/\i=.int .i64 k/\Hid (Bu B B (AE (ks.take k)) wr)/\Hid (Fr B B W0 wr)) (fun i _=>N-(HA i).toNat)
 case atStart=>exact⟨0,by omega,rfl,by simpa[AE] using H0,Fr.refl _ _ _⟩
 case round=>
  obtain⟨k,hk,rfl,qn,HF⟩:=hrel;have qf:B<=wr.heap.size:=by have:=(Aa HF).low.size;have:=Aa qp;omega
  by_cases hlt:k<N
  ·have qh:k<ks.length:=by have:=Aa HN;omega
   obtain⟨g,o,zg,hg,qg,hc⟩:=Aa HC (by omega);subst zg;have ck:wr.cell? ⟨g,o+k,none⟩=some (.string ⟨ks[k].toArray⟩):=((((Aa qd).trans (Aa HF).low).cell (p:=⟨g,o+k,none⟩) hg)).trans (hc k qh);have qq:=Ab (Tx qh);have zl:=(Aa HL).1 _ (D2 qh);obtain⟨t,ht⟩:∃t,t=ks[k]:=⟨_,rfl⟩
   rw[<- ht] at ck qq zl;have hpk:=A6 (Tw (ks:=ks) k) (Aa HL).2;have qi:(k:Int)<(N:Int):=by omega
   have zi:(k:Int)<(cap:Int):=by omega
   have zr:(N:Int)<=(cap:Int):=by omega
   have qo:=Ab (BB 47 47 rfl (Aa qn) (by omega) qf);clear ht hc
   go_wp2_with (fail);refine (Aa qo).mono ?_
   rintro e w1 ⟨rfl,h1,f1⟩;obtain⟨cs,fz,q8,qu,qt,qb⟩:=M5 w1 t;have ze:B<=w1.heap.size:=A6 qf f1.low.size;have H2:=Ab (C8 h1 qb);have F2:=Ab (((Aa HF).trans f1).trans ⟨qb.mono ze,OKz.below qb⟩);have hgb:w1.heap.size≠B:=by
    rcases h1 with h1|h1
    ·have:=h1.lt;omega
    ·have:=h1.lt;omega
   have za:=Ab q8;have z6:=Ab qu;have qy:=Ab qt;clear h1 f1 qb q8 qu qt qo ck hg qg
   go_wp2_with (fail);generalize Lib.bytesWorld w1 5 ⟨t.toArray⟩=w2 at *
   go_loopw [18] (fun i wx=>∃j:Nat,j<=t.length/\i=.int .i64 j/\Hid (Bu B B (AE (ks.take k)++47::Bw (t.take j)) wx)/\Hid (Fr B B W0 wx)/\Hid (wx.heap[w1.heap.size]? = some (.cells cs 5 fz))) (fun i _=>t.length-(HA i).toNat)
   case atStart=>grind [AE,Bw,HA]
   case round=>
    obtain⟨j,hj,rfl,q5,qe,z8⟩:=hrel;have zf:B<=wr.heap.size:=by have:=(Aa qe).low.size;have:=Aa qp;omega
    by_cases qv:j<t.length
    ·have qk:wr.heap[w1.heap.size]? = some (.cells cs 5 fz):=Aa z8;have cc:wr.cell? ⟨w1.heap.size,j,none⟩=some (.int .u8 (t[j].toNat:Int)):=by simp[CR,qk,Aa qy j qv]
     have q6:=Ab (S7 qv);have zm:(Bw (t.take j)).length<=2*t.length:=by
      have h1:=JJ (t.take j)
      grind
     have z7:Hid (∀w':DD,Fr B B wr w'->w'.heap[w1.heap.size]? = some (.cells cs 5 fz)):=fun w' h=>h.oth _ _ qk hgb (fun c e=>by injection e with _ _ e;exact Aa z6 e);obtain⟨c,hc⟩:∃c,c=t[j]:=⟨_,rfl⟩
     rw[<- hc] at cc q6;have qz:=Ab (cX c (Aa q5) (by grind) zf ((Aa HT).kept (Aa qm▸((Aa qd).trans (Aa qe).low))));have qj:(j:Int)<(t.length:Int):=by omega
     have zn:=c.toNat_lt;clear hc qk
     go_wp2_with (fail);refine (Aa qz).mono ?_
     rintro e w5 ⟨rfl,h5,f5⟩;have H5:=Ab h5;have F5:=Ab f5;clear h5 f5
     go_wp2_with (fail);exact⟨⟨j+1,by omega,by go_num,by rw[Aa q6];grind,(Aa qe).trans (Aa F5),Aa z7 _ (Aa F5)⟩,by simp[HA];omega⟩
    ·obtain rfl:j=t.length:=by omega
     have qj:¬ ((t.length:Nat):Int)<((t.length:Nat):Int):=by omega
     have q4:=Aa q5;rw[List.take_length,<- Aa qq] at q4;have z1:=Ab q4;clear q4
     go_wp2_with (fail)
     grind [AE,Bw,HA]
  ·obtain rfl:k=N:=by omega
   have qi:¬ (k:Int)<(k:Int):=by omega
   have h9:=Aa qn;rw[E0 (by have:=Aa HN;omega)] at h9;have zb:=Ab (Tryz.Builder_String_any B B _ wr h9 qf);clear h9
   go_wp2_with (fail);refine (Aa zb).mono ?_
   rintro e w2 ⟨rfl,hb2⟩
   go_wp2_with (fail)
   go_ret;exact⟨by simp,((Aa qd).trans (Aa HF).low).trans hb2⟩
def elD(b1 b2:Bool)(x y:A1):List (Lit×DataW A1):=(if b1 then [(.string fF,.held x)] else [])++(if b2 then [(.string AZ,.held y)] else [])
theorem cG(b2:Bool)(x x' y:A1):HJ (.map (elD false b2 x' y)) (.string fF) (.held x)=.map (elD true b2 x y):=by cases b2<;>rfl
theorem cF(b1:Bool)(x y y':A1):HJ (.map (elD b1 false x y')) (.string AZ) (.held y)=.map (elD b1 true x y):=by cases b1<;>rfl
theorem cE(x y z:A1):HJ (.map (elD true true x y)) (.string AU) (.held z)=.map (elD true true x y++if true then [(.string AU,.held z)] else []):=rfl
def StB(w:DD)(B:Nat)(v:A1)(s:By):Prop:=∃p,v=.pointer (some ⟨p,0,none⟩)/\B<=p/\VB w p 4 n0 s (.slice none 0 0) (.map none)
theorem StB.keep(h:StB w B v s)(hk:∀p,p<w.heap.size->(∃c t f,w.heap[p]? = some (.cells c t f))->w'.heap[p]? = w.heap[p]?):StB w' B v s:=by
 obtain⟨p,h1,h2,h3⟩:=h;exact⟨p,h1,h2,h3.kept (hk p h3.lt ⟨_,_,_,h3⟩)⟩
theorem StB.mono{B':Nat}(h:StB w B v s)(hB:B'<=B):StB w B' v s:=by
 obtain⟨p,h1,h2,h3⟩:=h;exact⟨p,h1,A6 hB h2,h3⟩
def elA(t0:A1)(q1 q3:Nat)(t6 t7 t8 x4 x9 x10 x11 x12 x13 x14 x15 x16 x17:A1):Act:=
 { tmps:=#[t0,.pointer (some ⟨q1,0,none⟩),.pointer none,.pointer (some ⟨q3,0,none⟩),x4,.pointer (some ⟨q1,0,none⟩),t6,t7,t8,x9,x10,x11,x12,x13,x14,x15,x16,x17,CD,CD,CD,CD,CD,CD,CD,CD,CD,CD,CD,CD,CD,CD,CD],defers:=[] }
structure ElI(wb:DD)(t0:A1)(q1 q3:Nat)(t6 t7 t8:A1)(nm:By)(pv:A1)(ps:By)(l:Array Bool)(a:Act)(w:DD):Prop where
 sz:l.size=12
 bel:A5 wb.heap.size wb w
 d4:l.getD 4 false=true->l.getD 3 false=true/\l.getD 0 false=true
 d9:l.getD 9 false=true->l.getD 8 false=true/\l.getD 0 false=true
 d10:l.getD 10 false=true->l.getD 9 false=true/\l.getD 0 false=true
 d11:l.getD 11 false=true->l.getD 10 false=true/\l.getD 0 false=true
 ex:∃x4 x9 x10 x11 x12 x13 x14 x15 x16 x17,a=elA t0 q1 q3 t6 t7 t8 x4 x9 x10 x11 x12 x13 x14 x15 x16 x17 /\
  (l.getD 1 false=true->x10=.pointer (some ⟨q3,0,none⟩))/\(l.getD 2 false=true->x11=.string ⟨nm.toArray⟩)/\(l.getD 3 false=true->StB w wb.heap.size x12 nm) /\
  (l.getD 5 false=true->x13=.pointer (some ⟨q1,1,none⟩))/\(l.getD 6 false=true->x14=pv)/\(l.getD 7 false=true->x15=.string ⟨ps.toArray⟩)/\(l.getD 8 false=true->StB w wb.heap.size x16 ps) /\
  (l.getD 0 false=true -> ∃M n,x9=.map (some M)/\wb.heap.size<=M/\n<=(if l.getD 4 false then 1 else 0)+(if l.getD 9 false then 1 else 0)/\w.ownsMap A4 9 RV M n (.map (elD (l.getD 4 false) (l.getD 9 false) x12 x16))) /\
  (l.getD 10 false=true->x17=x9)/\(l.getD 11 false=true->x4=x9)
theorem OP(h:l.size=12)(i j:Nat)(hi:i<12):(l.setIfInBounds i true).getD j false=if i=j then true else l.getD j false:=by
 by_cases e:i=j
 ·simp_all
 simp_all
theorem IK{M n:Nat}{D:DataW A1}(h:w.ownsMap A4 9 RV M n D){p:Nat}(hp:∃c t f,w.heap[p]? = some (.cells c t f)):p≠M:=by
 rintro rfl;obtain⟨es,q0,hb,_⟩:=h
 grind
theorem ElI.low{wb:DD}{t0:A1}{q1 q3:Nat}{t6 t7 t8:A1}{nm:By}{ps:By}{a:Act}(h:ElI wb t0 q1 q3 t6 t7 t8 nm pv ps l a w)(hb:A5 w.heap.size w w'):ElI wb t0 q1 q3 t6 t7 t8 nm pv ps l a w':=by
 obtain⟨hsz,q0,q8,q9,q4,q5,x4,x9,x10,x11,x12,x13,x14,x15,x16,x17,ha,e1,e2,e3,e5,e6,e7,e8,e0,q6,q7⟩:=h;refine⟨hsz,q0.trans (hb.mono q0.size),q8,q9,q4,q5,x4,x9,x10,x11,x12,x13,x14,x15,x16,x17,ha,e1,e2,fun h=>(e3 h).keep fun p hp _=>hb.block p hp,e5,e6,e7,fun h=>(e8 h).keep fun p hp _=>hb.block p hp,fun h=>?_,q6,q7⟩;obtain⟨M,n,m1,m2,m3,m4⟩:=e0 h;exact⟨M,n,m1,m2,m3,An m4 (hb.block M (Bg m4))⟩
theorem Ar{i j m:Nat}(h:i≠j)(e:l.getD j false=true->l.getD k false=true/\l.getD m false=true):(l.setIfInBounds i true).getD j false=true->(l.setIfInBounds i true).getD k false=true/\(l.setIfInBounds i true).getD m false=true:=fun h'=>
 have h2:=e ((AI _ h).symm.trans h')
 ⟨AS h2.1,AS h2.2⟩
def cV(w:DD)(nm ps:By)(nv:Bool)(y:A1)(e:Ending)(w':DD):Prop:=∃p M x12 x16,e=.returned (.pointer (some ⟨p,0,none⟩))/\VB w' p 6 n0 [] (.slice none 0 0) (.map (some M))/\w.heap.size<=p/\w.heap.size<=M /\
 StB w' w.heap.size x12 nm/\StB w' w.heap.size x16 ps/\A5 w.heap.size w w'/\w'.ownsMap A4 9 RV M 3 (.map (elD true true x12 x16++if nv then [(.string AU,.held y)] else []))
theorem UM{pa y:Option Addr}{pl pc:Nat}{nm ps:By}{nv:Bool}(hk:k<6)(hl:3<w.heap.size)(c0:w.cell? ⟨3,k*3,none⟩=some (.string ⟨nm.toArray⟩))(c1:w.cell? ⟨3,k*3+1,none⟩=some (.bool nv))(c2:w.cell? ⟨3,k*3+2,none⟩=some (.bool false))(hS:∀w',A5 w.heap.size w w'->G3 A4 165 #[.slice pa pl pc] w' fun e zm=>e=.returned (.string ⟨ps.toArray⟩)/\A5 w'.heap.size w' zm):
  G3 A4 122 #[.agg #[.int .i64 k,.slice pa pl pc,.slice none 0 0,.pointer y]] w (cV w nm ps nv (.pointer y)):=by
 have hk2:(k:Int)<6:=by omega
 have zc:=@run_makeMap A4
 go_enter func122,ntmps122
 go_upto_region 2 with (fail)
 obtain⟨wb,qn⟩:∃wb,wb=((w.alloc (.cells #[.int .i64 k,.slice pa pl pc,.slice none 0 0,.pointer y] 178)).alloc (.cells #[.string ⟨nm.toArray⟩,.bool nv,.bool false] 219)):=⟨_,rfl⟩
 rw[<- qn];have zl:wb.heap.size=w.heap.size+2:=by simp_all
 have qk:A5 w.heap.size w wb:=by rw[qn];exact ((CL _ _).alloc (A3 _) _).alloc (by simp) _
 have b1:wb.heap[w.heap.size]? = some (.cells #[.int .i64 k,.slice pa pl pc,.slice none 0 0,.pointer y] 178 (0,0)):=by rw[qn];exact (Below.heap_alloc _ _ _ (by simp)).trans (CH w _)
 have b3:wb.heap[w.heap.size+1]? = some (.cells #[.string ⟨nm.toArray⟩,.bool nv,.bool false] 219 (0,0)):=by
  rw[qn];have:=CH (w.alloc (.cells #[.int .i64 k,.slice pa pl pc,.slice none 0 0,.pointer y] 178)) (.cells #[.string ⟨nm.toArray⟩,.bool nv,.bool false] 219)
  simp_all
 go_cut [4] (fun s4 wx=>∃M x12 x16,s4=.map (some M)/\StB wx wb.heap.size x12 nm/\StB wx wb.heap.size x16 ps/\wb.heap.size<=M/\wx.ownsMap A4 9 RV M 2 (.map (elD true true x12 x16))/\A5 wb.heap.size wb wx)
 case first=>
  refine wp_region_any (by kernel_rfl) ?_;refine Ik (ElI wb (.agg #[.int .i64 k,.slice pa pl pc,.slice none 0 0,.pointer y]) w.heap.size (w.heap.size+1) (.int .i64 k) (.pointer (some ⟨3,k*3,none⟩)) (.agg #[.string ⟨nm.toArray⟩,.bool nv,.bool false]) nm (.slice pa pl pc) ps) ?hs ?he _ _ _ _ ?hc ?h0
  case hc=>decide
  case h0=>
   refine⟨rfl,⟨rfl,rfl,rfl,A3 _,fun _ _=>rfl⟩,?_,?_,?_,?_,CD,CD,CD,CD,CD,CD,CD,CD,CD,CD,rfl,?_⟩;all_goals simp
  case he=>
   intro l a w1 hI hr;have qe:=Dz hI.sz (by kernel_rfl) hr;obtain⟨hsz,q0,qb,qd,q4,q6,x4,x9,x10,x11,x12,x13,x14,x15,x16,x17,rfl,e1,e2,e3,e5,e6,e7,e8,e0,q8,q9⟩:=hI;have g4:=qe 4 (by decide);have g9:=qe 9 (by decide);obtain⟨M,n,rfl,m2,m3,m4⟩:=e0 (qe 0 (by decide));rw[g4,g9] at m3 m4;obtain rfl:=q9 (qe 11 (by decide));have s1:=e3 (qe 3 (by decide));have s2:=e8 (qe 8 (by decide));unfold elA
   go_wp2_with (fail)
   go_meet
   exact⟨M,x12,x16,rfl,s1,s2,m2,m4.mono m3,q0⟩
  case hs=>
   intro l a w1 hI i hi;obtain⟨hno,haft⟩:=BD hi;have zf:i<12:=by
    obtain⟨_,o,ho,_⟩:=mem_ready.1 hi;exact (D1.1 ho).1
   have qr:=hI;obtain⟨hsz,q0,qb,qd,q4,q6,x4,x9,x10,x11,x12,x13,x14,x15,x16,x17,rfl,e1,e2,e3,e5,e6,e7,e8,e0,q8,q9⟩:=hI;have qf:=q0;have ze:=qk.trans (q0.mono qk.size);have qo:i=0\/i=1\/i=2\/i=3\/i=4\/i=5\/i=6\/i=7\/i=8\/i=9\/i=10\/i=11:=by omega
   rcases qo with rfl|rfl|rfl|rfl|rfl|rfl|rfl|rfl|rfl|rfl|rfl|rfl
   ·refine AT rfl fun K hK=>?_;unfold elA
    go_simp;have hb2:A5 w1.heap.size w1 (w1.alloc (.map #[] 0)):=(CL _ _).alloc (A3 _) _
    have zq:l.getD 0 false=false:=by grind
    have qj:l.getD 4 false=false:=by
     grind
    have zi:l.getD 9 false=false:=by
     grind
    obtain⟨hsz,q0,qb,qd,q4,q6,y4,y9,qx,qy,qz,z1,z6,z7,z8,za,ha,e1,e2,e3,e5,e6,e7,e8,e0,q8,q9⟩:=qr.low hb2;injection ha with ha _;injection ha with ha;simp only[C2,true_and,and_true] at ha;obtain⟨rfl,rfl,rfl,rfl,rfl,rfl,rfl,rfl,rfl,rfl⟩:=ha;refine hK _ _ ⟨by simp[hsz],q0,Ar (by decide) qb,Ar (by decide) qd,Ar (by decide) q4,Ar (by decide) q6,_,_,_,_,_,_,_,_,_,_,rfl,Ac (by decide) e1,Ac (by decide) e2,Ac (by decide) e3,Ac (by decide) e5,Ac (by decide) e6,Ac (by decide) e7,Ac (by decide) e8,?_,fun h=>absurd (q4 ((AI _ (by decide)).symm.trans h)).2 (by grind),fun h=>absurd (q6 ((AI _ (by decide)).symm.trans h)).2 (by grind)⟩;intro _;rw[AI false (show 0≠4 by decide),AI false (show 0≠9 by decide),qj,zi];exact⟨w1.heap.size,0,rfl,by have:=qf.size;omega,by simp,World.ownsMap_made w1 _ _ _⟩
   ·refine AT rfl fun K hK=>?_;unfold elA
    go_simp;refine hK _ _ ⟨by simp[hsz],q0,Ar (by decide) qb,Ar (by decide) qd,Ar (by decide) q4,Ar (by decide) q6,_,_,_,_,_,_,_,_,_,_,rfl,fun _=>rfl,Ac (by decide) e2,Ac (by decide) e3,Ac (by decide) e5,Ac (by decide) e6,Ac (by decide) e7,Ac (by decide) e8,?_,Ac (by decide) q8,Ac (by decide) q9⟩
    rw[AI false (show 1≠4 by decide),AI false (show 1≠9 by decide)];exact Ac (by decide) e0
   ·obtain rfl:=e1 (haft _ rfl ⟨1,.data⟩ (by simp) rfl);have hc:w1.cell? ⟨w.heap.size+1,0,none⟩=some (.string ⟨nm.toArray⟩):=by
     have:=(q0.block (w.heap.size+1) (by omega)).trans b3;simp[CR,this]
    refine AT rfl fun K hK=>?_;unfold elA
    go_simp;refine hK _ _ ⟨by simp[hsz],q0,Ar (by decide) qb,Ar (by decide) qd,Ar (by decide) q4,Ar (by decide) q6,_,_,_,_,_,_,_,_,_,_,rfl,Ac (by decide) e1,fun _=>rfl,Ac (by decide) e3,Ac (by decide) e5,Ac (by decide) e6,Ac (by decide) e7,Ac (by decide) e8,?_,Ac (by decide) q8,Ac (by decide) q9⟩
    rw[AI false (show 2≠4 by decide),AI false (show 2≠9 by decide)];exact Ac (by decide) e0
   ·obtain rfl:=e2 (haft _ rfl ⟨2,.data⟩ (by simp) rfl);refine AT rfl fun K hK=>?_;unfold elA
    go_simp;refine (IB nm).mono ?_
    rintro e w2 ⟨rfl,qw,hb2,hs2⟩;show K _ _;obtain⟨hsz,q0,qb,qd,q4,q6,y4,y9,qx,qy,qz,z1,z6,z7,z8,za,ha,e1,e2,e3,e5,e6,e7,e8,e0,q8,q9⟩:=qr.low hb2;injection ha with ha _;injection ha with ha;simp only[C2,true_and,and_true] at ha;obtain⟨rfl,rfl,rfl,rfl,rfl,rfl,rfl,rfl,rfl,rfl⟩:=ha;refine hK _ _ ⟨by simp[hsz],q0,Ar (by decide) qb,Ar (by decide) qd,Ar (by decide) q4,Ar (by decide) q6,_,_,_,_,_,_,_,_,_,_,rfl,Ac (by decide) e1,Ac (by decide) e2,fun _=>⟨_,rfl,qf.size,qw⟩,Ac (by decide) e5,Ac (by decide) e6,Ac (by decide) e7,Ac (by decide) e8,?_,Ac (by decide) q8,Ac (by decide) q9⟩;have zh:l.getD 3 false=false:=by grind
    have qj:l.getD 4 false=false:=by
     grind
    rw[AI false (show 3≠4 by decide),AI false (show 3≠9 by decide),qj];rw[qj] at e0;exact Ac (by decide) e0
   ·have dd:=haft _ rfl ⟨3,.data⟩ (by simp) rfl;obtain⟨p,rfl,zj,zk⟩:=e3 dd;obtain⟨M,n,rfl,m2,m3,m4⟩:=e0 (haft _ rfl ⟨0,.data⟩ (by simp) rfl);have qt:l.getD 4 false=false:=by grind
    rw[qt] at m3 m4;have zg:n<=1:=by
     grind
    obtain⟨w2,qh,qu,qp⟩:=C1 m4 BE underlying109 (by unfold maxLen;omega) (ED fF (by decide)) (show RV (.pointer (some ⟨p,0,none⟩))=some (.held (.pointer (some ⟨p,0,none⟩)),[]) from rfl);rw[cG] at qu;unfold fF at qh;have qi:∀q,q<w1.heap.size->(∃c t f,w1.heap[q]? = some (.cells c t f))->w2.heap[q]? = w1.heap[q]?:=fun q hq hc=>qp.block q hq (fun e=>IK m4 hc (Dp e));have qg:A5 wb.heap.size wb w2:=q0.grown qp q0.size (by grind);have e3:l.getD 3 false=true->StB w2 wb.heap.size (.pointer (some ⟨p,0,none⟩)) nm:=fun h=>(e3 h).keep qi;have e8:=fun h=>(e8 h).keep qi;refine AT rfl fun K hK=>?_;unfold elA
    go_simp;refine hK _ _ ⟨by simp[hsz],qg,fun _=>⟨AS dd,AS (haft _ rfl ⟨0,.data⟩ (by simp) rfl)⟩,Ar (by decide) qd,Ar (by decide) q4,Ar (by decide) q6,_,_,_,_,_,_,_,_,_,_,rfl,Ac (by decide) e1,Ac (by decide) e2,Ac (by decide) e3,Ac (by decide) e5,Ac (by decide) e6,Ac (by decide) e7,Ac (by decide) e8,?_,Ac (by decide) q8,Ac (by decide) q9⟩
    intro _;rw[OP hsz 4 4 (by decide),if_pos rfl,AI false (show 4≠9 by decide)]
    grind
   ·refine AT rfl fun K hK=>?_;unfold elA
    go_simp;refine hK _ _ ⟨by simp[hsz],q0,Ar (by decide) qb,Ar (by decide) qd,Ar (by decide) q4,Ar (by decide) q6,_,_,_,_,_,_,_,_,_,_,rfl,Ac (by decide) e1,Ac (by decide) e2,Ac (by decide) e3,fun _=>rfl,Ac (by decide) e6,Ac (by decide) e7,Ac (by decide) e8,?_,Ac (by decide) q8,Ac (by decide) q9⟩
    rw[AI false (show 5≠4 by decide),AI false (show 5≠9 by decide)];exact Ac (by decide) e0
   ·obtain rfl:=e5 (haft _ rfl ⟨5,.data⟩ (by simp) rfl);have hc:w1.cell? ⟨w.heap.size,1,none⟩=some (.slice pa pl pc):=by
     have:=(q0.block w.heap.size (by omega)).trans b1;simp[CR,this]
    refine AT rfl fun K hK=>?_;unfold elA
    go_simp;refine hK _ _ ⟨by simp[hsz],q0,Ar (by decide) qb,Ar (by decide) qd,Ar (by decide) q4,Ar (by decide) q6,_,_,_,_,_,_,_,_,_,_,rfl,Ac (by decide) e1,Ac (by decide) e2,Ac (by decide) e3,Ac (by decide) e5,fun _=>rfl,Ac (by decide) e7,Ac (by decide) e8,?_,Ac (by decide) q8,Ac (by decide) q9⟩
    rw[AI false (show 6≠4 by decide),AI false (show 6≠9 by decide)];exact Ac (by decide) e0
   ·obtain rfl:=e6 (haft _ rfl ⟨6,.data⟩ (by simp) rfl);refine AT rfl fun K hK=>?_;unfold elA
    go_simp;refine (hS w1 ze).mono ?_
    rintro e w2 ⟨rfl,hb2⟩;show K _ _;obtain⟨hsz,q0,qb,qd,q4,q6,y4,y9,qx,qy,qz,z1,z6,z7,z8,za,ha,e1,e2,e3,e5,e6,e7,e8,e0,q8,q9⟩:=qr.low hb2;injection ha with ha _;injection ha with ha;simp only[C2,true_and,and_true] at ha;obtain⟨rfl,rfl,rfl,rfl,rfl,rfl,rfl,rfl,rfl,rfl⟩:=ha;refine hK _ _ ⟨by simp[hsz],q0,Ar (by decide) qb,Ar (by decide) qd,Ar (by decide) q4,Ar (by decide) q6,_,_,_,_,_,_,_,_,_,_,rfl,Ac (by decide) e1,Ac (by decide) e2,Ac (by decide) e3,Ac (by decide) e5,Ac (by decide) e6,fun _=>rfl,Ac (by decide) e8,?_,Ac (by decide) q8,Ac (by decide) q9⟩;rw[AI false (show 7≠4 by decide),AI false (show 7≠9 by decide)];exact Ac (by decide) e0
   ·obtain rfl:=e7 (haft _ rfl ⟨7,.data⟩ (by simp) rfl);refine AT rfl fun K hK=>?_;unfold elA
    go_simp;refine (IB ps).mono ?_
    rintro e w2 ⟨rfl,qw,hb2,hs2⟩;show K _ _;obtain⟨hsz,q0,qb,qd,q4,q6,y4,y9,qx,qy,qz,z1,z6,z7,z8,za,ha,e1,e2,e3,e5,e6,e7,e8,e0,q8,q9⟩:=qr.low hb2;injection ha with ha _;injection ha with ha;simp only[C2,true_and,and_true] at ha;obtain⟨rfl,rfl,rfl,rfl,rfl,rfl,rfl,rfl,rfl,rfl⟩:=ha;refine hK _ _ ⟨by simp[hsz],q0,Ar (by decide) qb,Ar (by decide) qd,Ar (by decide) q4,Ar (by decide) q6,_,_,_,_,_,_,_,_,_,_,rfl,Ac (by decide) e1,Ac (by decide) e2,Ac (by decide) e3,Ac (by decide) e5,Ac (by decide) e6,Ac (by decide) e7,fun _=>⟨_,rfl,qf.size,qw⟩,?_,Ac (by decide) q8,Ac (by decide) q9⟩;have zh:l.getD 8 false=false:=by grind
    have qj:l.getD 9 false=false:=by
     grind
    rw[AI false (show 8≠4 by decide),AI false (show 8≠9 by decide),qj];rw[qj] at e0;exact Ac (by decide) e0
   ·have dd:=haft _ rfl ⟨8,.data⟩ (by simp) rfl;obtain⟨p,rfl,zj,zk⟩:=e8 dd;obtain⟨M,n,rfl,m2,m3,m4⟩:=e0 (haft _ rfl ⟨0,.data⟩ (by simp) rfl);have qt:l.getD 9 false=false:=by grind
    rw[qt] at m3 m4;have zg:n<=1:=by
     grind
    obtain⟨w2,qh,qu,qp⟩:=C1 m4 BE underlying109 (by unfold maxLen;omega) (ED AZ (by decide)) (show RV (.pointer (some ⟨p,0,none⟩))=some (.held (.pointer (some ⟨p,0,none⟩)),[]) from rfl);rw[cF] at qu;unfold AZ at qh;have qi:∀q,q<w1.heap.size->(∃c t f,w1.heap[q]? = some (.cells c t f))->w2.heap[q]? = w1.heap[q]?:=fun q hq hc=>qp.block q hq (fun e=>IK m4 hc (Dp e));have qg:A5 wb.heap.size wb w2:=q0.grown qp q0.size (by grind);have e3:=fun h=>(e3 h).keep qi;have e8:l.getD 8 false=true->StB w2 wb.heap.size (.pointer (some ⟨p,0,none⟩)) ps:=fun h=>(e8 h).keep qi;refine AT rfl fun K hK=>?_;unfold elA
    go_simp;refine hK _ _ ⟨by simp[hsz],qg,Ar (by decide) qb,fun _=>⟨AS dd,AS (haft _ rfl ⟨0,.data⟩ (by simp) rfl)⟩,Ar (by decide) q4,Ar (by decide) q6,_,_,_,_,_,_,_,_,_,_,rfl,Ac (by decide) e1,Ac (by decide) e2,Ac (by decide) e3,Ac (by decide) e5,Ac (by decide) e6,Ac (by decide) e7,Ac (by decide) e8,?_,Ac (by decide) q8,Ac (by decide) q9⟩
    intro _;rw[OP hsz 9 9 (by decide),if_pos rfl,AI false (show 9≠4 by decide)]
    grind
   ·refine AT rfl fun K hK=>?_;unfold elA
    go_simp;refine hK _ _ ⟨by simp[hsz],q0,Ar (by decide) qb,Ar (by decide) qd,fun _=>⟨AS (haft _ rfl ⟨9,.data⟩ (by simp) rfl),AS (haft _ rfl ⟨0,.data⟩ (by simp) rfl)⟩,Ar (by decide) q6,_,_,_,_,_,_,_,_,_,_,rfl,Ac (by decide) e1,Ac (by decide) e2,Ac (by decide) e3,Ac (by decide) e5,Ac (by decide) e6,Ac (by decide) e7,Ac (by decide) e8,?_,fun _=>rfl,Ac (by decide) q9⟩
    rw[AI false (show 10≠4 by decide),AI false (show 10≠9 by decide)];exact Ac (by decide) e0
   ·obtain rfl:=q8 (haft _ rfl ⟨10,.data⟩ (by simp) rfl);refine AT rfl fun K hK=>?_;unfold elA
    go_simp;refine hK _ _ ⟨by simp[hsz],q0,Ar (by decide) qb,Ar (by decide) qd,Ar (by decide) q4,fun _=>⟨AS (haft _ rfl ⟨10,.data⟩ (by simp) rfl),AS (haft _ rfl ⟨0,.phase⟩ (by simp) rfl)⟩,_,_,_,_,_,_,_,_,_,_,rfl,Ac (by decide) e1,Ac (by decide) e2,Ac (by decide) e3,Ac (by decide) e5,Ac (by decide) e6,Ac (by decide) e7,Ac (by decide) e8,?_,Ac (by decide) q8,fun _=>rfl⟩
    rw[AI false (show 11≠4 by decide),AI false (show 11≠9 by decide)];exact Ac (by decide) e0
 case rest=>
  obtain⟨M,x12,x16,rfl,hx,hy,hM,ho,qm⟩:=hcut;have zn:=qm.size;have hin:∀j,j<wb.heap.size->j≠M:=fun j hj e=>by omega
  have g1:=(qm.block (w.heap.size+1) (by omega)).trans b3;have g2:=(qm.block w.heap.size (by omega)).trans b1;have q1:wc.cell? ⟨w.heap.size+1,1,none⟩=some (.bool nv):=by simp[CR,g1]
  have q2:wc.cell? ⟨w.heap.size+1,2,none⟩=some (.bool false):=by simp[CR,g1]
  have q3:wc.cell? ⟨w.heap.size,3,none⟩=some (.pointer y):=by simp[CR,g2]
  have HB:=Ab (qk.trans (qm.mono qk.size));have zo:w.heap.size+2<=wb.heap.size:=by omega
  cases nv with
  | false=>
   have HX:=Ab hx;have HY:=Ab hy;have HO:=Ab ho;clear hx hy ho qm g1 g2 qk b1 b3 qn zc hS c0 c1 c2 hin
   go_wp2_with (fail)
   go_ret;have q7:∀o:Obj,A5 wc.heap.size wc (wc.alloc o):=fun o=>(CL _ _).alloc (A3 _) _
   refine⟨wc.heap.size,M,x12,x16,rfl,CH wc _,by omega,by omega,?_,?_,(Aa HB).trans ((q7 _).mono (Aa HB).size),?_⟩
   ·exact ((Aa HX).keep fun p hp _=>(q7 _).block p hp).mono (by omega)
   ·exact ((Aa HY).keep fun p hp _=>(q7 _).block p hp).mono (by omega)
   ·rw[if_neg (by decide),Ft];exact (An (Aa HO) ((q7 _).block M (Bg (Aa HO)))).mono (by omega)
  | true=>
   obtain⟨w3,qh,qv,qq⟩:=C1 ho BE underlying109 (by unfold maxLen;omega) (ED AU (by decide)) (show RV (.pointer y)=some (.held (.pointer y),[]) from rfl);rw[cE] at qv;unfold AU at qh;have qi:∀q,q<wc.heap.size->(∃c t f,wc.heap[q]? = some (.cells c t f))->w3.heap[q]? = wc.heap[q]?:=fun q hq hc=>qq.block q hq (fun e=>IK ho hc (Dp e));have q5:w3.cell? ⟨w.heap.size+1,2,none⟩=some (.bool false):=by
    have:=(qq.block (w.heap.size+1) (by omega) (fun e=>hin _ (by omega) (Dp e))).trans g1;simp[CR,this]
   have HX:=Ab (hx.keep qi);have HY:=Ab (hy.keep qi);have HO:=Ab qv;have zb:=Ab ((Aa HB).grown qq (Aa HB).size (by grind));have zr:=qq.size;clear hx hy ho qv qq qi qm g1 g2 qk b1 b3 qn zc hS c0 c1 c2 hin
   go_wp2_with (fail)
   go_ret;have q7:∀o:Obj,A5 w3.heap.size w3 (w3.alloc o):=fun o=>(CL _ _).alloc (A3 _) _
   refine⟨w3.heap.size,M,x12,x16,rfl,CH w3 _,by omega,by omega,?_,?_,(Aa zb).trans ((q7 _).mono (Aa zb).size),?_⟩
   ·exact ((Aa HX).keep fun p hp _=>(q7 _).block p hp).mono (by omega)
   ·exact ((Aa HY).keep fun p hp _=>(q7 _).block p hp).mono (by omega)
   ·rw[if_pos rfl];exact An (Aa HO) ((q7 _).block M (Bg (Aa HO)))
def LS(f:Nat)(w:DD)(G:Nat->Prop)(kv pv fv vv:A1)(o:dX):Prop:=
 kv=.int .i64 o.1/\o.1<3/\Aw w G pv o.2.1/\fv=.slice none 0 0/\((o.1=1/\vv=.pointer none)\/(o.1≠1/\Rep f G w vv o.2.2))
theorem LS.move{G':Nat->Prop}(h:LS f w G kv pv fv vv o)(hk:∀k,G k->k<w.heap.size->w'.heap[k]? = w.heap[k]? /\ G' k):LS f w' G' kv pv fv vv o:=
 ⟨h.1,h.2.1,h.2.2.1.move hk,h.2.2.2.1,h.2.2.2.2.imp id fun ⟨a,b⟩=>⟨a,b.move hk⟩⟩
theorem Rep.dn{d x:Int}{F:Nat->Prop}{w:DD}:∀ {f g h:Nat} {lv:Int} {v:A1} {t:To},Rep f F w v t->dY d x h lv t->d<lv+g->Rep g F w v t
 | 0,_,_,_,_,_,hr,_,_=>hr.elim
 | _+1,_,0,_,_,_,_,hg,_=>hg.elim
 | _+1,0,_+1,_,_,_,_,hg,hd=>by
  have:=hg.1;omega
 | f+1,g+1,h+1,lv,v,t,hr,hg,hd=>by
  obtain⟨b,e,hF,hr⟩:=hr;refine⟨b,e,hF,?_⟩;rcases hr with⟨k,hk,e2,hv⟩|⟨n,e2,hv,hb⟩|⟨s,e2,hv⟩|⟨es,sl,ps,e2,hv,ho,hs,ha⟩|⟨es,m,n,D,e2,hv,hm,ho,hp⟩
  ·grind
  ·grind
  ·grind
  ·refine BY (BY (BY (HK ⟨es,sl,ps,e2,hv,ho,hs,Al.mem (fun a c hc hu=>?_) ha⟩)));obtain⟨_,hg⟩:=hg;rcases hg with⟨k,_,e3⟩|⟨s,_,e3⟩|⟨n,_,_,_,e3⟩|⟨es',he,e3⟩|⟨es',_,_,e3⟩
   ·rw[e2] at e3;cases e3
   ·rw[e2] at e3;cases e3
   ·rw[e2] at e3;cases e3
   ·rw[e2] at e3;injection e3 with e3 _;subst e3;exact Rep.dn hu (he c hc) (by omega)
   ·rw[e2] at e3;cases e3
  ·refine BY (BY (BY (BY ⟨es,m,n,D,e2,hv,hm,ho,Pt.mem (fun a p hc hu=>?_) hp⟩)));obtain⟨_,hg⟩:=hg;rcases hg with⟨k,_,e3⟩|⟨s,_,e3⟩|⟨n,_,_,_,e3⟩|⟨es',_,e3⟩|⟨es',_,he,e3⟩
   ·rw[e2] at e3;cases e3
   ·rw[e2] at e3;cases e3
   ·rw[e2] at e3;cases e3
   ·rw[e2] at e3;cases e3
   ·rw[e2] at e3;injection e3 with e3;subst e3;exact Rep.dn hu (he p hc).2 (by omega)
def RF(k:Nat):Bool:=!(k==1)
theorem TH(h:H9 w)(hk:k<3):3<w.heap.size/\w.cell? ⟨3,k*3,none⟩=some (.string ⟨(AM k).toArray⟩)/\w.cell? ⟨3,k*3+1,none⟩=some (.bool (RF k))/\w.cell? ⟨3,k*3+2,none⟩=some (.bool false):=by
 obtain⟨t,fr,e⟩:=h;have hc:∀i,w.cell? ⟨3,i,none⟩=CB[i]?:=fun i=>by simp[CR,e]
 refine⟨by grind,?_⟩;rw[hc,hc,hc]
 match k,hk with
 | 0,_=>exact⟨rfl,rfl,rfl⟩
 | 1,_=>exact⟨rfl,rfl,rfl⟩
 | 2,_=>exact⟨rfl,rfl,rfl⟩
theorem StB.rep(h:StB w B v s){F:Nat->Prop}(hF:∀k,B<=k->F k):Rep (f+1) F w v (Ao s):=by
 obtain⟨p,rfl,h1,h2⟩:=h;exact⟨p,rfl,hF p h1,by grind⟩
theorem UO(h:LS (f+1) w G kv pv fv vv o)(hs:(o.2.1.map fun t=>t.length+1).sum<=1000000)(hT:Ai w):
  G3 A4 122 #[.agg #[kv,pv,fv,vv]] w fun e w'=>∃p,e=.returned (.pointer (some ⟨p,0,none⟩))/\w.heap.size<=p/\Rep (f+2) (fun q=>(G q/\q<w.heap.size)\/w.heap.size<=q) w' (.pointer (some ⟨p,0,none⟩)) (AQ o)/\A5 w.heap.size w w':=by
 obtain⟨rfl,hk,ht,rfl,hv⟩:=h;obtain⟨pa,pl,pc,rfl⟩:=Fq ht;obtain⟨y,rfl⟩:∃y,vv=.pointer y:=by
  rcases hv with⟨_,rfl⟩|⟨_,hr⟩
  ·grind
  ·obtain⟨b,e,_⟩:=Rep.ptr hr;grind
 obtain⟨hl,c0,c1,c2⟩:=TH hT.otab hk;refine (UM (nm:=AM o.1) (ps:=AE o.2.1) (by omega) hl c0 c1 c2 fun w' hb=>PJ (ht.move fun k hk q0=>⟨hb.block k q0,hk⟩).toks hs (hT.below (hb.mono hT.ng)).pesc).mono ?_;rintro e w' ⟨p,M,x12,x16,rfl,hvb,hp,hM,h1,h2,hb,ho⟩;refine⟨p,rfl,hp,?_,hb⟩;have r1:Rep (f+1) (fun q=>(G q/\q<w.heap.size)\/w.heap.size<=q) w' x12 (Ao (AM o.1)):=h1.rep fun k hk=>BY hk;have r2:Rep (f+1) (fun q=>(G q/\q<w.heap.size)\/w.heap.size<=q) w' x16 (Ao (AE o.2.1)):=h2.rep fun k hk=>BY hk;rcases hv with⟨q4,e⟩|⟨q4,hr⟩
 ·have en:RF o.1=false:=by rw[q4];rfl
  rw[en] at ho;refine⟨p,rfl,BY hp,BY (BY (BY (BY ⟨[(.string fF,Ao (AM o.1)),(.string AZ,Ao (AE o.2.1))],M,3,_,?_,hvb,BY hM,ho,?_⟩)))⟩
  ·unfold AQ;grind
  ·exact⟨⟨rfl,x12,rfl,r1⟩,⟨rfl,x16,rfl,r2⟩,trivial⟩
 ·have en:RF o.1=true:=by unfold RF;grind
  rw[en] at ho;refine⟨p,rfl,BY hp,BY (BY (BY (BY ⟨[(.string fF,Ao (AM o.1)),(.string AZ,Ao (AE o.2.1)),(.string AU,o.2.2)],M,3,_,?_,hvb,BY hM,ho,?_⟩)))⟩
  ·unfold AQ;grind
  ·exact⟨⟨rfl,x12,rfl,r1⟩,⟨rfl,x16,rfl,r2⟩,⟨rfl,.pointer y,rfl,hr.move fun k hk q0=>⟨hb.block k q0,HK ⟨hk,q0⟩⟩⟩,trivial⟩
theorem W7(hf:0<f)(h:LS f w G kv pv fv vv o)(hs:(o.2.1.map fun t=>t.length+1).sum<=1000000)(hT:Ai w):
  G3 A4 122 #[.agg #[kv,pv,fv,vv]] w fun e w'=>∃p,e=.returned (.pointer (some ⟨p,0,none⟩))/\w.heap.size<=p/\Rep (f+1) (fun q=>(G q/\q<w.heap.size)\/w.heap.size<=q) w' (.pointer (some ⟨p,0,none⟩)) (AQ o)/\A5 w.heap.size w w':=by
 cases f with
 | zero=>omega
 | succ f=>exact UO h hs hT
theorem Rep.arr{F:Nat->Prop}{es:List To}{sl:A1}{ps:List A1}(hF:F b)(h:VB w b 5 n0 [] sl (.map none))(ho:w.ownsRow 0 80 1 sl ps.length ps)(hs:∀g,sl.ownBlock=some g->F g)(ha:Al (Rep f F w) ps es):Rep (f+1) F w (.pointer (some ⟨b,0,none⟩)) (Af es):=
 ⟨b,rfl,hF,by grind⟩
structure TxI(wb:DD)(B vb:Nat)(sl:A1)(n:Nat)(xs:List A1)(ov:A1)(f:Nat)(F:Nat->Prop)(d:To)(A:A1->A1->A1->A1->A1->A1->A1->A1->A1->A1->A1->Act)(l:Array Bool)(a:Act)(w:DD):Prop where
 sz:l.size=12
 os:w.os=wb.os
 tape:w.tape=wb.tape
 output:w.output=wb.output
 size:wb.heap.size<=w.heap.size
 kept:∀k,k<wb.heap.size->sl.ownBlock≠some k->k≠vb->w.heap[k]? = wb.heap[k]?
 row0:l.getD 8 false=false -> ∀k,sl.ownBlock=some k->w.heap[k]? = wb.heap[k]?
 vb0:l.getD 11 false=false->w.heap[vb]? = wb.heap[vb]?
 d7:l.getD 7 false=true->l.getD 6 false=true/\l.getD 6 false=true
 d8:l.getD 8 false=true->l.getD 7 false=true/\l.getD 4 false=true
 d11:l.getD 11 false=true->l.getD 8 false=true/\l.getD 10 false=true
 ex:∃x14 x15 x16 x17 x18 x19 x20 x21 x22 x23 x24,a=A x14 x15 x16 x17 x18 x19 x20 x21 x22 x23 x24 /\
  (l.getD 0 false=true->x14=.pointer (some ⟨vb,0,none⟩))/\(l.getD 1 false=true->x15=.pointer (some ⟨vb,0,none⟩))/\(l.getD 2 false=true->x16=.pointer (some ⟨vb,0,none⟩))/\(l.getD 3 false=true->x17=.pointer (some ⟨vb,5,none⟩)) /\
  (l.getD 4 false=true->x18=sl)/\(l.getD 5 false=true->x19=ov)/\(l.getD 6 false=true->Hid (∃p,x20=.pointer p))/\(l.getD 6 false=true->l.getD 8 false=false->Rep f (fun q=>F q\/wb.heap.size<=q) w x20 d) /\
  (l.getD 7 false=true -> ∃g,x21=.slice (some ⟨g,0,none⟩) 1 1/\wb.heap.size<=g/\(l.getD 8 false=false->w.heap[g]? = some (.cells #[x20] 80 (0,0)))) /\
  (l.getD 8 false=true -> ∃q cap,x22=.slice (some ⟨q,0,none⟩) (n+1) cap/\w.ownsRow B 80 1 x22 (n+1) (xs++[x20])/\(sl.ownBlock=some q\/wb.heap.size<=q)/\Rep f (fun k=>(F k\/wb.heap.size<=k)/\k≠q) w x20 d) /\
  (l.getD 9 false=true->x23=.pointer (some ⟨vb,0,none⟩))/\(l.getD 10 false=true->x24=.pointer (some ⟨vb,5,none⟩))/\(l.getD 11 false=true->VB w vb 5 n0 [] x22 (.map none))
structure TxR(w:DD)(G:Nat->Prop)(f:Nat)(j:List dX)(k:Nat)(xs:List A1)(sl:A1)(wr:DD):Prop where
 bel:A5 w.heap.size w wr
 box:VB wr w.heap.size 5 n0 [] sl (.map none)
 own:wr.ownsRow (w.heap.size+1) 80 1 sl k xs
 al:Al (Rep f (fun q=>(G q/\q<w.heap.size)\/(w.heap.size+1<=q/\sl.ownBlock≠some q)) wr) xs ((j.take k).map AQ)
theorem RB{ao:Option Addr}{N cap:Nat}{j:List dX}(hf:0<f)(hN:N=j.length)(qt:0<N -> ∃g,ao=some ⟨g,0,none⟩/\g<w.heap.size/\N<=cap /\ ∀k (hk:k<j.length),∃pa pl pc y,LS f w G (.int .i64 j[k].1) (.slice pa pl pc) (.slice none 0 0) (.pointer y) j[k]/\w.cell? ⟨g,k*4,none⟩=some (.int .i64 j[k].1)/\w.cell? ⟨g,k*4+1,none⟩=some (.slice pa pl pc)/\w.cell? ⟨g,k*4+2,none⟩=some (.slice none 0 0)/\w.cell? ⟨g,k*4+3,none⟩=some (.pointer y))(hp:∀o∈j,(o.2.1.map fun t=>t.length+1).sum<=1000000)(hn:N<=10000000000000)(hl:(dZ (f+2) (Af (j.map AQ))).length<=8796093022208)(hT:Ai w):
  G3 A4 87 #[.slice ao N cap] w fun e w'=>e=.returned (.string ⟨(dZ (f+2) (Af (j.map AQ))).toArray⟩)/\A5 w.heap.size w w':=by
 have zg:=hT.ng;obtain⟨W0,qu⟩:∃W0,W0=w.alloc (.cells #[.int .i64 5,.bool false,.string ⟨#[]⟩,.int .i64 0,.string ⟨#[]⟩,.slice none 0 0,.map none] 111):=⟨_,rfl⟩
 have ze:A5 w.heap.size w W0:=by rw[qu];exact (CL _ _).alloc (A3 _) _
 have H0:=Ab (show TxR w G (f+1) j 0 [] (.slice none 0 0) W0 from⟨ze,by rw[qu];exact CH w _,⟨rfl,HK ⟨rfl,rfl⟩⟩,by rw[List.take_zero];trivial⟩);have HN:=Ab hN;have qx:=Ab qt;have HP:=Ab hp;have HL:=Ab hl;have HT:=Ab hT;have zt:=Ab qu;clear hN qt hp hl hT qu ze
 go_enter func87,ntmps87
 go_wp2_with (fail);rw[<- Aa zt]
 go_loopw [10] (fun i wr=>∃ (k:Nat) (xs:List A1) (sl:A1),k<=N/\i=.int .i64 k/\Hid (TxR w G (f+1) j k xs sl wr)) (fun i _=>N-(HA i).toNat)
 case atStart=>grind
 case round=>
  obtain⟨k,xs,sl,hk,rfl,HI⟩:=hrel;by_cases hlt:k<N
  ·have z1:k<j.length:=by have:=Aa HN;omega
   obtain⟨g,rfl,hg,zx,hc⟩:=Aa qx (by omega);obtain⟨pa,pl,pc,y,ho,c0,c1,c2,c3⟩:=hc k z1;obtain⟨kk,hkk⟩:∃kk,kk=j[k].1:=⟨_,rfl⟩
   rw[<- hkk] at ho c0;have qo:=(Aa HI).bel;have k0:=(qo.cell (p:=⟨g,k*4,none⟩) hg).trans c0;have k1:=(qo.cell (p:=⟨g,k*4+1,none⟩) hg).trans c1;have k2:=(qo.cell (p:=⟨g,k*4+2,none⟩) hg).trans c2;have k3:=(qo.cell (p:=⟨g,k*4+3,none⟩) hg).trans c3;have z7:(k:Int)<(N:Int):=by omega
   have y4:(k:Int)<(cap:Int):=by omega
   have yc:(N:Int)<=(cap:Int):=by omega
   have HO:=Ab ho;clear hc c0 c1 c2 c3 hkk ho qo
   go_upto_region 5 with (fail)
   obtain⟨wb,zb⟩:∃wb,wb=wr.alloc (.cells #[.int .i64 kk,.slice pa pl pc,.slice none 0 0,.pointer y] 178):=⟨_,rfl⟩
   rw[<- zb];have hI:=Aa HI;have y7:=hI.bel.size;have y8:=hI.box.lt;have y9:wb.heap.size=wr.heap.size+1:=by simp_all
   have qv:A5 wr.heap.size wr wb:=by rw[zb];exact (CL _ _).alloc (A3 _) _
   have hob:wb.heap[wr.heap.size]? = some (.cells #[.int .i64 kk,.slice pa pl pc,.slice none 0 0,.pointer y] 178 (0,0)):=by rw[zb];exact CH wr _
   have p0:wb.cell? ⟨wr.heap.size,0,none⟩=some (.int .i64 kk):=by simp_all
   have p1:wb.cell? ⟨wr.heap.size,1,none⟩=some (.slice pa pl pc):=by simp_all
   have p2:wb.cell? ⟨wr.heap.size,2,none⟩=some (.slice none 0 0):=by simp_all
   have p3:wb.cell? ⟨wr.heap.size,3,none⟩=some (.pointer y):=by simp_all
   have hvb:VB wb w.heap.size 5 n0 [] sl (.map none):=hI.box.kept (qv.block _ y8);have zw:=hvb.c5;have q9:wb.ownsRow (w.heap.size+1) 80 1 sl k xs:=Be hI.own fun r hr=>qv.block r (Ay hI.own r hr).1;have z8:∀r,sl.ownBlock=some r->r<wb.heap.size:=fun r hr=>(Ay q9 r hr).1;have qk:sl.ownBlock≠some w.heap.size:=fun e=>by have:=(Ay q9 _ e).2;omega
   have qq:sl.ownBlock≠some wr.heap.size/\wr.heap.size≠w.heap.size:=⟨fun e=>by have:=(Ay hI.own _ e).1;omega,by omega⟩
   obtain⟨d,hd⟩:∃d,d=AQ j[k]:=⟨_,rfl⟩
   have q6:A5 w.heap.size w wb:=hI.bel.trans (qv.mono y7);have zk:∀W:DD,(W.os=wb.os/\W.tape=wb.tape/\W.output=wb.output/\wb.heap.size<=W.heap.size /\ ∀q,q<wb.heap.size->sl.ownBlock≠some q->q≠w.heap.size->W.heap[q]? = wb.heap[q]?)->G3 A4 122 #[.agg #[.int .i64 kk,.slice pa pl pc,.slice none 0 0,.pointer y]] W fun e w'=>∃p,e=.returned (.pointer (some ⟨p,0,none⟩))/\W.heap.size<=p/\Rep (f+1) (fun q=>((G q/\q<w.heap.size)/\q<W.heap.size)\/W.heap.size<=q) w' (.pointer (some ⟨p,0,none⟩)) d/\A5 W.heap.size W w':=by
    rintro W ⟨h1,h2,h3,h4,h5⟩;have zf:A5 w.heap.size w W:=⟨h1.trans q6.os,h2.trans q6.tape,h3.trans q6.output,A6 q6.size h4,fun q hq=>(h5 q (by omega) (fun e=>by have:=(Ay q9 q e).2;omega) (by omega)).trans (q6.block q hq)⟩
    rw[hd];exact W7 hf (G:=fun q=>G q/\q<w.heap.size) ((Aa HO).move fun q hq qw=>⟨zf.block q qw,hq,qw⟩) (Aa HP _ (D2 z1)) ((Aa HT).below (zf.mono zg))
   obtain⟨i0,zz,h⟩:=Option.map_eq_some_iff.1 SF;injection h with hz0 h;injection h with hz2 hz3;obtain⟨z0,zj⟩:∃z0,z0=Value.pointer none:=⟨_,rfl⟩
   rw[<- zj] at hz0;have ya:z0.cells.size=1:=by rw[zj];rfl
   refine wp_region_any (by kernel_rfl) ?_;refine Ik (TxI wb (w.heap.size+1) w.heap.size sl k xs (.agg #[.int .i64 kk,.slice pa pl pc,.slice none 0 0,.pointer y]) (f+1) (fun q=>G q/\q<w.heap.size) d (fun x14 x15 x16 x17 x18 x19 x20 x21 x22 x23 x24=>{ tmps:=#[.slice (some ⟨g,0,none⟩) N cap,CD,.string ⟨#[]⟩,.pointer (some ⟨w.heap.size,0,none⟩),CD,.pointer (some ⟨wr.heap.size,0,none⟩),.agg #[.int .i64 5,.bool false,.string ⟨#[]⟩,.int .i64 0,.string ⟨#[]⟩,.slice none 0 0,.map none],.pointer (some ⟨w.heap.size,0,none⟩),.slice (some ⟨g,0,none⟩) N cap,.int .i64 N,.int .i64 k,.bool true,.pointer (some ⟨g,k*4,none⟩),.agg #[.int .i64 kk,.slice pa pl pc,.slice none 0 0,.pointer y],x14,x15,x16,x17,x18,x19,x20,x21,x22,x23,x24,u25,CD,CD],defers:=[] })) ?hs ?he _ _ _ _ ?hc ?h0
   case hc=>decide
   case h0=>
    refine⟨rfl,rfl,rfl,rfl,A3 _,fun _ _ _ _=>rfl,fun _ _ _=>rfl,fun _=>rfl,?_,?_,?_,_,_,_,_,_,_,_,_,_,_,_,rfl,?_⟩;all_goals simp
   case he=>
    intro l a w1 hJ hr;have qh:=Dz hJ.sz (by kernel_rfl) hr;obtain⟨hsz,os,tape,output,size,kept,row0,vb0,d7,d8,d11,x14,x15,x16,x17,x18,x19,x20,x21,x22,x23,x24,rfl,e0,e1,e2,e3,e4,e5,e6,qb,e7,e8,e9,q8,qd⟩:=hJ;obtain⟨q,cap2,rfl,ho,hq,q4⟩:=e8 (qh 8 (by decide));have hv:=qd (qh 11 (by decide));have zn:=Ab os;have zr:=Ab tape;have zo:=Ab output;have zm:=Ab kept;have zs:=Ab hv;have zl:=Ab ho;have zq:=Ab q4;clear os tape output kept hv ho q4 row0 vb0 d7 d8 d11 e0 e1 e2 e3 e4 e5 e6 qb e7 e8 e9 q8 qd qh hr
    go_wp2_with (fail);refine⟨⟨k+1,xs++[x20],.slice (some ⟨q,0,none⟩) (k+1) cap2,by omega,by go_num,?_⟩,by simp[HA];omega⟩
    have os:=Aa zn;have tape:=Aa zr;have output:=Aa zo;have kept:=Aa zm;have hv:=Aa zs;have ho:=Aa zl;have q4:=Aa zq;refine⟨⟨os.trans q6.os,tape.trans q6.tape,output.trans q6.output,by omega,fun r hr=>(kept r (by omega) (fun e=>by have:=(Ay q9 r e).2;omega) (by omega)).trans (q6.block r hr)⟩,hv,ho,?_⟩;rw[Bs z1,List.map_append,List.map_singleton,<- hd];refine Al.snoc (q4.move fun r hr _=>⟨rfl,?_⟩) (hI.al.mono fun a b hab=>hab.move fun r hr zh=>?_)
    ·rcases hr.1 with h|h
     ·grind
     ·refine BY ⟨by omega,fun e=>hr.2 (by simp[D0] at e;omega)⟩
    ·have hne:sl.ownBlock≠some r/\r≠w.heap.size:=by
      rcases hr with⟨_,h⟩|⟨h,h'⟩
      ·exact⟨fun e=>by have:=(Ay q9 r e).2;omega,by omega⟩
      grind
     refine⟨(kept r (by omega) hne.1 hne.2).trans (qv.block r zh),hr.imp id fun ⟨h,_⟩=>⟨h,fun e=>?_⟩⟩;have e2:q=r:=by simpa[D0] using e
     grind
   case hs=>
    intro l a w1 hJ i hi;obtain⟨hno,haft⟩:=BD hi;have y3:i<12:=by
     obtain⟨_,o,ho,_⟩:=mem_ready.1 hi;exact (D1.1 ho).1
    obtain⟨hsz,os,tape,output,size,kept,row0,vb0,d7,d8,d11,x14,x15,x16,x17,x18,x19,x20,x21,x22,x23,x24,rfl,e0,e1,e2,e3,e4,e5,e6,qb,e7,e8,e9,q8,qd⟩:=hJ;clear hi;have qp:i=0\/i=1\/i=2\/i=3\/i=4\/i=5\/i=6\/i=7\/i=8\/i=9\/i=10\/i=11:=by omega
    rcases qp with rfl|rfl|rfl|rfl|rfl|rfl|rfl|rfl|rfl|rfl|rfl|rfl
    ·refine AT rfl fun K hK=>?_
     go_simp;refine hK _ _ ⟨by simp[hsz],os,tape,output,size,kept,fun h=>row0 ((AI _ (by decide)).symm.trans h),fun h=>vb0 ((AI _ (by decide)).symm.trans h),Ar (by decide) d7,Ar (by decide) d8,Ar (by decide) d11,_,_,_,_,_,_,_,_,_,_,_,rfl,fun _=>rfl,Ac (by decide) e1,Ac (by decide) e2,Ac (by decide) e3,Ac (by decide) e4,Ac (by decide) e5,Ac (by decide) e6,fun h h'=>qb ((AI _ (by decide)).symm.trans h) ((AI _ (by decide)).symm.trans h'),?_,Ac (by decide) e8,Ac (by decide) e9,Ac (by decide) q8,Ac (by decide) qd⟩
     exact fun h=>by
      obtain⟨g',h1,h2,h3⟩:=e7 ((AI _ (by decide)).symm.trans h);exact⟨g',h1,h2,fun h'=>h3 ((AI _ (by decide)).symm.trans h')⟩
    ·refine AT rfl fun K hK=>?_
     go_simp;refine hK _ _ ⟨by simp[hsz],os,tape,output,size,kept,fun h=>row0 ((AI _ (by decide)).symm.trans h),fun h=>vb0 ((AI _ (by decide)).symm.trans h),Ar (by decide) d7,Ar (by decide) d8,Ar (by decide) d11,_,_,_,_,_,_,_,_,_,_,_,rfl,Ac (by decide) e0,fun _=>rfl,Ac (by decide) e2,Ac (by decide) e3,Ac (by decide) e4,Ac (by decide) e5,Ac (by decide) e6,fun h h'=>qb ((AI _ (by decide)).symm.trans h) ((AI _ (by decide)).symm.trans h'),?_,Ac (by decide) e8,Ac (by decide) e9,Ac (by decide) q8,Ac (by decide) qd⟩
     exact fun h=>by
      obtain⟨g',h1,h2,h3⟩:=e7 ((AI _ (by decide)).symm.trans h);exact⟨g',h1,h2,fun h'=>h3 ((AI _ (by decide)).symm.trans h')⟩
    ·obtain rfl:=e1 (haft _ rfl ⟨1,.data⟩ (by simp) rfl);refine AT rfl fun K hK=>?_
     go_simp;refine hK _ _ ⟨by simp[hsz],os,tape,output,size,kept,fun h=>row0 ((AI _ (by decide)).symm.trans h),fun h=>vb0 ((AI _ (by decide)).symm.trans h),Ar (by decide) d7,Ar (by decide) d8,Ar (by decide) d11,_,_,_,_,_,_,_,_,_,_,_,rfl,Ac (by decide) e0,Ac (by decide) e1,fun _=>rfl,Ac (by decide) e3,Ac (by decide) e4,Ac (by decide) e5,Ac (by decide) e6,fun h h'=>qb ((AI _ (by decide)).symm.trans h) ((AI _ (by decide)).symm.trans h'),?_,Ac (by decide) e8,Ac (by decide) e9,Ac (by decide) q8,Ac (by decide) qd⟩
     exact fun h=>by
      obtain⟨g',h1,h2,h3⟩:=e7 ((AI _ (by decide)).symm.trans h);exact⟨g',h1,h2,fun h'=>h3 ((AI _ (by decide)).symm.trans h')⟩
    ·obtain rfl:=e2 (haft _ rfl ⟨2,.data⟩ (by simp) rfl);refine AT rfl fun K hK=>?_
     go_simp;refine hK _ _ ⟨by simp[hsz],os,tape,output,size,kept,fun h=>row0 ((AI _ (by decide)).symm.trans h),fun h=>vb0 ((AI _ (by decide)).symm.trans h),Ar (by decide) d7,Ar (by decide) d8,Ar (by decide) d11,_,_,_,_,_,_,_,_,_,_,_,rfl,Ac (by decide) e0,Ac (by decide) e1,Ac (by decide) e2,fun _=>rfl,Ac (by decide) e4,Ac (by decide) e5,Ac (by decide) e6,fun h h'=>qb ((AI _ (by decide)).symm.trans h) ((AI _ (by decide)).symm.trans h'),?_,Ac (by decide) e8,Ac (by decide) e9,Ac (by decide) q8,Ac (by decide) qd⟩
     exact fun h=>by
      obtain⟨g',h1,h2,h3⟩:=e7 ((AI _ (by decide)).symm.trans h);exact⟨g',h1,h2,fun h'=>h3 ((AI _ (by decide)).symm.trans h')⟩
    ·have yd:l.getD 4 false=false:=by grind
     have qi:l.getD 8 false=false:=by
      grind
     have qe:l.getD 11 false=false:=by
      grind
     have cv:w1.cell? ⟨w.heap.size,5,none⟩=some sl:=(F1 (a:=⟨w.heap.size,5,none⟩) (vb0 qe)).trans zw;obtain rfl:=e3 (haft _ rfl ⟨3,.data⟩ (by simp) rfl);refine AT rfl fun K hK=>?_
     go_simp;refine hK _ _ ⟨by simp[hsz],os,tape,output,size,kept,by grind,by grind,Ar (by decide) d7,Ar (by decide) d8,Ar (by decide) d11,_,_,_,_,_,_,_,_,_,_,_,rfl,Ac (by decide) e0,Ac (by decide) e1,Ac (by decide) e2,Ac (by decide) e3,fun _=>rfl,Ac (by decide) e5,Ac (by decide) e6,fun h h'=>qb ((AI _ (by decide)).symm.trans h) (by omega),?_,Ac (by decide) e8,Ac (by decide) e9,Ac (by decide) q8,Ac (by decide) qd⟩
     simp_all
    ·have cq:=fun i=>F1 (a:=⟨wr.heap.size,i,none⟩) (kept wr.heap.size (by omega) qq.1 qq.2);have q0:=(cq 0).trans p0;have q1:=(cq 1).trans p1;have q2:=(cq 2).trans p2;have q3:=(cq 3).trans p3;refine AT rfl fun K hK=>?_
     go_simp;refine hK _ _ ⟨by simp[hsz],os,tape,output,size,kept,fun h=>row0 ((AI _ (by decide)).symm.trans h),fun h=>vb0 ((AI _ (by decide)).symm.trans h),Ar (by decide) d7,Ar (by decide) d8,Ar (by decide) d11,_,_,_,_,_,_,_,_,_,_,_,rfl,Ac (by decide) e0,Ac (by decide) e1,Ac (by decide) e2,Ac (by decide) e3,Ac (by decide) e4,fun _=>rfl,Ac (by decide) e6,fun h h'=>qb ((AI _ (by decide)).symm.trans h) ((AI _ (by decide)).symm.trans h'),?_,Ac (by decide) e8,Ac (by decide) e9,Ac (by decide) q8,Ac (by decide) qd⟩
     exact fun h=>by
      obtain⟨g',h1,h2,h3⟩:=e7 ((AI _ (by decide)).symm.trans h);exact⟨g',h1,h2,fun h'=>h3 ((AI _ (by decide)).symm.trans h')⟩
    ·have ye:l.getD 6 false=false:=by grind
     have y6:l.getD 7 false=false:=by
      grind
     have qi:l.getD 8 false=false:=by
      grind
     obtain rfl:=e5 (haft _ rfl ⟨5,.data⟩ (by simp) rfl);refine AT rfl fun K hK=>?_
     go_simp;refine (zk w1 (by grind)).mono ?_
     rintro e w2 ⟨p,rfl,hpp,q4,hb2⟩;show K _ _;have kept:=fun q h1 h2 h3=>(hb2.block q (by omega)).trans (kept q h1 h2 h3);have row0:=fun h q hq=>(hb2.block q (by grind)).trans (row0 h q hq);have vb0:=fun h=>(hb2.block w.heap.size (by omega)).trans (vb0 h);have os:=hb2.os.trans os;have tape:=hb2.tape.trans tape;have output:=hb2.output.trans output;have q5:=A6 size hb2.size;have q7:Rep (f+1) (fun q=>(G q/\q<w.heap.size)\/wb.heap.size<=q) w2 (.pointer (some ⟨p,0,none⟩)) d:=q4.move (by grind);refine hK _ _ ⟨by simp[hsz],os,tape,output,q5,kept,fun h=>row0 (by omega),by grind,fun h=>absurd ((AI _ (by decide)).symm.trans h) (by grind),fun h=>absurd ((AI _ (by decide)).symm.trans h) (by grind),Ar (by decide) d11,_,_,_,_,_,_,_,_,_,_,_,rfl,Ac (by decide) e0,Ac (by decide) e1,Ac (by decide) e2,Ac (by decide) e3,Ac (by decide) e4,Ac (by decide) e5,fun _=>⟨_,rfl⟩,fun _ _=>q7,fun h=>absurd ((AI _ (by decide)).symm.trans h) (by grind),fun h=>absurd ((AI _ (by decide)).symm.trans h) (by grind),Ac (by decide) e9,Ac (by decide) q8,fun h=>absurd (d11 ((AI _ (by decide)).symm.trans h)).1 (by grind)⟩
    ·have y6:l.getD 7 false=false:=by grind
     have qi:l.getD 8 false=false:=by
      grind
     have d6:=haft _ rfl ⟨6,.data⟩ (by simp) rfl;obtain⟨p,rfl⟩:=Aa (e6 d6);have q4:=qb d6 qi;refine AT rfl fun K hK=>?_
     go_simp;have hb2:A5 w1.heap.size w1 (w1.alloc (.cells #[.pointer p] 80)):=(CL _ _).alloc (A3 _) _
     have kept:=fun q h1 h2 h3=>(hb2.block q (by omega)).trans (kept q h1 h2 h3);have row0:=fun h q hq=>(hb2.block q (by grind)).trans (row0 h q hq);have vb0:=fun h=>(hb2.block w.heap.size (by omega)).trans (vb0 h);have q5:=A6 size hb2.size;have q7:Rep (f+1) (fun q=>(G q/\q<w.heap.size)\/wb.heap.size<=q) (w1.alloc (.cells #[.pointer p] 80)) (.pointer p) d:=q4.move fun q hq qw=>⟨hb2.block q qw,hq⟩
     refine hK _ _ ⟨by simp[hsz],os,tape,output,q5,kept,fun h=>row0 (by omega),by grind,fun _=>⟨AS d6,AS d6⟩,Ar (by decide) d8,Ar (by decide) d11,_,_,_,_,_,_,_,_,_,_,_,rfl,Ac (by decide) e0,Ac (by decide) e1,Ac (by decide) e2,Ac (by decide) e3,Ac (by decide) e4,Ac (by decide) e5,Ac (by decide) e6,fun _ _=>q7,fun _=>⟨_,rfl,by omega,fun _=>CH w1 _⟩,fun h=>absurd ((AI _ (by decide)).symm.trans h) (by grind),Ac (by decide) e9,Ac (by decide) q8,fun h=>absurd (d11 ((AI _ (by decide)).symm.trans h)).1 (by grind)⟩
    ·have qy:=haft _ rfl ⟨7,.data⟩ (by simp) rfl;have zc:=haft _ rfl ⟨4,.data⟩ (by simp) rfl;have qi:l.getD 8 false=false:=by grind
     have qe:l.getD 11 false=false:=by
      grind
     obtain rfl:=e4 zc;obtain⟨g1,rfl,zy,qz⟩:=e7 qy;have qz:=qz qi;have d6:=(d7 qy).1;have q4:=qb d6 qi;obtain⟨p,rfl⟩:=Aa (e6 d6);have qg:w1.ownsRow (w.heap.size+1) 80 1 x18 k xs:=Be q9 (row0 qi);refine AT rfl fun K hK=>?_;refine step_append_lies (w:=w1) rfl (.tmp 18) (.tmp 21) 106 rfl (w.heap.size+1) 80 i0 z0 1 8 underlying106 zz hz0 hz2 hz3 ya (by decide) x18 k xs rfl qg ⟨g1,0,none⟩ 1 1 [.pointer p] rfl rfl (World.news_of_block (cs:=#[.pointer p]) (t:=80) (fr:=(0,0)) qz) (by simp[Value.oneCell']) (by decide) (by unfold maxLen;omega) (by omega) (by omega) w1.heap.size rfl ?_;intro q cap2 w2 ho qr yb y5;have qf:∀r,x18.ownBlock≠some r->r<w1.heap.size->w2.heap[r]? = w1.heap[r]?:=fun r h1 h2=>qr.block r h2 (fun e=>h1 e.symm);have kept:=fun r h1 h2 h3=>(qf r h2 (by omega)).trans (kept r h1 h2 h3);have vb0:=fun h=>(qf w.heap.size qk (by omega)).trans (vb0 h);have os:=qr.os.trans os;have tape:=qr.tape.trans tape;have output:=qr.output.trans output;have q5:=A6 size qr.size;have hq:x18.ownBlock=some q\/wb.heap.size<=q:=by grind
     have q7:Rep (f+1) (fun r=>((G r/\r<w.heap.size)\/wb.heap.size<=r)/\r≠q) w2 (.pointer p) d:=q4.move fun r hr zh=>by
      have hne:x18.ownBlock≠some r:=fun e=>by have:=z8 r e;have:=(Ay qg r e).2;omega
      grind
     refine hK _ _ ⟨by simp[hsz],os,tape,output,q5,kept,(fun h=>by rw[OP hsz 8 8 (by decide),if_pos rfl] at h;cases h),by grind,Ar (by decide) d7,fun _=>⟨AS qy,AS zc⟩,Ar (by decide) d11,_,_,_,_,_,_,_,_,_,_,_,rfl,Ac (by decide) e0,Ac (by decide) e1,Ac (by decide) e2,Ac (by decide) e3,Ac (by decide) e4,Ac (by decide) e5,fun _=>⟨_,rfl⟩,(fun _ h=>by rw[OP hsz 8 8 (by decide),if_pos rfl] at h;cases h),fun _=>⟨g1,rfl,zy,(fun h=>by grind)⟩,by grind,Ac (by decide) e9,Ac (by decide) q8,fun h=>absurd ((AI _ (by decide)).symm.trans h) (by grind)⟩
    ·obtain rfl:=e0 (haft _ rfl ⟨0,.data⟩ (by simp) rfl);refine AT rfl fun K hK=>?_
     go_simp;refine hK _ _ ⟨by simp[hsz],os,tape,output,size,kept,fun h=>row0 ((AI _ (by decide)).symm.trans h),fun h=>vb0 ((AI _ (by decide)).symm.trans h),Ar (by decide) d7,Ar (by decide) d8,Ar (by decide) d11,_,_,_,_,_,_,_,_,_,_,_,rfl,Ac (by decide) e0,Ac (by decide) e1,Ac (by decide) e2,Ac (by decide) e3,Ac (by decide) e4,Ac (by decide) e5,Ac (by decide) e6,fun h h'=>qb ((AI _ (by decide)).symm.trans h) ((AI _ (by decide)).symm.trans h'),?_,Ac (by decide) e8,fun _=>rfl,Ac (by decide) q8,Ac (by decide) qd⟩
     exact fun h=>by
      obtain⟨g',h1,h2,h3⟩:=e7 ((AI _ (by decide)).symm.trans h);exact⟨g',h1,h2,fun h'=>h3 ((AI _ (by decide)).symm.trans h')⟩
    ·obtain rfl:=e9 (haft _ rfl ⟨9,.data⟩ (by simp) rfl);refine AT rfl fun K hK=>?_
     go_simp;refine hK _ _ ⟨by simp[hsz],os,tape,output,size,kept,fun h=>row0 ((AI _ (by decide)).symm.trans h),by grind,Ar (by decide) d7,Ar (by decide) d8,Ar (by decide) d11,_,_,_,_,_,_,_,_,_,_,_,rfl,Ac (by decide) e0,Ac (by decide) e1,Ac (by decide) e2,Ac (by decide) e3,Ac (by decide) e4,Ac (by decide) e5,Ac (by decide) e6,fun h h'=>qb ((AI _ (by decide)).symm.trans h) ((AI _ (by decide)).symm.trans h'),?_,Ac (by decide) e8,Ac (by decide) e9,fun _=>rfl,Ac (by decide) qd⟩
     exact fun h=>by
      obtain⟨g',h1,h2,h3⟩:=e7 ((AI _ (by decide)).symm.trans h);exact⟨g',h1,h2,fun h'=>h3 ((AI _ (by decide)).symm.trans h')⟩
    ·have qn:=haft _ rfl ⟨8,.data⟩ (by simp) rfl;have qm:=haft _ rfl ⟨10,.data⟩ (by simp) rfl;have qe:l.getD 11 false=false:=by grind
     obtain⟨q,cap2,rfl,ho,hq,q4⟩:=e8 qn;obtain rfl:=q8 qm;have zu:sl=x18:=(e4 (d8 qn).2).symm;subst zu;have za:VB w1 w.heap.size 5 n0 [] sl (.map none):=(vb0 qe).trans hvb;have cv:=za.c5;have zv:w1.frozen? ⟨w.heap.size,5,none⟩=false:=by simp[World.frozen?,show w1.heap[w.heap.size]? = _ from za]
     refine AT rfl fun K hK=>?_
     go_simp;have qj:∀r,r≠w.heap.size->(w1.setCell ⟨w.heap.size,5,none⟩ (.slice (some ⟨q,0,none⟩) (k+1) cap2)).heap[r]? = w1.heap[r]?:=fun r hr=>Below.heap_setCell _ _ _ _ hr
     have yg:q≠w.heap.size:=by grind
     have kept:=fun r h1 h2 h3=>(qj r h3).trans (kept r h1 h2 h3);have row0:l.getD 8 false=false -> ∀r,sl.ownBlock=some r->(w1.setCell ⟨w.heap.size,5,none⟩ (.slice (some ⟨q,0,none⟩) (k+1) cap2)).heap[r]? = wb.heap[r]?:=by grind
     have q5:wb.heap.size<=(w1.setCell ⟨w.heap.size,5,none⟩ (.slice (some ⟨q,0,none⟩) (k+1) cap2)).heap.size:=by grind
     have yf:=Be ho (w':=w1.setCell ⟨w.heap.size,5,none⟩ (.slice (some ⟨q,0,none⟩) (k+1) cap2)) (fun r hr=>qj r (by simp[D0] at hr;omega));have q7:=q4.move (w':=w1.setCell ⟨w.heap.size,5,none⟩ (.slice (some ⟨q,0,none⟩) (k+1) cap2)) fun r hr _=>⟨qj r (by omega),hr⟩
     refine hK _ _ ⟨by simp[hsz],os,tape,output,q5,kept,fun h=>row0 ((AI _ (by decide)).symm.trans h),(fun h=>by rw[OP hsz 11 11 (by decide),if_pos rfl] at h;cases h),Ar (by decide) d7,Ar (by decide) d8,fun _=>⟨AS qn,AS qm⟩,_,_,_,_,_,_,_,_,_,_,_,rfl,Ac (by decide) e0,Ac (by decide) e1,Ac (by decide) e2,Ac (by decide) e3,Ac (by decide) e4,Ac (by decide) e5,Ac (by decide) e6,fun _ h=>absurd qn (by rw[(AI _ (by decide)).symm.trans h];decide),(fun h=>(e7 (by grind)).imp fun g' ⟨h1,h2,_⟩=>⟨h1,h2,fun h'=>absurd qn (by rw[(AI _ (by decide)).symm.trans h'];decide)⟩),by grind,Ac (by decide) e9,Ac (by decide) q8,fun _=>za.set5 _⟩
  ·obtain rfl:k=N:=by omega
   have hI:=Aa HI;have z6:k=j.length:=Aa HN;have hal:=hI.al;rw[E0 (by omega)] at hal;have zi:xs.length=k:=by have:=hal.length;grind
   have q4:Rep (f+2) (fun _=>True) wr (.pointer (some ⟨w.heap.size,0,none⟩)) (Af (j.map AQ)):=Rep.arr trivial hI.box (by rw[zi];exact IC hI.own (Nat.zero_le _)) (fun _ _=>trivial) (hal.mono fun a b hab=>hab.move (by grind));have HC:=Ab (C9 q4 ((Aa HT).below (hI.bel.mono zg)) (Aa HL));have HB:=Ab hI.bel;have z7:¬ (k:Int)<(k:Int):=by omega
   clear hI z6 hal zi q4
   go_wp2_with (fail);refine (Aa HC).mono ?_
   rintro e w2 ⟨rfl,hb2⟩
   go_wp2_with (fail)
   go_ret;exact⟨rfl,(Aa HB).trans (hb2.mono (Aa HB).size)⟩
theorem Dc.at{w:DD}{G:Nat->Prop}:∀ {xs:List A1} {j:List dX},Dc w G xs j -> ∀k (hk:k<j.length),∃ (h:k*4+3<xs.length),Fp w G (xs[k*4]'(by omega)) (xs[k*4+1]'(by omega)) (xs[k*4+2]'(by omega)) xs[k*4+3] j[k]
 | [],[],_,_,hk=>absurd hk (by simp)
 | [],_::_,h,_,_=>h.elim
 | _::_::_::_::_,_::_,⟨a,_⟩,0,_=>⟨by simp,a⟩
 | _::_::_::_::r,_::s,⟨_,b⟩,k+1,hk=>by
  obtain⟨h1,h2⟩:=Dc.at b k (by grind)
  grind
theorem aR{e n cap:Nat}{ao:Option Addr}{xs:List A1}(h:w.ownsRow B e 4 (.slice ao n cap) n xs)(hp:0<n):n<=cap:=by
 rcases h.2 with⟨_,h0⟩|⟨g,q0,cur,h1,hB,h3,h4,_⟩
 ·omega
 grind
theorem OE:∀l:List By,l.length<=(BC l).length
 | []=>by simp
 | a::l=>by
  have h:=OE l
  grind [BC,D3,F7]
theorem lI(l:List By):l.length<=(Am l).length+1:=by
 cases l with
 | nil=>simp
 | cons a r=>
  have h:=OE r
  grind [Am,D3,F7]
theorem VV(j:List dX):j.length<=(Br j).length:=by
 have h:=lI ((j.map AQ).map (dZ (top-1)));rw[FD,FD] at h;show _<=(dZ (top-1+1) (Af (j.map AQ))).length
 grind [FD,CV,D3]
theorem NO{iv:A1}{j:List dX}(h:GF w G iv (some j))(hT:Ai w):
  G3 A4 87 #[iv] w fun e w'=>e=.returned (.string ⟨(Br j).toArray⟩)/\A5 w.heap.size w w':=by
 obtain⟨⟨xs,ho,hG,hr⟩,hl,q6⟩:=h;obtain⟨ao,cap,g,rfl,hc⟩:=Hh ho;have q5:j.length<=10000000000000:=by
  have h1:j.length<=(Br j).length:=VV j;omega
 refine RB (f:=top-2) (G:=G) (by unfold top;omega) rfl (fun hp=>?_) (fun o ho=>(q6 o ho).1) q5 hl hT;obtain⟨e1,e2,_,e3⟩:=hc hp;obtain⟨_,hb⟩:=AA ho g e2;refine⟨g,e1,(AA ho g e2).1,aR ho hp,fun k hk=>?_⟩;obtain⟨hx,q0,q1,q2,q3,q4⟩:=hr.at k hk;obtain⟨pa,pl,pc,q7⟩:=Fq q2;have hz:∃y,xs[k*4+3]=.pointer y:=by
  rcases q4 with⟨_,e⟩|⟨_,hr⟩
  ·grind
  ·obtain⟨b,e,_⟩:=Rep.ptr hr;grind
 obtain⟨y,hy⟩:=hz;have c0:=e3 (k*4) (by omega);have c1:=e3 (k*4+1) (by omega);have c2:=e3 (k*4+2) (by omega);have c3:=e3 (k*4+3) (by omega);refine⟨pa,pl,pc,y,⟨rfl,q1,q7▸q2,rfl,q4.imp (by grind) fun ⟨a,b⟩=>⟨a,?_⟩⟩,by rw[c0,q0],by grind,by rw[c2,q3],by rw[c3,hy]⟩;obtain⟨d,x,g1,g2⟩:=(q6 _ (D2 hk)).2 a;rw[<- hy];exact Rep.dn b g1 (by unfold top;omega)
theorem Ui:Ke:=by
 intro S d e n p v F w hS hD hT;obtain⟨D,R,wp,rfl,qe⟩:=hD;obtain⟨T,a,iv,h1,h2,h3⟩:=qe.ex;have q0:A5 w.heap.size w (w.alloc (.cells #[.int .i64 0,.int .i64 0,.string ⟨#[]⟩] 46)):=(CL _ _).alloc (A3 _) _;have c3:=(hS.low q0).c3;have qb:=Ab (h1.db.kept (q0.block D h1.db.lt));have qf:=Ab (AB.new w);have qg:=Ab q0;have hsz:(w.alloc (.cells #[.int .i64 0,.int .i64 0,.string ⟨#[]⟩] 46)).heap.size=w.heap.size+1:=by simp
 obtain⟨G,hG⟩:∃G:Nat->Prop,G=fun k=>F k/\k≠D/\k ∉ fp (top+1) T:=⟨_,rfl⟩
 rw[<- hG] at h3;have qh:=Ab (h3.move (w':=w.alloc (.cells #[.int .i64 0,.int .i64 0,.string ⟨#[]⟩] 46)) (G':=G) fun k hk q9=>⟨q0.block k q9,hk⟩);have HT:=Ab (hT.below (q0.mono hT.ng));obtain⟨b,hb⟩:∃b,b=v.2.isSome:=⟨_,rfl⟩
 rw[<- hb] at qb;obtain⟨fs,qk⟩:∃a b n,iv=.slice a b n:=by
  cases hv:v.2 with
  | none=>rw[hv] at h3;exact⟨_,_,_,h3⟩
  | some j=>
   rw[hv] at h3;obtain⟨⟨xs,ho,_⟩,_⟩:=h3;obtain⟨ao,cap,g,e,_⟩:=Hh ho
   grind
 obtain⟨fl,fc,rfl⟩:=qk;clear hS hT h1 h2 h3 q0 qe hG;obtain⟨RR,q8⟩:∃RR,RR=iR v:=⟨_,rfl⟩
 rw[<- q8];have qd:=Ab q8;have HB:=Ab hb;clear q8 hb
 go_enter func61,ntmps61
 go_wp2_with (fail);generalize w.alloc (.cells #[.int .i64 0,.int .i64 0,.string ⟨#[]⟩] 46)=wa at *
 refine (Pb (Aa qb)).mono ?_;rintro x w2 ⟨rfl,hb2⟩;have q5:=Ab ((Aa qg).trans (hb2.mono (by omega)));have A2:=Ab ((Aa qf).low hb2);have q4:=Ab ((Aa qh).move (w':=w2) (G':=G) fun k hk q9=>⟨hb2.block k q9,hk⟩);have qi:=Ab ((Aa HT).below (hb2.mono (Aa HT).ng));clear hb2 c3;cases b with
 | false=>
  have hn:v.2=none:=by
   have:=Aa HB
   simp_all
  have q7:=Ab (show RR=(3,0,[]) by rw[Aa qd];unfold iR;rw[hn]);clear hn
  go_wp2_with (fail);refine (Bp 3 w2).mono ?_
  rintro x w3 ⟨rfl,hb3⟩;have a3:=(Aa A2).low hb3;have g0:=a3.c0;have g1:=a3.c1;have g2:=a3.c2;have z:=a3.fz;have q6:=Ab ((Aa q5).trans (hb3.mono (Aa q5).size));clear a3 hb3;unfold Ba
  go_wp2_with (fail);refine G0 (v:=Ax (3,0,[])) (by simp[results,results61,go_sem,Ax,g0,g1,g2]) rfl ?_
  rw[Aa q7];exact⟨rfl,(AR.of3 w.heap.size w3 _ _ _).below (Aa q6) (A3 _)⟩
 | true=>
  obtain⟨j,hj⟩:∃j,v.2=some j:=by
   have:=Aa HB
   grind [iR,results,results61]
  have q7:=Ab (show RR=(0,0,Br j) by rw[Aa qd];unfold iR;rw[hj]);rw[hj] at q4;have qj:=Ab (NO (Aa q4) (Aa qi));clear hj
  go_wp2_with (fail);refine (Aa qj).mono ?_
  rintro x w3 ⟨rfl,hb3⟩;have a3:=(Aa A2).low hb3;have g0:=a3.c0;have g1:=a3.c1;have g2:=a3.c2;have z:=a3.fz;have q6:=Ab ((Aa q5).trans (hb3.mono (Aa q5).size));clear a3 hb3
  go_wp2_with (fail);refine G0 (v:=Ax (0,0,Br j)) (by simp[results,results61,go_sem,Ax,g0,g1,g2]) rfl ?_
  rw[Aa q7];exact⟨rfl,(AR.of3 w.heap.size w3 _ _ _).below (Aa q6) (A3 _)⟩
end Go.Proofs.YtdpomdelmdofmaaGreatDoor
