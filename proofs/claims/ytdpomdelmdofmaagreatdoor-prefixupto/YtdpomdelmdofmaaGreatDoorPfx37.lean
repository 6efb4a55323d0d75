import Derived.Test.YtdpomdelmdofmaaGreatDoorPfx36
import Derived.Orders
open Go renaming getD_set_ne->AI,getD_set_true->AS,wpOp_step->A4,undef->A6,Value->Bs,heap_alloc_new->CH,World->D1,mem_ready->HA,Calls->HI
open Array renaming getElem?_eq_some_iff->AT,getD->A1,getElem?_eq_getElem->D0,replicate->G2
open Go.Region renaming ready->A2,binds->Ft,Mode->HG
open Go.Proofs.Tryz renaming prog->A3
open Nat renaming le_refl->A5,le_trans->CL
open Go.World renaming cell?->BY
open Go.RowKit renaming Below->CD,intOf->HJ
open List renaming take_succ_eq_append_getElem->CR,flatMap_append->DD,append_nil->D2,length_append->D3,flatMap_cons->E0,flatMap_nil->F1,getElem_mem->G0
open Go.RowKit.Below renaming refl->C1
open Go.World.ownsMap renaming update->C2
open List.cons renaming injEq->Dp
open Option.some renaming inj->Dt
open UInt8 renaming toNat_inj->G1
open Go.Lib renaming BuilderAt->G3
open Go.DataW renaming put->HD
set_option maxRecDepth 100000
set_option maxHeartbeats 4000000
namespace Go.Proofs.YtdpomdelmdofmaaGreatDoor
open Go.Proofs.Tryz Go.RowKit Go.Maps
variable{w w':D1}{B b j k i:Nat}{ks:List By}{l:Array Bool}{md:HG}{ops:Array Oper}
theorem Nz{D:Nat}{rv jn iv:Bs}{ch:Bool}(h:DB w D rv jn ch iv):
  HI A3 86 #[.pointer (some ⟨D,0,none⟩)] w fun e w'=>e=.returned (.tuple #[iv,.bool ch])/\CD w.heap.size w w':=by
 have c2:=h.c2;have c3:=h.c3;clear h
 go_enter func86,ntmps86
 go_wp2_with (fail)
 go_quiet (fail)
 go_wp2_with (fail)
 go_ret2
 exact⟨rfl,rfl,rfl,rfl,A5 _,fun _ _=>rfl⟩
theorem Hk(s:By):
  HI A3 164 #[.string ⟨s.toArray⟩] w fun e w'=>e=.returned (.pointer (some ⟨w.heap.size,0,none⟩))/\VB w' w.heap.size 4 n0 s (.slice none 0 0) (.map none)/\CD w.heap.size w w'/\w'.heap.size=w.heap.size+1:=by
 go_enter func164,ntmps164
 go_wp2_with (fail)
 go_ret;exact⟨rfl,CH w _,(C1 _ _).alloc (A5 _) _,by simp⟩
theorem Pw{p:Bs}{bs:List Bs}(h:G3 119 5 B b p bs w)(hb:CD w.heap.size w w'):G3 119 5 B b p bs w':=by
 obtain⟨hB,v,hv,q0,q4⟩:=h;refine⟨hB,v,(hb.block b (AT.1 hv).1).trans hv,?_,q4⟩;refine⟨q0.1,q0.2.imp id ?_⟩;rintro⟨g,cap,cur,h1,h2,h3,h4⟩;exact⟨g,cap,cur,h1,h2,(hb.block g (AT.1 h3).1).trans h3,h4⟩
theorem Tf{l:By}(h:Bu B b l w)(hb:CD w.heap.size w w'):Bu B b l w':=Or.imp (fun h=>Pw h hb) (fun h=>Pw h hb) h
theorem Sk(hj:j<2){c:UInt8}(h:DH j=c.toNat):FM c=(Ei j).data.toList:=by
 match j,hj with
 | 0,_=>
  have:c=126:=G1.1 (by have:(126:Int)=c.toNat:=h;show c.toNat=126;omega);subst this;rfl
 | 1,_=>
  have:c=47:=G1.1 (by have:(47:Int)=c.toNat:=h;show c.toNat=47;omega);subst this;rfl
theorem Qf{c:UInt8}(h:∀j,j<2->DH j≠c.toNat):FM c=[c]:=by
 unfold FM;rw[if_neg (fun e=>h 0 (by omega) (by rw[e];rfl)),if_neg (fun e=>h 1 (by omega) (by rw[e];rfl))]
theorem YX{q6:By}(c:UInt8)(h:Bu B b q6 w)(hl:q6.length+2<=140737488355328)(hB:B<=w.heap.size)(hT:Er w):
  HI A3 207 #[.pointer (some ⟨b,0,none⟩),.int .u8 c.toNat] w fun e w'=>e=.returned (.tuple #[])/\Bu B b (q6++FM c) w'/\Fr B b w w':=by
 obtain⟨ci,q7⟩:∃ci:Int,ci=c.toNat:=⟨_,rfl⟩
 rw[<- q7];have q5:=Ab q7;have HH:=Ab h;have HL:=Ab hl;have HB:=Ab hB;have hlt:4<w.heap.size:=by obtain⟨t,fr,e⟩:=hT;exact (AT.1 e).1
 obtain⟨tt,fz,qg⟩:=hT;clear q7 h hl hB
 go_enter func207,ntmps207
 go_wp2_with (refine wpList_load_row rfl 256 _ rfl 4 rfl tt _ fz _ qg underlying256 rfl (by kernel_rfl) ?_)
 clear qg hlt
 go_loopw [7] (fun i wr=>∃j:Nat,j<=2/\i=.int .i64 j/\Hid (CD w.heap.size w wr)/\Hid (∀q,q<j->DH q≠ci)) (fun i _=>2-(HJ i).toNat)
 case atStart=>exact⟨0,by omega,rfl,C1 _ _,fun q hq=>absurd hq (by omega)⟩
 case round=>
  obtain⟨j,hj,rfl,q0,qf⟩:=hrel;by_cases h2:j=2
  ·subst h2;have HE:=Ab (Qf (c:=c) fun q hq=>by rw[<- Aa q5];exact Aa qf q hq);have HC:=Ab (Bo c ci (Aa q5) (Tf (Aa HH) (Aa q0)) (by have:=Aa HL;omega) (CL (Aa HB) (Aa q0).size))
   go_wp2_with (fail);refine (Aa HC).mono ?_
   rintro e w2 ⟨rfl,h1,h3⟩;have H1:=Ab h1;have H3:=Ab h3;clear h1 h3
   go_wp2_with (fail);refine bodyPost_end (results_none rfl _ _ _) rfl ⟨rfl,?_,?_⟩
   ·rw[Aa HE];exact Aa H1
   ·exact Fr.trans ⟨(Aa q0).mono (Aa HB),OKz.below (Aa q0)⟩ (Aa H3)
  ·have q9:j<2:=by omega
   have qj:(j:Int)<2:=by omega
   have q8:=fun w1=>OV j q9 w1;by_cases hh:DH j=ci
   ·have e1:(DH j==ci)=true:=by rw[hh];simp
    have HE:=Ab (Sk q9 (c:=c) (hh.trans (Aa q5)));have qb:=K7 j q9;have hpk:Ei j=⟨(Ei j).data.toList.toArray⟩:=by rw[Array.toArray_toList]
    obtain⟨l,qh⟩:∃l,l=(Ei j).data.toList:=⟨_,rfl⟩
    rw[<- qh] at hpk HE;have qd:l.length=2:=by rw[hpk,AU] at qb;exact qb
    rw[hpk] at q8;have q4:CD w.heap.size w (wr.alloc (.cells #[.string ⟨l.toArray⟩,.int .u8 (DH j)] 255)):=(Aa q0).alloc (Aa q0).size _;have HC:=Ab (Fd l (Tf (Aa HH) q4) (by have:=Aa HL;omega) (CL (Aa HB) q4.size));have qe:=Ab q4;clear qb hpk qh qd q4 hh;generalize DH j=pb at *
    go_wp2_with (fail);refine (Aa HC).mono ?_
    rintro e w2 ⟨rfl,h1,h3⟩;have H1:=Ab h1;have H3:=Ab h3;clear h1 h3
    go_wp2_with (fail);refine bodyPost_ret (v:=.tuple #[]) (results_none rfl _ _ _) rfl ⟨rfl,?_,?_⟩
    ·rw[Aa HE];exact Aa H1
    ·exact Fr.trans ⟨(Aa qe).mono (Aa HB),OKz.below (Aa qe)⟩ (Aa H3)
   ·have e1:(DH j==ci)=false:=by rw[beq_eq_false_iff_ne];exact hh
    have qi:=Ab (show ∀q,q<j+1->DH q≠ci from fun q hq=>if e:q=j then e▸hh else Aa qf q (by omega));clear hh;generalize Ei j=pk at *;generalize DH j=pb at *
    go_wp2_with (fail);exact⟨⟨j+1,by omega,by go_num,(Aa q0).alloc (Aa q0).size _,qi⟩,by simp[HJ];omega⟩
theorem Rk(h:k<ks.length):AV (ks.take (k+1))=AV (ks.take k)++47::FS ks[k]:=by
 rw[CR h];simp only[AV,DD,E0,F1,D2]
theorem QX{t:By}(h:k<t.length):FS (t.take (k+1))=FS (t.take k)++FM t[k]:=by
 rw[CR h];simp only[FS,DD,E0,F1,D2]
theorem Rj(k:Nat):(AV (ks.take k)).length<=(AV ks).length:=by
 have h:AV ks=AV (ks.take k)++AV (ks.drop k):=by
  conv=>lhs;rw[<- List.take_append_drop k ks]
  simp only[AV,DD]
 rw[h,D3];omega
theorem Oa{pv:Bs}(hp:CI w pv ks)(hs:(ks.map fun t=>t.length+1).sum<=1000000)(hT:Er w):
  HI A3 165 #[pv] w fun e w'=>e=.returned (.string ⟨(AV ks).toArray⟩)/\CD w.heap.size w w':=by
 obtain⟨B,q4⟩:∃B,B=w.heap.size:=⟨_,rfl⟩
 obtain⟨W0,q8⟩:∃W0,W0=w.alloc (.cells #[.pointer none,.slice none 0 0] 119):=⟨_,rfl⟩
 have qu:CD B w W0:=by rw[q8,q4];exact (C1 _ _).alloc (A5 _) _
 have qz:W0.heap.size=B+1:=by rw[q8,q4];simp
 have h0:Bu B B [] W0:=Or.inl ⟨A5 _,.slice none 0 0,by rw[q8,q4];show (w.heap.push _)[w.heap.size]? = _;simp,World.ownsRow_nil _ _ _ _,by simp[Value.ownBlock]⟩;obtain⟨zi,qy⟩:=Id ks;have zk:=Gz ks;obtain⟨N,hN⟩:∃N,N=ks.length:=⟨_,rfl⟩
 obtain⟨ao,cap,zl,q0⟩:∃ao cap,pv=.slice ao N cap/\(0<N -> ∃g o,ao=some ⟨g,o,none⟩/\g<B/\N<=cap /\ ∀k (hk:k<ks.length),w.cell? ⟨g,o+k,none⟩=some (.string ⟨ks[k].toArray⟩)):=by
  rcases hp with⟨rfl,a,c,rfl,_⟩|⟨g,o,cap,rfl,h2,_,hg,hc⟩
  ·exact⟨a,c,by rw[hN];rfl,fun h=>absurd h (by rw[hN];simp)⟩
  ·exact⟨_,cap,by rw[hN],fun _=>⟨g,o,rfl,by rw[q4];exact hg,by omega,hc⟩⟩
 subst zl;have qe:=Ab qu;have qr:=Ab qz;have H0:=Ab h0;have HC:=Ab q0;have HT:=Ab hT;have HL:=Ab (show (∀t∈ks,t.length<=1000000)/\(AV ks).length<=2000000 from⟨fun t ht=>by have:=qy t ht;omega,by omega⟩);have HN:=Ab hN;have qo:=Ab q4;have zc:=Ab q8;have zr:(N:Int)<=1000000:=by omega
 have zq:=fun W s=>Lib.run_convert_string_bytes (P:=A3) W 9 117 5 s underlying9 underlying117 underlying5;rw[<- q4];clear hp hs hT qu qz h0 zi qy zk q0 hN q4 q8
 go_enter func165,ntmps165
 go_wp2_with (fail);rw[<- Aa zc,<- Aa qo]
 go_loopw [10] (fun i wr=>∃k:Nat,k<=N/\i=.int .i64 k/\Hid (Bu B B (AV (ks.take k)) wr)/\Hid (Fr B B W0 wr)) (fun i _=>N-(HJ i).toNat)
 case atStart=>exact⟨0,by omega,rfl,by simpa[AV] using H0,Fr.refl _ _ _⟩
 case round=>
  obtain⟨k,hk,rfl,qp,HF⟩:=hrel;have qh:B<=wr.heap.size:=by have:=(Aa HF).low.size;have:=Aa qr;omega
  by_cases hlt:k<N
  ·have qj:k<ks.length:=by have:=Aa HN;omega
   obtain⟨g,o,zg,hg,qi,hc⟩:=Aa HC (by omega);subst zg;have ck:wr.cell? ⟨g,o+k,none⟩=some (.string ⟨ks[k].toArray⟩):=((((Aa qe).trans (Aa HF).low).cell (p:=⟨g,o+k,none⟩) hg)).trans (hc k qj);have qt:=Ab (Rk qj);have zm:=(Aa HL).1 _ (G0 qj);obtain⟨t,ht⟩:∃t,t=ks[k]:=⟨_,rfl⟩
   rw[<- ht] at ck qt zm;have hpk:=CL (Rj (ks:=ks) k) (Aa HL).2;have qk:(k:Int)<(N:Int):=by omega
   have zj:(k:Int)<(cap:Int):=by omega
   have zs:(N:Int)<=(cap:Int):=by omega
   have qq:=Ab (Bo 47 47 rfl (Aa qp) (by omega) qh);clear ht hc
   go_wp2_with (fail);refine (Aa qq).mono ?_
   rintro e w1 ⟨rfl,h1,f1⟩;obtain⟨cs,fz,q9,qw,qv,qd⟩:=Ly w1 t;have ze:B<=w1.heap.size:=CL qh f1.low.size;have H2:=Ab (Bg h1 qd);have F2:=Ab (((Aa HF).trans f1).trans ⟨qd.mono ze,OKz.below qd⟩);have zh:w1.heap.size≠B:=by
    rcases h1 with h1|h1
    ·have:=h1.lt;omega
    ·have:=h1.lt;omega
   have qg:=Ab q9;have z7:=Ab qw;have z1:=Ab qv;clear h1 f1 qd q9 qw qv qq ck hg qi
   go_wp2_with (fail);generalize Lib.bytesWorld w1 5 ⟨t.toArray⟩=w2 at *
   go_loopw [18] (fun i wx=>∃j:Nat,j<=t.length/\i=.int .i64 j/\Hid (Bu B B (AV (ks.take k)++47::FS (t.take j)) wx)/\Hid (Fr B B W0 wx)/\Hid (wx.heap[w1.heap.size]? = some (.cells cs 5 fz))) (fun i _=>t.length-(HJ i).toNat)
   case atStart=>exact⟨0,by omega,rfl,by simpa[FS] using H2,F2,qg⟩
   case round=>
    obtain⟨j,hj,rfl,q6,qb,za⟩:=hrel;have zf:B<=wr.heap.size:=by have:=(Aa qb).low.size;have:=Aa qr;omega
    by_cases qx:j<t.length
    ·have qn:wr.heap[w1.heap.size]? = some (.cells cs 5 fz):=Aa za;have cc:wr.cell? ⟨w1.heap.size,j,none⟩=some (.int .u8 (t[j].toNat:Int)):=by simp[BY,qn,Aa z1 j qx]
     have q7:=Ab (QX qx);have zn:(FS (t.take j)).length<=2*t.length:=by
      have h1:=IO (t.take j);have h2:(t.take j).length<=t.length:=by simp;omega
      omega
     have z8:Hid (∀w':D1,Fr B B wr w'->w'.heap[w1.heap.size]? = some (.cells cs 5 fz)):=fun w' h=>h.oth _ _ qn zh (fun c e=>by injection e with _ _ e;exact Aa z7 e);obtain⟨c,hc⟩:∃c,c=t[j]:=⟨_,rfl⟩
     rw[<- hc] at cc q7;have z6:=Ab (YX c (Aa q6) (by simp only[D3,List.length_cons];omega) zf ((Aa HT).kept (Aa qo▸((Aa qe).trans (Aa qb).low))));have qm:(j:Int)<(t.length:Int):=by omega
     have zo:=c.toNat_lt;clear hc qn
     go_wp2_with (fail);refine (Aa z6).mono ?_
     rintro e w5 ⟨rfl,h5,f5⟩;have H5:=Ab h5;have F5:=Ab f5;clear h5 f5
     go_wp2_with (fail);exact⟨⟨j+1,by omega,by go_num,by rw[Aa q7];simpa using H5,(Aa qb).trans (Aa F5),Aa z8 _ (Aa F5)⟩,by simp[HJ];omega⟩
    ·obtain rfl:j=t.length:=by omega
     have qm:¬ ((t.length:Nat):Int)<((t.length:Nat):Int):=by omega
     have q5:=Aa q6;rw[List.take_length,<- Aa qt] at q5;have qf:=Ab q5;clear q5
     go_wp2_with (fail);exact⟨⟨k+1,by omega,by go_num,qf,qb⟩,by simp[HJ];omega⟩
  ·obtain rfl:k=N:=by omega
   have qk:¬ (k:Int)<(k:Int):=by omega
   have h9:=Aa qp;rw[List.take_of_length_le (by have:=Aa HN;omega)] at h9;have zb:=Ab (Tryz.Builder_String_any B B _ wr h9 qh);clear h9
   go_wp2_with (fail);refine (Aa zb).mono ?_
   rintro e w2 ⟨rfl,hb2⟩
   go_wp2_with (fail)
   go_ret;exact⟨by simp,((Aa qe).trans (Aa HF).low).trans hb2⟩
def FI(l:Array Bool):Nat:=l.toList.countP (! ·)
theorem Lk(h:l.getD i true=false):FI (l.setIfInBounds i true)+1=FI l:=by
 have hi:i<l.size:=by
  by_cases hi:i<l.size
  ·exact hi
  ·simp[A1,hi] at h
 have hv:l.toList[i]'(by simpa using hi)=false:=by simpa[A1,hi] using h
 unfold FI;rw[Array.toList_setIfInBounds,List.countP_set (by simpa using hi),hv];have:0<l.toList.countP (! ·):=List.countP_pos_iff.2 ⟨false,by rw[<- hv];exact G0 _,rfl⟩
 simp only[Bool.not_false,Bool.not_true,if_true,if_false,Bool.false_eq_true];omega
theorem JL(h:FI l=0)(i:Nat):l.getD i true=true:=by
 by_cases hi:i<l.size
 ·have h1:=List.countP_eq_zero.1 h l[i] (by simp);simpa[A1,hi] using h1
 ·simp[A1,hi]
theorem BC(h:i∈A2 md ops l):l.getD i true=false /\ ∀o,ops[i]? = some o -> ∀e∈o.after,Ft md e=true->l.getD e.on false=true:=by
 obtain⟨h1,o,h2,h3⟩:=HA.1 h;exact⟨h1,fun o' q0=>by rw[h2] at q0;injection q0 with q0;subst q0;exact h3⟩
theorem GZ{P:Program}{Q:Exit->Act->D1->Prop}(I:Array Bool->Act->D1->Prop)(hs:∀l a w,I l a w -> ∀i,i∈A2 md ops l->wpOp P ops Q i (I (l.setIfInBounds i true)) a w)(he:∀l a w,I l a w->A2 md ops l=[]->Q .normal a w):∀ (q0:Nat) (l:Array Bool) (a:Act) (w:D1),FI l<=q0->I l a w->wpAny P md ops Q q0 l a w:=by
 intro q0;induction q0 with
 | zero=>
  intro l a w hl hi;have hr:A2 md ops l=[]:=by
   rw[List.eq_nil_iff_forall_not_mem];intro i hm;have h1:=(BC hm).1;rw[JL (by omega) i] at h1;cases h1
  exact⟨hr,he l a w hi hr⟩
 | succ n ih=>
  intro l a w hl hi;refine⟨fun hr=>he l a w hi hr,fun i hm=>wpOp_mono (fun a' w' h'=>ih _ a' w' ?_ h') (hs l a w hi i hm)⟩;have:=Lk (BC hm).1;omega
def FB(md:HG)(ops:Array Oper)(l:Array Bool):Prop:=∀i o,ops[i]? = some o->l.getD i false=true -> ∀e∈o.after,Ft md e=true->l.getD e.on false=true
theorem FB.next(h:FB md ops l)(hi:i∈A2 md ops l):FB md ops (l.setIfInBounds i true):=by
 intro j o ho hj e he hb;by_cases q0:i=j
 ·subst q0;exact AS ((BC hi).2 o ho e he hb)
 ·exact AS (h j o ho ((AI _ q0).symm.trans hj) e he hb)
theorem Jo{P:Program}{Q:Exit->Act->D1->Prop}(I:Array Bool->Act->D1->Prop)(hs:∀l a w,FB md ops l->I l a w -> ∀i,i∈A2 md ops l->wpOp P ops Q i (I (l.setIfInBounds i true)) a w)(he:∀l a w,I l a w->A2 md ops l=[]->Q .normal a w)(n:Nat)(a:Act)(w:D1)(h:I (G2 n false) a w):wpAny P md ops Q n (G2 n false) a w:=by
 refine GZ (fun l a w=>FB md ops l/\I l a w) (fun l a w hI i hi=>?_) (fun l a w hI hr=>he l a w hI.2 hr) n _ a w ?_ ⟨?_,h⟩
 ·exact wpOp_mono (fun a' w' h'=>⟨hI.1.next hi,h'⟩) (hs l a w hI.1 hI.2 i hi)
 ·unfold FI;refine CL List.countP_le_length ?_;simp
 ·intro i o _ hi
  exfalso
  rw[Array.getD_eq_getD_getElem?,Array.getElem?_replicate] at hi;split at hi<;>cases hi
theorem D5(hsz:l.size=ops.size)(hw:(List.range ops.size).all (fun i=>((ops[i]?).map fun o=>o.after.all fun e=>!Ft md e || decide (e.on<i)).getD true)=true)(h:A2 md ops l=[]):∀i,i<ops.size->l.getD i false=true:=by
 intro i;induction i using Nat.strongRecOn with
 | ind i ih=>
  intro hi;by_cases hv:l.getD i false=true
  ·exact hv
  ·exfalso
   have q0:i<l.size:=by omega
   have:i∈A2 md ops l:=by
    refine HA.2 ⟨by simpa[A1,q0] using hv,ops[i],D0 hi,fun e he hb=>?_⟩;have h1:=List.all_eq_true.1 hw i (by simpa using hi);rw[D0 hi] at h1;simp only[Option.map_some,Option.getD_some] at h1;have h2:=Array.all_eq_true_iff_forall_mem.1 h1 e he;rw[hb] at h2;have h3:e.on<i:=of_decide_eq_true (by simpa using h2);exact ih e.on h3 (by omega)
   rw[h] at this;cases this
theorem Ac(h:i≠j){p:Prop}(e:l.getD j false=true->p):(l.setIfInBounds i true).getD j false=true->p:=fun h'=>e ((AI _ h).symm.trans h')
theorem Qb{n:Nat}(h:l.size=n)(i:Nat)(hi:i<n):(l.setIfInBounds i true).getD i false=true:=by
 simp[A1,h,hi]
def elD(b1 b2:Bool)(x y:Bs):List (Lit×DataW Bs):=(if b1 then [(.string ZP,.held x)] else [])++(if b2 then [(.string Bc,.held y)] else [])
theorem YJ(b2:Bool)(x x' y:Bs):HD (.map (elD false b2 x' y)) (.string ZP) (.held x)=.map (elD true b2 x y):=by cases b2<;>rfl
theorem YI(b1:Bool)(x y y':Bs):HD (.map (elD b1 false x y')) (.string Bc) (.held y)=.map (elD b1 true x y):=by cases b1<;>rfl
theorem YH(x y z:Bs):HD (.map (elD true true x y)) (.string Ba) (.held z)=.map (elD true true x y++if true then [(.string Ba,.held z)] else []):=rfl
def StB(w:D1)(B:Nat)(v:Bs)(s:By):Prop:=∃p,v=.pointer (some ⟨p,0,none⟩)/\B<=p/\VB w p 4 n0 s (.slice none 0 0) (.map none)
theorem StB.keep{v:Bs}{s:By}(h:StB w B v s)(hk:∀p,p<w.heap.size->(∃c t f,w.heap[p]? = some (.cells c t f))->w'.heap[p]? = w.heap[p]?):StB w' B v s:=by
 obtain⟨p,h1,h2,h3⟩:=h;exact⟨p,h1,h2,h3.kept (hk p h3.lt ⟨_,_,_,h3⟩)⟩
theorem StB.mono{B':Nat}{v:Bs}{s:By}(h:StB w B v s)(hB:B'<=B):StB w B' v s:=by
 obtain⟨p,h1,h2,h3⟩:=h;exact⟨p,h1,CL hB h2,h3⟩
def elA(t0:Bs)(q1 q3:Nat)(t6 t7 t8 x4 x9 x10 x11 x12 x13 x14 x15 x16 x17:Bs):Act:=
 { tmps:=#[t0,.pointer (some ⟨q1,0,none⟩),.pointer none,.pointer (some ⟨q3,0,none⟩),x4,.pointer (some ⟨q1,0,none⟩),t6,t7,t8,x9,x10,x11,x12,x13,x14,x15,x16,x17,A6,A6,A6,A6,A6,A6,A6,A6,A6,A6,A6,A6,A6,A6,A6],defers:=[] }
structure ElI(wb:D1)(t0:Bs)(q1 q3:Nat)(t6 t7 t8:Bs)(nm:By)(pv:Bs)(ps:By)(l:Array Bool)(a:Act)(w:D1):Prop where
 sz:l.size=12
 bel:CD wb.heap.size wb w
 d4:l.getD 4 false=true->l.getD 3 false=true/\l.getD 0 false=true
 d9:l.getD 9 false=true->l.getD 8 false=true/\l.getD 0 false=true
 d10:l.getD 10 false=true->l.getD 9 false=true/\l.getD 0 false=true
 d11:l.getD 11 false=true->l.getD 10 false=true/\l.getD 0 false=true
 ex:∃x4 x9 x10 x11 x12 x13 x14 x15 x16 x17,a=elA t0 q1 q3 t6 t7 t8 x4 x9 x10 x11 x12 x13 x14 x15 x16 x17 /\
  (l.getD 1 false=true->x10=.pointer (some ⟨q3,0,none⟩))/\(l.getD 2 false=true->x11=.string ⟨nm.toArray⟩)/\(l.getD 3 false=true->StB w wb.heap.size x12 nm) /\
  (l.getD 5 false=true->x13=.pointer (some ⟨q1,1,none⟩))/\(l.getD 6 false=true->x14=pv)/\(l.getD 7 false=true->x15=.string ⟨ps.toArray⟩)/\(l.getD 8 false=true->StB w wb.heap.size x16 ps) /\
  (l.getD 0 false=true -> ∃M n,x9=.map (some M)/\wb.heap.size<=M/\n<=(if l.getD 4 false then 1 else 0)+(if l.getD 9 false then 1 else 0)/\w.ownsMap A3 9 RV M n (.map (elD (l.getD 4 false) (l.getD 9 false) x12 x16))) /\
  (l.getD 10 false=true->x17=x9)/\(l.getD 11 false=true->x4=x9)
theorem Kz(h:l.size=12)(i j:Nat)(hi:i<12):(l.setIfInBounds i true).getD j false=if i=j then true else l.getD j false:=by
 by_cases e:i=j
 ·subst e;rw[if_pos rfl];simp[A1,h,hi]
 ·rw[if_neg e];exact AI _ e
theorem Hs{M n:Nat}{D:DataW Bs}(h:w.ownsMap A3 9 RV M n D){p:Nat}(hp:∃c t f,w.heap[p]? = some (.cells c t f)):p≠M:=by
 rintro rfl;obtain⟨es,q0,hb,_⟩:=h;obtain⟨c,t,f,e⟩:=hp;rw[hb] at e;cases e
theorem ElI.low{wb:D1}{t0:Bs}{q1 q3:Nat}{t6 t7 t8:Bs}{nm:By}{pv:Bs}{ps:By}{a:Act}(h:ElI wb t0 q1 q3 t6 t7 t8 nm pv ps l a w)(hb:CD w.heap.size w w'):ElI wb t0 q1 q3 t6 t7 t8 nm pv ps l a w':=by
 obtain⟨hsz,q0,q8,q9,q4,q5,x4,x9,x10,x11,x12,x13,x14,x15,x16,x17,ha,e1,e2,e3,e5,e6,e7,e8,e0,q6,q7⟩:=h;refine⟨hsz,q0.trans (hb.mono q0.size),q8,q9,q4,q5,x4,x9,x10,x11,x12,x13,x14,x15,x16,x17,ha,e1,e2,fun h=>(e3 h).keep fun p hp _=>hb.block p hp,e5,e6,e7,fun h=>(e8 h).keep fun p hp _=>hb.block p hp,fun h=>?_,q6,q7⟩;obtain⟨M,n,m1,m2,m3,m4⟩:=e0 h;exact⟨M,n,m1,m2,m3,Aj m4 (hb.block M (A7 m4))⟩
theorem Am{m:Nat}(h:i≠j)(e:l.getD j false=true->l.getD k false=true/\l.getD m false=true):(l.setIfInBounds i true).getD j false=true->(l.setIfInBounds i true).getD k false=true/\(l.setIfInBounds i true).getD m false=true:=fun h'=>
 have h2:=e ((AI _ h).symm.trans h')
 ⟨AS h2.1,AS h2.2⟩
def YU(w:D1)(nm ps:By)(nv:Bool)(y:Bs)(e:Ending)(w':D1):Prop:=∃p M x12 x16,e=.returned (.pointer (some ⟨p,0,none⟩))/\VB w' p 6 n0 [] (.slice none 0 0) (.map (some M))/\w.heap.size<=p/\w.heap.size<=M /\
 StB w' w.heap.size x12 nm/\StB w' w.heap.size x16 ps/\CD w.heap.size w w'/\w'.ownsMap A3 9 RV M 3 (.map (elD true true x12 x16++if nv then [(.string Ba,.held y)] else []))
theorem Sy{pa y:Option Addr}{pl pc:Nat}{nm ps:By}{nv:Bool}(hk:k<6)(hl:3<w.heap.size)(c0:w.cell? ⟨3,k*3,none⟩=some (.string ⟨nm.toArray⟩))(c1:w.cell? ⟨3,k*3+1,none⟩=some (.bool nv))(c2:w.cell? ⟨3,k*3+2,none⟩=some (.bool false))(hS:∀w',CD w.heap.size w w'->HI A3 165 #[.slice pa pl pc] w' fun e zo=>e=.returned (.string ⟨ps.toArray⟩)/\CD w'.heap.size w' zo):
  HI A3 122 #[.agg #[.int .i64 k,.slice pa pl pc,.slice none 0 0,.pointer y]] w (YU w nm ps nv (.pointer y)):=by
 have hk2:(k:Int)<6:=by omega
 have zg:=@run_makeMap A3
 go_enter func122,ntmps122
 go_upto_region 2 with (fail)
 obtain⟨wb,qm⟩:∃wb,wb=((w.alloc (.cells #[.int .i64 k,.slice pa pl pc,.slice none 0 0,.pointer y] 178)).alloc (.cells #[.string ⟨nm.toArray⟩,.bool nv,.bool false] 219)):=⟨_,rfl⟩
 rw[<- qm];have zn:wb.heap.size=w.heap.size+2:=by rw[qm];simp
 have qn:CD w.heap.size w wb:=by rw[qm];exact ((C1 _ _).alloc (A5 _) _).alloc (by simp) _
 have b1:wb.heap[w.heap.size]? = some (.cells #[.int .i64 k,.slice pa pl pc,.slice none 0 0,.pointer y] 178 (0,0)):=by rw[qm];exact (Below.heap_alloc _ _ _ (by simp)).trans (CH w _)
 have b3:wb.heap[w.heap.size+1]? = some (.cells #[.string ⟨nm.toArray⟩,.bool nv,.bool false] 219 (0,0)):=by
  rw[qm];have:=CH (w.alloc (.cells #[.int .i64 k,.slice pa pl pc,.slice none 0 0,.pointer y] 178)) (.cells #[.string ⟨nm.toArray⟩,.bool nv,.bool false] 219);simpa using this
 go_cut [4] (fun s4 wx=>∃M x12 x16,s4=.map (some M)/\StB wx wb.heap.size x12 nm/\StB wx wb.heap.size x16 ps/\wb.heap.size<=M/\wx.ownsMap A3 9 RV M 2 (.map (elD true true x12 x16))/\CD wb.heap.size wb wx)
 case first=>
  refine wp_region_any (by kernel_rfl) ?_;refine GZ (ElI wb (.agg #[.int .i64 k,.slice pa pl pc,.slice none 0 0,.pointer y]) w.heap.size (w.heap.size+1) (.int .i64 k) (.pointer (some ⟨3,k*3,none⟩)) (.agg #[.string ⟨nm.toArray⟩,.bool nv,.bool false]) nm (.slice pa pl pc) ps) ?hs ?he _ _ _ _ ?hc ?h0
  case hc=>decide
  case h0=>
   refine⟨rfl,⟨rfl,rfl,rfl,A5 _,fun _ _=>rfl⟩,?_,?_,?_,?_,A6,A6,A6,A6,A6,A6,A6,A6,A6,A6,rfl,?_⟩;all_goals simp
  case he=>
   intro l a w1 hI hr;have qf:=D5 hI.sz (by kernel_rfl) hr;obtain⟨hsz,q0,q9,qb,q4,q6,x4,x9,x10,x11,x12,x13,x14,x15,x16,x17,rfl,e1,e2,e3,e5,e6,e7,e8,e0,qd,qe⟩:=hI;have g4:=qf 4 (by decide);have g9:=qf 9 (by decide);obtain⟨M,n,rfl,m2,m3,m4⟩:=e0 (qf 0 (by decide));rw[g4,g9] at m3 m4;obtain rfl:=qe (qf 11 (by decide));have s1:=e3 (qf 3 (by decide));have s2:=e8 (qf 8 (by decide));unfold elA
   go_wp2_with (fail)
   go_meet
   exact⟨M,x12,x16,rfl,s1,s2,m2,m4.mono m3,q0⟩
  case hs=>
   intro l a w1 hI i hi;obtain⟨hno,q7⟩:=BC hi;have zi:i<12:=by
    obtain⟨_,o,ho,_⟩:=HA.1 hi;exact (AT.1 ho).1
   have qu:=hI;obtain⟨hsz,q0,q9,qb,q4,q6,x4,x9,x10,x11,x12,x13,x14,x15,x16,x17,rfl,e1,e2,e3,e5,e6,e7,e8,e0,qd,qe⟩:=hI;have qg:=q0;have zh:=qn.trans (q0.mono qn.size);have qp:i=0\/i=1\/i=2\/i=3\/i=4\/i=5\/i=6\/i=7\/i=8\/i=9\/i=10\/i=11:=by omega
   rcases qp with rfl|rfl|rfl|rfl|rfl|rfl|rfl|rfl|rfl|rfl|rfl|rfl
   ·refine A4 rfl fun K hK=>?_;unfold elA
    go_simp;have hb2:CD w1.heap.size w1 (w1.alloc (.map #[] 0)):=(C1 _ _).alloc (A5 _) _
    have qv:l.getD 0 false=false:=by simpa[A1,hsz] using hno
    have qk:l.getD 4 false=false:=by
     cases h:l.getD 4 false
     ·rfl
     ·have:=(q9 h).2;rw[qv] at this;cases this
    have zk:l.getD 9 false=false:=by
     cases h:l.getD 9 false
     ·rfl
     ·have:=(qb h).2;rw[qv] at this;cases this
    obtain⟨hsz,q0,q9,qb,q4,q6,y4,y9,z1,z6,z7,z8,za,zb,zc,ze,ha,e1,e2,e3,e5,e6,e7,e8,e0,qd,qe⟩:=qu.low hb2;injection ha with ha _;injection ha with ha;simp only[Dp,true_and,and_true] at ha;obtain⟨rfl,rfl,rfl,rfl,rfl,rfl,rfl,rfl,rfl,rfl⟩:=ha;refine hK _ _ ⟨by simp[hsz],q0,Am (by decide) q9,Am (by decide) qb,Am (by decide) q4,Am (by decide) q6,_,_,_,_,_,_,_,_,_,_,rfl,Ac (by decide) e1,Ac (by decide) e2,Ac (by decide) e3,Ac (by decide) e5,Ac (by decide) e6,Ac (by decide) e7,Ac (by decide) e8,?_,fun h=>absurd (q4 ((AI _ (by decide)).symm.trans h)).2 (by rw[qv];decide),fun h=>absurd (q6 ((AI _ (by decide)).symm.trans h)).2 (by rw[qv];decide)⟩;intro _;rw[AI false (show 0≠4 by decide),AI false (show 0≠9 by decide),qk,zk];exact⟨w1.heap.size,0,rfl,by have:=qg.size;omega,by simp,World.ownsMap_made w1 _ _ _⟩
   ·refine A4 rfl fun K hK=>?_;unfold elA
    go_simp;refine hK _ _ ⟨by simp[hsz],q0,Am (by decide) q9,Am (by decide) qb,Am (by decide) q4,Am (by decide) q6,_,_,_,_,_,_,_,_,_,_,rfl,fun _=>rfl,Ac (by decide) e2,Ac (by decide) e3,Ac (by decide) e5,Ac (by decide) e6,Ac (by decide) e7,Ac (by decide) e8,?_,Ac (by decide) qd,Ac (by decide) qe⟩
    rw[AI false (show 1≠4 by decide),AI false (show 1≠9 by decide)];exact Ac (by decide) e0
   ·obtain rfl:=e1 (q7 _ rfl ⟨1,.data⟩ (by simp) rfl);have hc:w1.cell? ⟨w.heap.size+1,0,none⟩=some (.string ⟨nm.toArray⟩):=by
     have:=(q0.block (w.heap.size+1) (by omega)).trans b3;simp[BY,this]
    refine A4 rfl fun K hK=>?_;unfold elA
    go_simp;refine hK _ _ ⟨by simp[hsz],q0,Am (by decide) q9,Am (by decide) qb,Am (by decide) q4,Am (by decide) q6,_,_,_,_,_,_,_,_,_,_,rfl,Ac (by decide) e1,fun _=>rfl,Ac (by decide) e3,Ac (by decide) e5,Ac (by decide) e6,Ac (by decide) e7,Ac (by decide) e8,?_,Ac (by decide) qd,Ac (by decide) qe⟩
    rw[AI false (show 2≠4 by decide),AI false (show 2≠9 by decide)];exact Ac (by decide) e0
   ·obtain rfl:=e2 (q7 _ rfl ⟨2,.data⟩ (by simp) rfl);refine A4 rfl fun K hK=>?_;unfold elA
    go_simp;refine (Hk nm).mono ?_
    rintro e w2 ⟨rfl,qz,hb2,hs2⟩;show K _ _;obtain⟨hsz,q0,q9,qb,q4,q6,y4,y9,z1,z6,z7,z8,za,zb,zc,ze,ha,e1,e2,e3,e5,e6,e7,e8,e0,qd,qe⟩:=qu.low hb2;injection ha with ha _;injection ha with ha;simp only[Dp,true_and,and_true] at ha;obtain⟨rfl,rfl,rfl,rfl,rfl,rfl,rfl,rfl,rfl,rfl⟩:=ha;refine hK _ _ ⟨by simp[hsz],q0,Am (by decide) q9,Am (by decide) qb,Am (by decide) q4,Am (by decide) q6,_,_,_,_,_,_,_,_,_,_,rfl,Ac (by decide) e1,Ac (by decide) e2,fun _=>⟨_,rfl,qg.size,qz⟩,Ac (by decide) e5,Ac (by decide) e6,Ac (by decide) e7,Ac (by decide) e8,?_,Ac (by decide) qd,Ac (by decide) qe⟩;have qw:l.getD 3 false=false:=by simpa[A1,hsz] using hno
    have qk:l.getD 4 false=false:=by
     cases h:l.getD 4 false
     ·rfl
     ·have:=(q9 h).1;rw[qw] at this;cases this
    rw[AI false (show 3≠4 by decide),AI false (show 3≠9 by decide),qk];rw[qk] at e0;exact Ac (by decide) e0
   ·have dd:=q7 _ rfl ⟨3,.data⟩ (by simp) rfl;obtain⟨p,rfl,zl,zm⟩:=e3 dd;obtain⟨M,n,rfl,m2,m3,m4⟩:=e0 (q7 _ rfl ⟨0,.data⟩ (by simp) rfl);have qx:l.getD 4 false=false:=by simpa[A1,hsz] using hno
    rw[qx] at m3 m4;have zj:n<=1:=by
     revert m3
     cases l.getD 9 false<;>simp<;>omega
    obtain⟨w2,qi,qt,qq⟩:=C2 m4 Bw underlying109 (by unfold maxLen;omega) (Ee ZP (by decide)) (show RV (.pointer (some ⟨p,0,none⟩))=some (.held (.pointer (some ⟨p,0,none⟩)),[]) from rfl);rw[YJ] at qt;unfold ZP at qi;have qj:∀q,q<w1.heap.size->(∃c t f,w1.heap[q]? = some (.cells c t f))->w2.heap[q]? = w1.heap[q]?:=fun q hq hc=>qq.block q hq (fun e=>Hs m4 hc (Dt e));have qh:CD wb.heap.size wb w2:=q0.grown qq q0.size (fun j hj=>by cases hj;exact m2);have e3:l.getD 3 false=true->StB w2 wb.heap.size (.pointer (some ⟨p,0,none⟩)) nm:=fun h=>(e3 h).keep qj;have e8:=fun h=>(e8 h).keep qj;refine A4 rfl fun K hK=>?_;unfold elA
    go_simp;refine hK _ _ ⟨by simp[hsz],qh,fun _=>⟨AS dd,AS (q7 _ rfl ⟨0,.data⟩ (by simp) rfl)⟩,Am (by decide) qb,Am (by decide) q4,Am (by decide) q6,_,_,_,_,_,_,_,_,_,_,rfl,Ac (by decide) e1,Ac (by decide) e2,Ac (by decide) e3,Ac (by decide) e5,Ac (by decide) e6,Ac (by decide) e7,Ac (by decide) e8,?_,Ac (by decide) qd,Ac (by decide) qe⟩
    intro _;rw[Kz hsz 4 4 (by decide),if_pos rfl,AI false (show 4≠9 by decide)];exact⟨M,n+1,rfl,m2,by simp at m3 |-; omega,qt⟩
   ·refine A4 rfl fun K hK=>?_;unfold elA
    go_simp;refine hK _ _ ⟨by simp[hsz],q0,Am (by decide) q9,Am (by decide) qb,Am (by decide) q4,Am (by decide) q6,_,_,_,_,_,_,_,_,_,_,rfl,Ac (by decide) e1,Ac (by decide) e2,Ac (by decide) e3,fun _=>rfl,Ac (by decide) e6,Ac (by decide) e7,Ac (by decide) e8,?_,Ac (by decide) qd,Ac (by decide) qe⟩
    rw[AI false (show 5≠4 by decide),AI false (show 5≠9 by decide)];exact Ac (by decide) e0
   ·obtain rfl:=e5 (q7 _ rfl ⟨5,.data⟩ (by simp) rfl);have hc:w1.cell? ⟨w.heap.size,1,none⟩=some (.slice pa pl pc):=by
     have:=(q0.block w.heap.size (by omega)).trans b1;simp[BY,this]
    refine A4 rfl fun K hK=>?_;unfold elA
    go_simp;refine hK _ _ ⟨by simp[hsz],q0,Am (by decide) q9,Am (by decide) qb,Am (by decide) q4,Am (by decide) q6,_,_,_,_,_,_,_,_,_,_,rfl,Ac (by decide) e1,Ac (by decide) e2,Ac (by decide) e3,Ac (by decide) e5,fun _=>rfl,Ac (by decide) e7,Ac (by decide) e8,?_,Ac (by decide) qd,Ac (by decide) qe⟩
    rw[AI false (show 6≠4 by decide),AI false (show 6≠9 by decide)];exact Ac (by decide) e0
   ·obtain rfl:=e6 (q7 _ rfl ⟨6,.data⟩ (by simp) rfl);refine A4 rfl fun K hK=>?_;unfold elA
    go_simp;refine (hS w1 zh).mono ?_
    rintro e w2 ⟨rfl,hb2⟩;show K _ _;obtain⟨hsz,q0,q9,qb,q4,q6,y4,y9,z1,z6,z7,z8,za,zb,zc,ze,ha,e1,e2,e3,e5,e6,e7,e8,e0,qd,qe⟩:=qu.low hb2;injection ha with ha _;injection ha with ha;simp only[Dp,true_and,and_true] at ha;obtain⟨rfl,rfl,rfl,rfl,rfl,rfl,rfl,rfl,rfl,rfl⟩:=ha;refine hK _ _ ⟨by simp[hsz],q0,Am (by decide) q9,Am (by decide) qb,Am (by decide) q4,Am (by decide) q6,_,_,_,_,_,_,_,_,_,_,rfl,Ac (by decide) e1,Ac (by decide) e2,Ac (by decide) e3,Ac (by decide) e5,Ac (by decide) e6,fun _=>rfl,Ac (by decide) e8,?_,Ac (by decide) qd,Ac (by decide) qe⟩;rw[AI false (show 7≠4 by decide),AI false (show 7≠9 by decide)];exact Ac (by decide) e0
   ·obtain rfl:=e7 (q7 _ rfl ⟨7,.data⟩ (by simp) rfl);refine A4 rfl fun K hK=>?_;unfold elA
    go_simp;refine (Hk ps).mono ?_
    rintro e w2 ⟨rfl,qz,hb2,hs2⟩;show K _ _;obtain⟨hsz,q0,q9,qb,q4,q6,y4,y9,z1,z6,z7,z8,za,zb,zc,ze,ha,e1,e2,e3,e5,e6,e7,e8,e0,qd,qe⟩:=qu.low hb2;injection ha with ha _;injection ha with ha;simp only[Dp,true_and,and_true] at ha;obtain⟨rfl,rfl,rfl,rfl,rfl,rfl,rfl,rfl,rfl,rfl⟩:=ha;refine hK _ _ ⟨by simp[hsz],q0,Am (by decide) q9,Am (by decide) qb,Am (by decide) q4,Am (by decide) q6,_,_,_,_,_,_,_,_,_,_,rfl,Ac (by decide) e1,Ac (by decide) e2,Ac (by decide) e3,Ac (by decide) e5,Ac (by decide) e6,Ac (by decide) e7,fun _=>⟨_,rfl,qg.size,qz⟩,?_,Ac (by decide) qd,Ac (by decide) qe⟩;have qw:l.getD 8 false=false:=by simpa[A1,hsz] using hno
    have qk:l.getD 9 false=false:=by
     cases h:l.getD 9 false
     ·rfl
     ·have:=(qb h).1;rw[qw] at this;cases this
    rw[AI false (show 8≠4 by decide),AI false (show 8≠9 by decide),qk];rw[qk] at e0;exact Ac (by decide) e0
   ·have dd:=q7 _ rfl ⟨8,.data⟩ (by simp) rfl;obtain⟨p,rfl,zl,zm⟩:=e8 dd;obtain⟨M,n,rfl,m2,m3,m4⟩:=e0 (q7 _ rfl ⟨0,.data⟩ (by simp) rfl);have qx:l.getD 9 false=false:=by simpa[A1,hsz] using hno
    rw[qx] at m3 m4;have zj:n<=1:=by
     revert m3
     cases l.getD 4 false<;>simp<;>omega
    obtain⟨w2,qi,qt,qq⟩:=C2 m4 Bw underlying109 (by unfold maxLen;omega) (Ee Bc (by decide)) (show RV (.pointer (some ⟨p,0,none⟩))=some (.held (.pointer (some ⟨p,0,none⟩)),[]) from rfl);rw[YI] at qt;unfold Bc at qi;have qj:∀q,q<w1.heap.size->(∃c t f,w1.heap[q]? = some (.cells c t f))->w2.heap[q]? = w1.heap[q]?:=fun q hq hc=>qq.block q hq (fun e=>Hs m4 hc (Dt e));have qh:CD wb.heap.size wb w2:=q0.grown qq q0.size (fun j hj=>by cases hj;exact m2);have e3:=fun h=>(e3 h).keep qj;have e8:l.getD 8 false=true->StB w2 wb.heap.size (.pointer (some ⟨p,0,none⟩)) ps:=fun h=>(e8 h).keep qj;refine A4 rfl fun K hK=>?_;unfold elA
    go_simp;refine hK _ _ ⟨by simp[hsz],qh,Am (by decide) q9,fun _=>⟨AS dd,AS (q7 _ rfl ⟨0,.data⟩ (by simp) rfl)⟩,Am (by decide) q4,Am (by decide) q6,_,_,_,_,_,_,_,_,_,_,rfl,Ac (by decide) e1,Ac (by decide) e2,Ac (by decide) e3,Ac (by decide) e5,Ac (by decide) e6,Ac (by decide) e7,Ac (by decide) e8,?_,Ac (by decide) qd,Ac (by decide) qe⟩
    intro _;rw[Kz hsz 9 9 (by decide),if_pos rfl,AI false (show 9≠4 by decide)];exact⟨M,n+1,rfl,m2,by simp at m3 |-; omega,qt⟩
   ·refine A4 rfl fun K hK=>?_;unfold elA
    go_simp;refine hK _ _ ⟨by simp[hsz],q0,Am (by decide) q9,Am (by decide) qb,fun _=>⟨AS (q7 _ rfl ⟨9,.data⟩ (by simp) rfl),AS (q7 _ rfl ⟨0,.data⟩ (by simp) rfl)⟩,Am (by decide) q6,_,_,_,_,_,_,_,_,_,_,rfl,Ac (by decide) e1,Ac (by decide) e2,Ac (by decide) e3,Ac (by decide) e5,Ac (by decide) e6,Ac (by decide) e7,Ac (by decide) e8,?_,fun _=>rfl,Ac (by decide) qe⟩
    rw[AI false (show 10≠4 by decide),AI false (show 10≠9 by decide)];exact Ac (by decide) e0
   ·obtain rfl:=qd (q7 _ rfl ⟨10,.data⟩ (by simp) rfl);refine A4 rfl fun K hK=>?_;unfold elA
    go_simp;refine hK _ _ ⟨by simp[hsz],q0,Am (by decide) q9,Am (by decide) qb,Am (by decide) q4,fun _=>⟨AS (q7 _ rfl ⟨10,.data⟩ (by simp) rfl),AS (q7 _ rfl ⟨0,.phase⟩ (by simp) rfl)⟩,_,_,_,_,_,_,_,_,_,_,rfl,Ac (by decide) e1,Ac (by decide) e2,Ac (by decide) e3,Ac (by decide) e5,Ac (by decide) e6,Ac (by decide) e7,Ac (by decide) e8,?_,Ac (by decide) qd,fun _=>rfl⟩
    rw[AI false (show 11≠4 by decide),AI false (show 11≠9 by decide)];exact Ac (by decide) e0
 case rest=>
  obtain⟨M,x12,x16,rfl,hx,hy,hM,ho,qo⟩:=hcut;have zq:=qo.size;have hin:∀j,j<wb.heap.size->j≠M:=fun j hj e=>by omega
  have g1:=(qo.block (w.heap.size+1) (by omega)).trans b3;have g2:=(qo.block w.heap.size (by omega)).trans b1;have q1:wc.cell? ⟨w.heap.size+1,1,none⟩=some (.bool nv):=by simp[BY,g1]
  have q2:wc.cell? ⟨w.heap.size+1,2,none⟩=some (.bool false):=by simp[BY,g1]
  have q3:wc.cell? ⟨w.heap.size,3,none⟩=some (.pointer y):=by simp[BY,g2]
  have HB:=Ab (qn.trans (qo.mono qn.size));have zr:w.heap.size+2<=wb.heap.size:=by omega
  cases nv with
  | false=>
   have HX:=Ab hx;have HY:=Ab hy;have HO:=Ab ho;clear hx hy ho qo g1 g2 qn b1 b3 qm zg hS c0 c1 c2 hin
   go_wp2_with (fail)
   go_ret;have q8:∀o:Obj,CD wc.heap.size wc (wc.alloc o):=fun o=>(C1 _ _).alloc (A5 _) _
   refine⟨wc.heap.size,M,x12,x16,rfl,CH wc _,by omega,by omega,?_,?_,(Aa HB).trans ((q8 _).mono (Aa HB).size),?_⟩
   ·exact ((Aa HX).keep fun p hp _=>(q8 _).block p hp).mono (by omega)
   ·exact ((Aa HY).keep fun p hp _=>(q8 _).block p hp).mono (by omega)
   ·rw[if_neg (by decide),D2];exact (Aj (Aa HO) ((q8 _).block M (A7 (Aa HO)))).mono (by omega)
  | true=>
   obtain⟨w3,qi,qy,qr⟩:=C2 ho Bw underlying109 (by unfold maxLen;omega) (Ee Ba (by decide)) (show RV (.pointer y)=some (.held (.pointer y),[]) from rfl);rw[YH] at qy;unfold Ba at qi;have qj:∀q,q<wc.heap.size->(∃c t f,wc.heap[q]? = some (.cells c t f))->w3.heap[q]? = wc.heap[q]?:=fun q hq hc=>qr.block q hq (fun e=>Hs ho hc (Dt e));have q5:w3.cell? ⟨w.heap.size+1,2,none⟩=some (.bool false):=by
    have:=(qr.block (w.heap.size+1) (by omega) (fun e=>hin _ (by omega) (Dt e))).trans g1;simp[BY,this]
   have HX:=Ab (hx.keep qj);have HY:=Ab (hy.keep qj);have HO:=Ab qy;have zf:=Ab ((Aa HB).grown qr (Aa HB).size (fun j hj=>by cases hj;omega));have zs:=qr.size;clear hx hy ho qy qr qj qo g1 g2 qn b1 b3 qm zg hS c0 c1 c2 hin
   go_wp2_with (fail)
   go_ret;have q8:∀o:Obj,CD w3.heap.size w3 (w3.alloc o):=fun o=>(C1 _ _).alloc (A5 _) _
   refine⟨w3.heap.size,M,x12,x16,rfl,CH w3 _,by omega,by omega,?_,?_,(Aa zf).trans ((q8 _).mono (Aa zf).size),?_⟩
   ·exact ((Aa HX).keep fun p hp _=>(q8 _).block p hp).mono (by omega)
   ·exact ((Aa HY).keep fun p hp _=>(q8 _).block p hp).mono (by omega)
   ·rw[if_pos rfl];exact Aj (Aa HO) ((q8 _).block M (A7 (Aa HO)))
end Go.Proofs.YtdpomdelmdofmaaGreatDoor
