import Derived.Test.YtdpomdelmdofmaaGreatDoorUnd34
namespace Go.Proofs.YtdpomdelmdofmaaGreatDoor
open Go.Proofs.Tryz
section
open Go.RowKit Go.Maps
def yO(F:Nat->Prop)(w W0:World)(D:Nat)(d e:Int)(v:Sp.V×Sp.Inv)(l:List Sp.Op2)(x:Ending)(w3:World):Prop:=∃ (c i:Nat) (v':Sp.V×Sp.Inv),x = .returned (.tuple #[.int .i64 i,.int .i64 c])/\w3.heap[w.heap.size]? = W0.heap[w.heap.size]? /\ aw F w w3 /\
 bB w3 (FN F (w.heap.size+1)) (.pointer (some ⟨D,0,none⟩)) d e (some v')/\(match Sp.bk d 0 v.1 [] l with
  | .error (c',i')=>c=c'/\i=i'/\v'=v
  | .ok (y,j)=>c=0/\i=0/\v'=(y,some j.reverse))
theorem uN{w W0 w9:World}{F:Nat->Prop}{D R:Nat}{wp:Value}{d e:Int}{v:Sp.V×Sp.Inv}{l:List Sp.Op2}{ao:Option Addr}{g cap:Nat}(hd:fZ w F D R wp d e v)(hF:∀k,F k->NG<=k/\k<w.heap.size)(hW:Below w.heap.size w W0)(hWs:W0.heap.size=w.heap.size+1)(hb:Below W0.heap.size W0 w9)(hT:ae w9)
  (hops:nU w9 (fun k=>W0.heap.size<=k) g l) (hg:0<l.length->ao=some ⟨g,0,none⟩/\W0.heap.size<=g) (hok:∀o∈l,Sp.OpOk (d+2) e 200000 o) (hn:l.length<=80000) (hd2:d<=20) :
  Calls Tryz.prog 84 #[.pointer (some ⟨D,0,none⟩),.slice ao l.length cap,.int .i64 d] w9 (yO F w W0 D d e v l):=by
 obtain⟨T,a,iv,h1,h2,h3⟩:=hd.ex;have fD:=hd.fD;have hlen:=hd.len;have hgd:=hd.gd;have h1':dX W0 D R wp (.slice none 0 0) iv v.2.isSome T a v.1:=h1.move (hW.block D h1.db.lt) fun k hk=>hW.block k (h1.tr.lt k hk);have h3':lm W0 (fun k=>F k/\k≠D/\k ∉ Sp.fp (top+1) T) iv v.2:=h3.move fun k hk hkl=>⟨hW.block k hkl,hk⟩
 obtain⟨wp0,rfl,hJ⟩:=lX h1' hb;have hTl:=h1.tr.lt;have hDl:=h1.db.lt;have hbs:=hb.size;have hng:=hT.ng;have hfit:Sp.Fit d e 200000 v.1:=⟨hgd,by omega,by have:=(Sp.dF hgd).2;omega⟩
 refine (vH (d:=d) (x:=e) (g:=g) hJ hT (fun k hk=>⟨?_,fun hm=>?_,fun e=>?_⟩) (fun k hk=>⟨hk.2.2,by omega⟩) (by omega) hfit hlen (fun hp=>?_) (fun i hi=>?_) hok (by omega)).mono ?_
 ·omega
 ·have:=(hF k (h2 k hm)).1;omega
 ·have:=(hF k (e▸fD)).1;omega
 ·obtain⟨e1,e2⟩:=hg hp;obtain⟨pa,pl,pc,fa,fl,fc,y,_,q1,_⟩:=hops 0 hp;exact⟨e1,World.block_lt_of_cell? w9 _ q1,fun hm=>by have:=hTl g hm;omega,fun e=>by omega⟩
 ·obtain⟨pa,pl,pc,fa,fl,fc,y,q0,q1⟩:=hops i hi;exact⟨pa,pl,pc,fa,fl,fc,y,q0.move fun k hk hkl=>⟨rfl,⟨hkl,fun hm=>by have:=hTl k hm;omega,fun e=>by omega⟩,Or.inl hk⟩,q1⟩
 ·intro x w3 hp;have hkeep:∀k,k<w.heap.size -> ¬ F k->k<W0.heap.size/\k ∉ Sp.fp (top+1) T/\k≠D:=fun k hk hx=>⟨by omega,fun hm=>hx (h2 k hm),fun e=>hx (e▸fD)⟩
  have hq:w.heap.size<W0.heap.size/\w.heap.size ∉ Sp.fp (top+1) T/\w.heap.size≠D:=⟨by omega,fun hm=>by have:=hTl _ hm;omega,by omega⟩
  unfold yO;cases hr:Sp.bk d 0 v.1 [] l with
  | error ci =>
   obtain⟨c,i⟩:=ci;rw[hr] at hp;obtain⟨rfl,p1,p2,p3,p4,p5,p6⟩:=hp;refine⟨c,i,v,rfl,p2.held _ hq,⟨p3.trans (hb.os.trans hW.os),p4.trans (hb.tape.trans hW.tape),p5.trans (hb.output.trans hW.output),by have:=hW.size;omega,fun k hk hx=>(p2.held k (hkeep k hk hx)).trans (hW.block k hk)⟩,?_,rfl,rfl,rfl⟩;exact nf h1' rfl h2 h3' fD hlen hgd (fun k hk _=>by have:=(hF k hk).2;omega) (by omega) p2 p1
  | ok vj =>
   obtain⟨y,j⟩:=vj;rw[hr] at hp;obtain⟨rfl,wp',jn,T2,a2,M',wk,iv',s1,s2,s3,s4,s5,s6,s7,s8,s9⟩:=hp;have hM:∀k,k<W0.heap.size/\k ∉ Sp.fp (top+1) T/\k≠D->w3.heap[k]? = W0.heap[k]?:=fun k hk=>by
    have h4:=s2.kept k ⟨by omega,hk.2⟩;exact (s5.block k (by have:=s2.size;omega) hk.2.2).trans (h4.2.trans (hb.block k hk.1))
   refine⟨0,0,_,rfl,hM _ hq,⟨s5.os.trans (s2.os.trans (hb.os.trans hW.os)),s5.tape.trans (s2.tape.trans (hb.tape.trans hW.tape)),s5.output.trans (s2.output.trans (hb.output.trans hW.output)),by have:=hW.size;have:=s2.size;have:=s5.size;omega,fun k hk hx=>(hM k (hkeep k hk hx)).trans (hW.block k hk)⟩,?_,rfl,rfl,rfl⟩;refine m9 (F:=F) (B:=w.heap.size+1) (fun k hk=>⟨h2 k hk,by have:=hTl k hk;omega⟩) ⟨fD,by omega⟩ (by omega) s1 s3 s4 s5 s7 s6.gd (Sp.oV (d:=d) (x:=e) (fun o ho=>s8 o (List.mem_reverse.1 ho)) ?_) fun o ho=>⟨by have:=(s8 o (List.mem_reverse.1 ho)).1;omega,fun h=>⟨_,_,((s8 o (List.mem_reverse.1 ho)).2 h).gd,((s8 o (List.mem_reverse.1 ho)).2 h).dd⟩⟩
   rw[List.length_reverse];omega
end

section
set_option maxRecDepth 100000
set_option maxHeartbeats 2000000
open Go.RowKit Go.Maps
theorem kw.below{w w':World}(h:kw w)(hb:Below w.heap.size w w'):kw w':=by
 obtain⟨t,fr,e⟩:=h;exact⟨t,fr,(hb.block _ (Array.getElem?_eq_some_iff.1 e).1).trans e⟩
theorem uw{x:Int}(h1:0<=x)(h2:x<=1000):IntKind.i64.wrap x=x:=by rw[IntKind.wrap_i64];omega
theorem nR{F:Nat->Prop}{p:Value}{d e:Int}{A:Sp.Ans}{v':Sp.V×Sp.Inv}{w w3:World}(a b c:Value)(hk:aw (fun k=>F k/\k<w.heap.size) w w3)(hd:bB w3 (FN (fun k=>F k/\k<w.heap.size) (w.heap.size+1)) p d e (some v')) :
  de F p d e (A,v') w (.returned (aq A)) (((w3.setCell ⟨w.heap.size,0,none⟩ a).setCell ⟨w.heap.size,1,none⟩ b).setCell ⟨w.heap.size,2,none⟩ c):=by
 have hs:=aL.of3 w.heap.size w3 a b c;refine⟨rfl,(hs.kept hk (Nat.le_refl _)).mono fun k h=>h.1,hd.move fun k hk hkl=>⟨hs.block k ?_,?_⟩⟩
 ·rcases hk with⟨⟨_,h1⟩,_⟩|h1<;>omega
 ·rcases hk with⟨h1,_⟩|h1
  ·exact Or.inl h1
  ·exact Or.inr (by omega)
theorem uE{S:Nat}{d e n:Int}{p:Value}{v:Sp.V×Sp.Inv}{F:Nat->Prop}{s:Sp.By}{w:World}(hcfg:Sp.cfg d e n=true)(hF:∀k,F k->NG<=k/\k≠S)(hS:SB w S d e n p)(hD:bB w F p d e (some v))(hT:ae w)(hO:kw w) :
  Calls Tryz.prog 59 #[.pointer (some ⟨S,0,none⟩),.string ⟨s.toArray⟩] w (de F p d e (Sp.stPatch d e v s) w):=by
 obtain⟨hd1,hd2⟩:1<=d/\d<=20:=by
  unfold Sp.cfg Sp.inB at hcfg;simp at hcfg;omega
 have hD0:=hD;obtain⟨D,R,wp,rfl,hdw⟩:=hD;have hdw':=hdw.move (F':=fun k=>F k/\k<w.heap.size) (fun k h1 h2=>⟨rfl,h1,h2⟩);obtain⟨W0,hW0⟩:∃W0,W0=w.alloc (.cells #[.int .i64 0,.int .i64 0,.string ⟨#[]⟩] 46):=⟨_,rfl⟩
 have hb0:Below w.heap.size w W0:=by rw[hW0];exact (Below.refl _ _).alloc (Nat.le_refl _) _
 have hs0:W0.heap.size=w.heap.size+1:=by rw[hW0];simp
 have hab0:AB W0 w.heap.size:=by rw[hW0];exact AB.new w
 have HDW:=U hdw';have HD0:=U hD0;have HF:=U hF;have HB0:=U hb0;have HS0:=U hs0;have HAB0:=U hab0;have HT0:=U (hT.below (hb0.mono hT.ng));have HO0:=U (hO.below hb0);have hS0:=hS.low hb0;have c0:=hS0.c0;have c1:=hS0.c1;have HSB:=U hS0;have hwr:IntKind.i64.wrap (d+2)=d+2:=uw (by omega) (by omega);have HR:=U (fun (w9:World) (hT:ae w9)=>uu s (d+2) e w9 hT);rw[<- hwr] at HR;have HWR:=U hwr;clear hwr;obtain⟨RR,hRR⟩:∃RR,RR=Sp.stPatch d e v s:=⟨_,rfl⟩
 rw[<- hRR];have HRR:=U hRR;have HW0:=U hW0;rw[hW0] at c0 c1;clear hcfg hF hS hD0 hdw hdw' hT hO hb0 hs0 hab0 hS0 hRR hW0;have hd3:1<=d:=hd1
 go_enter func59,ntmps59
 go_upto_region 1 with (fail)
 rw[<- O HW0];rw[<- O HW0] at c0 c1
 go_cut [5,6] (fun s5 s6 wx=>∃ (p2:Option Addr) (c:Nat),s5 = .pointer p2/\s6 = .int .i64 c/\Hid (Below W0.heap.size W0 wx)/\Hid ((0<c/\Sp.readTo s (IntKind.i64.wrap (d+2)) e=(c,none))\/(c=0 /\ ∃v,Sp.readTo s (IntKind.i64.wrap (d+2)) e=(0,some v)/\Tr top W0.heap.size wx (.pointer p2) v)))
 case first =>
  go_region_with (go_at_call 77;refine (O HR _ ?_).mono ?_;exact (O HT0).drew;rintro x w1 ⟨p2,c,rfl,hb1,hc⟩)
  all_goals (
   replace hb1:Below W0.heap.size W0 w1:=⟨hb1.os,hb1.tape,hb1.output,hb1.size,hb1.block⟩
   replace hc:(0<c/\Sp.readTo s (IntKind.i64.wrap (d+2)) e=(c,none))\/(c=0 /\ ∃v,Sp.readTo s (IntKind.i64.wrap (d+2)) e=(0,some v)/\Tr top W0.heap.size w1 (.pointer p2) v):=hc
   have HB1:=U hb1;have HC:=U hc;clear hb1 hc
   go_wp2_with (fail)
   go_meet
   exact⟨p2,c,rfl,rfl,HB1,HC⟩)
 case rest =>
  obtain⟨p2,c,rfl,rfl,HB1,HC⟩:=hcut;have HBW:=U ((O HB0).trans ((O HB1).mono (by have:=O HS0;omega)));have A1:=U ((O HAB0).low (O HB1));rcases O HC with⟨hpos,hrd⟩|⟨rfl,pv,hrd,htr⟩
  ·rw[O HWR] at hrd;have HR2:=U (show RR=((c,0,[]),v) by rw[O HRR];unfold Sp.stPatch;rw[hrd]);have e0:((c:Int) != 0)=true:=by simp;omega
   clear hrd hpos
   go_wp2_with (fail);refine (bH c _).mono ?_
   rintro x w3 ⟨rfl,hb3⟩;have a3:=(O A1).low hb3;have g0:=a3.c0;have g1:=a3.c1;have g2:=a3.c2;have z:=a3.fz;have HB3:=U ((O HBW).trans (hb3.mono (O HBW).size));clear a3 hb3;unfold bh
   go_wp2_with (fail);refine bodyPost_ret (v:=aq (c,0,[])) (by simp[results,results59,go_sem,aq,g0,g1,g2]) rfl ?_
   rw[O HR2];exact nR _ _ _ (aw.of_below (O HB3)) ⟨D,R,wp,rfl,(O HDW).move fun k hk hkl=>⟨(O HB3).block k hkl,Or.inl ⟨hk,by omega⟩⟩⟩
  ·rw[O HWR] at hrd;have hgd:=dy hrd;have hln:=jr hrd top;have hT1:=(O HT0).below ((O HB1).mono (O HT0).ng);have HPR:=U (uP (f:=top-2) htr.rep (by unfold top;omega) (Sp.wP hgd hln) hT1 ((O HO0).below (O HB1)));have HRD:=U hrd;have HOK:=U (fun l (h:Sp.eL pv = .ok l)=>Sp.mq hgd hln (by omega) h);have HT1:=U hT1;clear hrd htr hgd hln hT1
   go_wp2_with (fail);refine (O HPR).mono ?_
   rintro x w2 ⟨hend,hb2⟩;have A2:=U ((O A1).low hb2);have HBW2:=U ((O HBW).trans (hb2.mono (O HBW).size));have HB2:=U hb2;unfold ew at hend;cases hpr:Sp.eL pv with
   | error i =>
    rw[hpr] at hend;subst hend;have HR2:=U (show RR=((10,i,[]),v) by rw[O HRR];unfold Sp.stPatch;rw[O HRD];simp only;rw[hpr]);have g0:=(O A2).c0;have g1:=(O A2).c1;have g2:=(O A2).c2;have z:=(O A2).fz;clear hpr hb2
    go_wp2_with (fail);refine bodyPost_ret (v:=aq (10,i,[])) (by simp[results,results59,go_sem,aq,g0,g1,g2]) rfl ?_
    rw[O HR2];exact nR _ _ _ (aw.of_below (O HBW2)) ⟨D,R,wp,rfl,(O HDW).move fun k hk hkl=>⟨(O HBW2).block k hkl,Or.inl ⟨hk,by omega⟩⟩⟩
   | ok l =>
    rw[hpr] at hend;obtain⟨ao,g,cap,rfl,hg,hops⟩:=hend;obtain⟨hok1,hok2⟩:=O HOK l hpr;have hs1:=(O HB1).size;have hs2:=hb2.size;have hB02:Below W0.heap.size W0 w2:=(O HB1).trans (hb2.mono hs1);have HPC:=U (fun (w9:World) (h9:Below w2.heap.size w2 w9)=>uN (ao:=ao) (cap:=cap) (l:=l) (g:=g) (O HDW) (fun k hk=>⟨(O HF k hk.1).1,hk.2⟩) (O HB0) (O HS0) (hB02.trans (h9.mono hB02.size)) ((O HT1).below ((hb2.trans (h9.mono hs2)).mono (O HT1).ng))
     (fun i hi=>by
      obtain⟨pa,pl,pc,fa,fl,fc,y,q0,q1,q2,q3,q4⟩:=hops i hi;have hgl:=World.block_lt_of_cell? w2 _ q1;exact⟨pa,pl,pc,fa,fl,fc,y,q0.move fun k hk hkl=>⟨h9.block k hkl,by rcases hk with⟨h,_⟩|h<;>omega⟩,(h9.cell (p:=⟨g,i*4,none⟩) hgl).trans q1,(h9.cell (p:=⟨g,i*4+1,none⟩) hgl).trans q2,(h9.cell (p:=⟨g,i*4+2,none⟩) hgl).trans q3,(h9.cell (p:=⟨g,i*4+3,none⟩) hgl).trans q4⟩)
     (fun hp=>⟨(hg hp).1,Nat.le_trans hs1 (hg hp).2⟩) hok2 hok1 hd2)
    have hS2:=(O HSB).low hB02;have c02:=hS2.c0;have c32:=hS2.c3;have HR2:=U (fun (y:(Sp.V×Sp.Inv)) (c i:Nat) (h:match Sp.bk d 0 v.1 [] l with
     | .error (c',i')=>c=c'/\i=i'/\y=v
     | .ok (u,j)=>c=0/\i=0/\y=(u,some j.reverse))=>(show RR=((c,i,[]),y) by
      rw[O HRR];unfold Sp.stPatch;rw[O HRD];simp only;rw[hpr];simp only;cases hdo:Sp.bk d 0 v.1 [] l with
      | error ci=>rw[hdo] at h;obtain⟨rfl,rfl,rfl⟩:=h;rfl
      | ok uj=>rw[hdo] at h;obtain⟨rfl,rfl,rfl⟩:=h;rfl))
    clear hpr hb2 hg hops hok1 hok2 hs1 hs2 hB02 hS2 c0 c1
    go_upto_region 7 with (fail)
    go_cut [8,6] (fun s8 s6 wx=>∃ (c i:Nat) (v':Sp.V×Sp.Inv),s8 = .int .i64 i/\s6 = .int .i64 c/\Hid (wx.heap[w.heap.size]? = W0.heap[w.heap.size]? /\ aw (fun k=>F k/\k<w.heap.size) w wx/\bB wx (FN (fun k=>F k/\k<w.heap.size) (w.heap.size+1)) (.pointer (some ⟨D,0,none⟩)) d e (some v')/\RR=((c,i,[]),v')))
    case first =>
     go_region_with (go_at_call 84;refine (O HPC _ ?_).mono ?_;exact⟨rfl,rfl,rfl,Nat.le_refl _,fun _ _=>rfl⟩;rintro x w3 ⟨c,i,v',rfl,q1,q2,q3,q4⟩)
     all_goals (
      have HEND:=U (show w3.heap[w.heap.size]? = W0.heap[w.heap.size]? /\ aw (fun k=>F k/\k<w.heap.size) w w3/\bB w3 (FN (fun k=>F k/\k<w.heap.size) (w.heap.size+1)) (.pointer (some ⟨D,0,none⟩)) d e (some v')/\RR=((c,i,[]),v') from⟨q1,q2,q3,O HR2 v' c i q4⟩);clear q1 q2 q3 q4
      go_wp2_with (fail)
      go_meet
      exact⟨c,i,v',rfl,rfl,HEND⟩)
    case rest =>
     obtain⟨c,i,v',rfl,rfl,HEND⟩:=hcut;obtain⟨q1,q2,q3,q4⟩:=O HEND;have a3:AB wc w.heap.size:=q1.trans (O HAB0);have g0:=a3.c0;have g1:=a3.c1;have g2:=a3.c2;have z:=a3.fz;clear q1 q2 q3 q4 a3
     go_wp2_with (fail);refine bodyPost_ret (v:=aq (c,i,[])) (by simp[results,results59,go_sem,aq,g0,g1,g2]) rfl ?_
     obtain⟨q1,q2,q3,q4⟩:=O HEND;rw[q4];exact nR _ _ _ q2 q3
theorem qY:oB:=fun _ _ _ _ _ _ _ _ _ hc hF hS hD hT=>uE hc hF hS hD hT hT.otab
end

section
set_option maxRecDepth 100000
set_option maxHeartbeats 1000000
open Go.RowKit Go.Maps
theorem rZ{w:World}{D:Nat}{rv jn iv:Value}{ch:Bool}(h:DB w D rv jn ch iv) :
  Calls Tryz.prog 86 #[.pointer (some ⟨D,0,none⟩)] w fun e w'=>e = .returned (.tuple #[iv,.bool ch])/\Below w.heap.size w w':=by
 have c2:=h.c2;have c3:=h.c3;clear h
 go_enter func86,ntmps86
 go_wp2_with (fail)
 go_quiet (fail)
 go_wp2_with (fail)
 go_ret2
 exact⟨rfl,rfl,rfl,rfl,Nat.le_refl _,fun _ _=>rfl⟩
theorem kR{w:World}(s:Sp.By) :
  Calls Tryz.prog 164 #[.string ⟨s.toArray⟩] w fun e w'=>e = .returned (.pointer (some ⟨w.heap.size,0,none⟩))/\VB w' w.heap.size 4 n0 s (.slice none 0 0) (.map none)/\Below w.heap.size w w'/\w'.heap.size=w.heap.size+1:=by
 go_enter func164,ntmps164
 go_wp2_with (fail)
 go_ret;exact⟨rfl,heap_alloc_new w _,(Below.refl _ _).alloc (Nat.le_refl _) _,by simp⟩
end

section
set_option maxRecDepth 100000
set_option maxHeartbeats 2000000
open Go.RowKit
theorem uv{B b:Nat}{p:Value}{bs:List Value}{w w':World}(h:Lib.BuilderAt 119 5 B b p bs w)(hb:Below w.heap.size w w'):Lib.BuilderAt 119 5 B b p bs w':=by
 obtain⟨hB,v,hv,hown,hne⟩:=h;refine⟨hB,v,(hb.block b (Array.getElem?_eq_some_iff.1 hv).1).trans hv,?_,hne⟩;refine⟨hown.1,hown.2.imp id ?_⟩;rintro⟨g,cap,cur,h1,h2,h3,h4⟩;exact⟨g,cap,cur,h1,h2,(hb.block g (Array.getElem?_eq_some_iff.1 h3).1).trans h3,h4⟩
theorem yT{B b:Nat}{l:Sp.By}{w w':World}(h:Bu B b l w)(hb:Below w.heap.size w w'):Bu B b l w':=Or.imp (fun h=>uv h hb) (fun h=>uv h hb) h
theorem xS{j:Nat}(hj:j<2){c:UInt8}(h:fu j=c.toNat):Sp.dZ c=(gm j).data.toList:=by
 match j,hj with
 | 0,_ =>
  have:c=126:=UInt8.toNat_inj.1 (by have:(126:Int)=c.toNat:=h;show c.toNat=126;omega);subst this;rfl
 | 1,_ =>
  have:c=47:=UInt8.toNat_inj.1 (by have:(47:Int)=c.toNat:=h;show c.toNat=47;omega);subst this;rfl
theorem vo{c:UInt8}(h:∀j,j<2->fu j≠c.toNat):Sp.dZ c=[c]:=by
 unfold Sp.dZ;rw[if_neg (fun e=>h 0 (by omega) (by rw[e];rfl)),if_neg (fun e=>h 1 (by omega) (by rw[e];rfl))]
theorem Fq{B b:Nat}{acc:Sp.By}(c:UInt8){w:World}(h:Bu B b acc w)(hl:acc.length+2<=140737488355328)(hB:B<=w.heap.size)(hT:gA w) :
  Calls Tryz.prog 207 #[.pointer (some ⟨b,0,none⟩),.int .u8 c.toNat] w fun e w'=>e = .returned (.tuple #[])/\Bu B b (acc++Sp.dZ c) w'/\Fr B b w w':=by
 obtain⟨ci,hci⟩:∃ci:Int,ci=c.toNat:=⟨_,rfl⟩
 rw[<- hci];have HCI:=U hci;have HH:=U h;have HL:=U hl;have HB:=U hB;have hlt:4<w.heap.size:=by obtain⟨t,fr,e⟩:=hT;exact (Array.getElem?_eq_some_iff.1 e).1
 obtain⟨tt,fz,hg1⟩:=hT;clear hci h hl hB
 go_enter func207,ntmps207
 go_wp2_with (refine wpList_load_row rfl 256 _ rfl 4 rfl tt _ fz _ hg1 underlying256 rfl (by kernel_rfl) ?_)
 clear hg1 hlt
 go_loopw [7] (fun i wr=>∃j:Nat,j<=2/\i = .int .i64 j/\Hid (Below w.heap.size w wr)/\Hid (∀q,q<j->fu q≠ci)) (fun i _=>2-(intOf i).toNat)
 case atStart=>exact⟨0,by omega,rfl,Below.refl _ _,fun q hq=>absurd hq (by omega)⟩
 case round =>
  obtain⟨j,hj,rfl,HBW,HNO⟩:=hrel;by_cases h2:j=2
  ·subst h2;have HE:=U (vo (c:=c) fun q hq=>by rw[<- O HCI];exact O HNO q hq);have HC:=U (bD c ci (O HCI) (yT (O HH) (O HBW)) (by have:=O HL;omega) (Nat.le_trans (O HB) (O HBW).size))
   go_wp2_with (fail);refine (O HC).mono ?_
   rintro e w2 ⟨rfl,h1,h3⟩;have H1:=U h1;have H3:=U h3;clear h1 h3
   go_wp2_with (fail);refine bodyPost_end (results_none rfl _ _ _) rfl ⟨rfl,?_,?_⟩
   ·rw[O HE];exact O H1
   ·exact Fr.trans ⟨(O HBW).mono (O HB),OKz.below (O HBW)⟩ (O H3)
  ·have hjj:j<2:=by omega
   have hlt2:(j:Int)<2:=by omega
   have hidx:=fun w1=>tE j hjj w1;by_cases hh:fu j=ci
   ·have e1:(fu j == ci)=true:=by rw[hh];simp
    have HE:=U (xS hjj (c:=c) (hh.trans (O HCI)));have hks:=oZ j hjj;have hpk:gm j=⟨(gm j).data.toList.toArray⟩:=by rw[Array.toArray_toList]
    obtain⟨l,hll⟩:∃l,l=(gm j).data.toList:=⟨_,rfl⟩
    rw[<- hll] at hpk HE;have hlen:l.length=2:=by rw[hpk,aA] at hks;exact hks
    rw[hpk] at hidx;have hb9:Below w.heap.size w (wr.alloc (.cells #[.string ⟨l.toArray⟩,.int .u8 (fu j)] 255)):=(O HBW).alloc (O HBW).size _;have HC:=U (iu l (yT (O HH) hb9) (by have:=O HL;omega) (Nat.le_trans (O HB) hb9.size));have HB9:=U hb9;clear hks hpk hll hlen hb9 hh;generalize fu j=pb at *
    go_wp2_with (fail);refine (O HC).mono ?_
    rintro e w2 ⟨rfl,h1,h3⟩;have H1:=U h1;have H3:=U h3;clear h1 h3
    go_wp2_with (fail);refine bodyPost_ret (v:=.tuple #[]) (results_none rfl _ _ _) rfl ⟨rfl,?_,?_⟩
    ·rw[O HE];exact O H1
    ·exact Fr.trans ⟨(O HB9).mono (O HB),OKz.below (O HB9)⟩ (O H3)
   ·have e1:(fu j == ci)=false:=by rw[beq_eq_false_iff_ne];exact hh
    have HN2:=U (show ∀q,q<j+1->fu q≠ci from fun q hq=>if e:q=j then e▸hh else O HNO q (by omega));clear hh;generalize gm j=pk at *;generalize fu j=pb at *
    go_wp2_with (fail);exact⟨⟨j+1,by omega,by go_num,(O HBW).alloc (O HBW).size _,HN2⟩,by simp[intOf];omega⟩
end

section
set_option maxRecDepth 100000
set_option maxHeartbeats 4000000
open Go.RowKit
theorem wN{ks:List Sp.By}{k:Nat}(h:k<ks.length):Sp.ba (ks.take (k+1))=Sp.ba (ks.take k)++47::Sp.bE ks[k]:=by
 rw[List.take_succ_eq_append_getElem h];simp only[Sp.ba,List.flatMap_append,List.flatMap_cons,List.flatMap_nil,List.append_nil]
theorem wm{t:Sp.By}{k:Nat}(h:k<t.length):Sp.bE (t.take (k+1))=Sp.bE (t.take k)++Sp.dZ t[k]:=by
 rw[List.take_succ_eq_append_getElem h];simp only[Sp.bE,List.flatMap_append,List.flatMap_cons,List.flatMap_nil,List.append_nil]
theorem wM{ks:List Sp.By}(k:Nat):(Sp.ba (ks.take k)).length<=(Sp.ba ks).length:=by
 have h:Sp.ba ks=Sp.ba (ks.take k)++Sp.ba (ks.drop k):=by
  conv=>lhs;rw[<- List.take_append_drop k ks]
  simp only[Sp.ba,List.flatMap_append]
 rw[h,List.length_append];omega
theorem sF{w:World}{pv:Value}{ks:List Sp.By}(hp:dH w pv ks)(hs:(ks.map fun t=>t.length+1).sum<=1000000)(hT:gA w) :
  Calls Tryz.prog 165 #[pv] w fun e w'=>e = .returned (.string ⟨(Sp.ba ks).toArray⟩)/\Below w.heap.size w w':=by
 obtain⟨B,hBe⟩:∃B,B=w.heap.size:=⟨_,rfl⟩
 obtain⟨W0,hW0⟩:∃W0,W0=w.alloc (.cells #[.pointer none,.slice none 0 0] 119):=⟨_,rfl⟩
 have hb0:Below B w W0:=by rw[hW0,hBe];exact (Below.refl _ _).alloc (Nat.le_refl _) _
 have hs0:W0.heap.size=B+1:=by rw[hW0,hBe];simp
 have h0:Bu B B [] W0:=Or.inl ⟨Nat.le_refl _,.slice none 0 0,by rw[hW0,hBe];show (w.heap.push _)[w.heap.size]? = _;simp,World.ownsRow_nil _ _ _ _,by simp[Value.ownBlock]⟩;obtain⟨hl1,hl2⟩:=lr ks;have hpl:=Sp.mn ks;obtain⟨N,hN⟩:∃N,N=ks.length:=⟨_,rfl⟩
 obtain⟨ao,cap,hpv,hcell⟩:∃ao cap,pv = .slice ao N cap/\(0<N -> ∃g o,ao=some ⟨g,o,none⟩/\g<B/\N<=cap /\ ∀k (hk:k<ks.length),w.cell? ⟨g,o+k,none⟩=some (.string ⟨ks[k].toArray⟩)):=by
  rcases hp with⟨rfl,a,c,rfl,_⟩|⟨g,o,cap,rfl,h2,_,hg,hc⟩
  ·exact⟨a,c,by rw[hN];rfl,fun h=>absurd h (by rw[hN];simp)⟩
  ·exact⟨_,cap,by rw[hN],fun _=>⟨g,o,rfl,by rw[hBe];exact hg,by omega,hc⟩⟩
 subst hpv;have HB0:=U hb0;have HS0:=U hs0;have H0:=U h0;have HC:=U hcell;have HT:=U hT;have HL:=U (show (∀t∈ks,t.length<=1000000)/\(Sp.ba ks).length<=2000000 from⟨fun t ht=>by have:=hl2 t ht;omega,by omega⟩);have HN:=U hN;have HBE:=U hBe;have HW0:=U hW0;have hn1:(N:Int)<=1000000:=by omega
 have hcv:=fun W s=>Lib.run_convert_string_bytes (P:=Tryz.prog) W 9 117 5 s underlying9 underlying117 underlying5;rw[<- hBe];clear hp hs hT hb0 hs0 h0 hl1 hl2 hpl hcell hN hBe hW0
 go_enter func165,ntmps165
 go_wp2_with (fail);rw[<- O HW0,<- O HBE]
 go_loopw [10] (fun i wr=>∃k:Nat,k<=N/\i = .int .i64 k/\Hid (Bu B B (Sp.ba (ks.take k)) wr)/\Hid (Fr B B W0 wr)) (fun i _=>N-(intOf i).toNat)
 case atStart=>exact⟨0,by omega,rfl,by simpa[Sp.ba] using H0,Fr.refl _ _ _⟩
 case round =>
  obtain⟨k,hk,rfl,HBU,HF⟩:=hrel;have hBr:B<=wr.heap.size:=by have:=(O HF).low.size;have:=O HS0;omega
  by_cases hlt:k<N
  ·have hkl:k<ks.length:=by have:=O HN;omega
   obtain⟨g,o,hao,hg,hcap,hc⟩:=O HC (by omega);subst hao;have ck:wr.cell? ⟨g,o+k,none⟩=some (.string ⟨ks[k].toArray⟩):=((((O HB0).trans (O HF).low).cell (p:=⟨g,o+k,none⟩) hg)).trans (hc k hkl);have HSN:=U (wN hkl);have htl:=(O HL).1 _ (List.getElem_mem hkl);obtain⟨t,ht⟩:∃t,t=ks[k]:=⟨_,rfl⟩
   rw[<- ht] at ck HSN htl;have hpk:=Nat.le_trans (wM (ks:=ks) k) (O HL).2;have hlt2:(k:Int)<(N:Int):=by omega
   have hlt3:(k:Int)<(cap:Int):=by omega
   have hn2:(N:Int)<=(cap:Int):=by omega
   have HBY:=U (bD 47 47 rfl (O HBU) (by omega) hBr);clear ht hc
   go_wp2_with (fail);refine (O HBY).mono ?_
   rintro e w1 ⟨rfl,h1,f1⟩;obtain⟨cs,fz,hrow,hfz,hcs,hbw⟩:=pL w1 t;have hB1:B<=w1.heap.size:=Nat.le_trans hBr f1.low.size;have H2:=U (bq h1 hbw);have F2:=U (((O HF).trans f1).trans ⟨hbw.mono hB1,OKz.below hbw⟩);have hgb:w1.heap.size≠B:=by
    rcases h1 with h1|h1
    ·have:=h1.lt;omega
    ·have:=h1.lt;omega
   have HROW:=U hrow;have HFZ:=U hfz;have HCS:=U hcs;clear h1 f1 hbw hrow hfz hcs HBY ck hg hcap
   go_wp2_with (fail);generalize Lib.bytesWorld w1 5 ⟨t.toArray⟩=w2 at *
   go_loopw [18] (fun i wx=>∃j:Nat,j<=t.length/\i = .int .i64 j/\Hid (Bu B B (Sp.ba (ks.take k)++47::Sp.bE (t.take j)) wx)/\Hid (Fr B B W0 wx)/\Hid (wx.heap[w1.heap.size]? = some (.cells cs 5 fz))) (fun i _=>t.length-(intOf i).toNat)
   case atStart=>exact⟨0,by omega,rfl,by simpa[Sp.bE] using H2,F2,HROW⟩
   case round =>
    obtain⟨j,hj,rfl,HBU2,HF2,HR2⟩:=hrel;have hBx:B<=wr.heap.size:=by have:=(O HF2).low.size;have:=O HS0;omega
    by_cases hjl:j<t.length
    ·have hro:wr.heap[w1.heap.size]? = some (.cells cs 5 fz):=O HR2;have cc:wr.cell? ⟨w1.heap.size,j,none⟩=some (.int .u8 (t[j].toNat:Int)):=by simp[World.cell?,hro,O HCS j hjl]
     have HSN2:=U (wm hjl);have hbt:(Sp.bE (t.take j)).length<=2*t.length:=by
      have h1:=Sp.mg (t.take j);have h2:(t.take j).length<=t.length:=by simp;omega
      omega
     have HKR:Hid (∀w':World,Fr B B wr w'->w'.heap[w1.heap.size]? = some (.cells cs 5 fz)):=fun w' h=>h.oth _ _ hro hgb (fun c e=>by injection e with _ _ e;exact O HFZ e);obtain⟨c,hc⟩:∃c,c=t[j]:=⟨_,rfl⟩
     rw[<- hc] at cc HSN2;have HES:=U (Fq c (O HBU2) (by simp only[List.length_append,List.length_cons];omega) hBx ((O HT).kept (O HBE▸((O HB0).trans (O HF2).low))));have hltj:(j:Int)<(t.length:Int):=by omega
     have hcn:=c.toNat_lt;clear hc hro
     go_wp2_with (fail);refine (O HES).mono ?_
     rintro e w5 ⟨rfl,h5,f5⟩;have H5:=U h5;have F5:=U f5;clear h5 f5
     go_wp2_with (fail);exact⟨⟨j+1,by omega,by go_num,by rw[O HSN2];simpa using H5,(O HF2).trans (O F5),O HKR _ (O F5)⟩,by simp[intOf];omega⟩
    ·obtain rfl:j=t.length:=by omega
     have hltj:¬ ((t.length:Nat):Int)<((t.length:Nat):Int):=by omega
     have hfin:=O HBU2;rw[List.take_length,<- O HSN] at hfin;have HFIN:=U hfin;clear hfin
     go_wp2_with (fail);exact⟨⟨k+1,by omega,by go_num,HFIN,HF2⟩,by simp[intOf];omega⟩
  ·obtain rfl:k=N:=by omega
   have hlt2:¬ (k:Int)<(k:Int):=by omega
   have h9:=O HBU;rw[List.take_of_length_le (by have:=O HN;omega)] at h9;have HST:=U (Tryz.Builder_String_any B B _ wr h9 hBr);clear h9
   go_wp2_with (fail);refine (O HST).mono ?_
   rintro e w2 ⟨rfl,hb2⟩
   go_wp2_with (fail)
   go_ret;exact⟨by simp,((O HB0).trans (O HF).low).trans hb2⟩
end

section
set_option maxRecDepth 100000
set_option maxHeartbeats 1000000
open Go.RowKit Go.Maps
def elD(b1 b2:Bool)(x y:Value):List (Lit×DataW Value):=(if b1 then [(.string Sp.op_,.held x)] else [])++(if b2 then [(.string Sp.bP,.held y)] else [])
theorem Fb(b2:Bool)(x x' y:Value):DataW.put (.map (elD false b2 x' y)) (.string Sp.op_) (.held x) = .map (elD true b2 x y):=by cases b2<;>rfl
theorem Fa(b1:Bool)(x y y':Value):DataW.put (.map (elD b1 false x y')) (.string Sp.bP) (.held y) = .map (elD b1 true x y):=by cases b1<;>rfl
theorem E9(x y z:Value):DataW.put (.map (elD true true x y)) (.string Sp.br) (.held z) = .map (elD true true x y++if true then [(.string Sp.br,.held z)] else []):=rfl
def StB(w:World)(B:Nat)(v:Value)(s:Sp.By):Prop:=∃p,v = .pointer (some ⟨p,0,none⟩)/\B<=p/\VB w p 4 n0 s (.slice none 0 0) (.map none)
theorem StB.keep{w w':World}{B:Nat}{v:Value}{s:Sp.By}(h:StB w B v s)(hk:∀p,p<w.heap.size->(∃c t f,w.heap[p]? = some (.cells c t f))->w'.heap[p]? = w.heap[p]?):StB w' B v s:=by
 obtain⟨p,h1,h2,h3⟩:=h;exact⟨p,h1,h2,h3.kept (hk p h3.lt ⟨_,_,_,h3⟩)⟩
theorem StB.mono{w:World}{B B':Nat}{v:Value}{s:Sp.By}(h:StB w B v s)(hB:B'<=B):StB w B' v s:=by
 obtain⟨p,h1,h2,h3⟩:=h;exact⟨p,h1,Nat.le_trans hB h2,h3⟩
def elA(t0:Value)(q1 q3:Nat)(t6 t7 t8 x4 x9 x10 x11 x12 x13 x14 x15 x16 x17:Value):Act :=
 { tmps:=#[t0,.pointer (some ⟨q1,0,none⟩),.pointer none,.pointer (some ⟨q3,0,none⟩),x4,.pointer (some ⟨q1,0,none⟩),t6,t7,t8,x9,x10,x11,x12,x13,x14,x15,x16,x17,undef,undef,undef,undef,undef,undef,undef,undef,undef,undef,undef,undef,undef,undef,undef],defers:=[] }
structure ElI(wb:World)(t0:Value)(q1 q3:Nat)(t6 t7 t8:Value)(nm:Sp.By)(pv:Value)(ps:Sp.By)(l:Array Bool)(a:Act)(w:World):Prop where
 sz:l.size=12
 bel:Below wb.heap.size wb w
 d4:l.getD 4 false=true->l.getD 3 false=true/\l.getD 0 false=true
 d9:l.getD 9 false=true->l.getD 8 false=true/\l.getD 0 false=true
 d10:l.getD 10 false=true->l.getD 9 false=true/\l.getD 0 false=true
 d11:l.getD 11 false=true->l.getD 10 false=true/\l.getD 0 false=true
 ex:∃x4 x9 x10 x11 x12 x13 x14 x15 x16 x17,a=elA t0 q1 q3 t6 t7 t8 x4 x9 x10 x11 x12 x13 x14 x15 x16 x17 /\
  (l.getD 1 false=true->x10 = .pointer (some ⟨q3,0,none⟩))/\(l.getD 2 false=true->x11 = .string ⟨nm.toArray⟩)/\(l.getD 3 false=true->StB w wb.heap.size x12 nm) /\
  (l.getD 5 false=true->x13 = .pointer (some ⟨q1,1,none⟩))/\(l.getD 6 false=true->x14=pv)/\(l.getD 7 false=true->x15 = .string ⟨ps.toArray⟩)/\(l.getD 8 false=true->StB w wb.heap.size x16 ps) /\
  (l.getD 0 false=true -> ∃M n,x9 = .map (some M)/\wb.heap.size<=M/\n<=(if l.getD 4 false then 1 else 0)+(if l.getD 9 false then 1 else 0)/\w.ownsMap Tryz.prog 9 RV M n (.map (elD (l.getD 4 false) (l.getD 9 false) x12 x16))) /\
  (l.getD 10 false=true->x17=x9)/\(l.getD 11 false=true->x4=x9)
theorem oo{l:Array Bool}(h:l.size=12)(i j:Nat)(hi:i<12):(l.setIfInBounds i true).getD j false=if i=j then true else l.getD j false:=by
 by_cases e:i=j
 ·subst e;rw[if_pos rfl];simp[Array.getD,h,hi]
 ·rw[if_neg e];exact getD_set_ne _ e
theorem kX{w:World}{M n:Nat}{D:DataW Value}(h:w.ownsMap Tryz.prog 9 RV M n D){p:Nat}(hp:∃c t f,w.heap[p]? = some (.cells c t f)):p≠M:=by
 rintro rfl;obtain⟨es,clock,hb,_⟩:=h;obtain⟨c,t,f,e⟩:=hp;rw[hb] at e;cases e
theorem ElI.low{wb:World}{t0:Value}{q1 q3:Nat}{t6 t7 t8:Value}{nm:Sp.By}{pv:Value}{ps:Sp.By}{l:Array Bool}{a:Act}{w w':World}(h:ElI wb t0 q1 q3 t6 t7 t8 nm pv ps l a w)(hb:Below w.heap.size w w'):ElI wb t0 q1 q3 t6 t7 t8 nm pv ps l a w':=by
 obtain⟨hsz,hbel,hd4,hd9,hd10,hd11,x4,x9,x10,x11,x12,x13,x14,x15,x16,x17,ha,e1,e2,e3,e5,e6,e7,e8,e0,e10,e11⟩:=h;refine⟨hsz,hbel.trans (hb.mono hbel.size),hd4,hd9,hd10,hd11,x4,x9,x10,x11,x12,x13,x14,x15,x16,x17,ha,e1,e2,fun h=>(e3 h).keep fun p hp _=>hb.block p hp,e5,e6,e7,fun h=>(e8 h).keep fun p hp _=>hb.block p hp,fun h=>?_,e10,e11⟩;obtain⟨M,n,m1,m2,m3,m4⟩:=e0 h;exact⟨M,n,m1,m2,m3,aM m4 (hb.block M (cu m4))⟩
theorem ap{l:Array Bool}{i j k m:Nat}(h:i≠j)(e:l.getD j false=true->l.getD k false=true/\l.getD m false=true):(l.setIfInBounds i true).getD j false=true->(l.setIfInBounds i true).getD k false=true/\(l.setIfInBounds i true).getD m false=true:=fun h' =>
 have h2:=e ((getD_set_ne _ h).symm.trans h')
 ⟨getD_set_true h2.1,getD_set_true h2.2⟩
def Fm(w:World)(nm ps:Sp.By)(nv:Bool)(y:Value)(e:Ending)(w':World):Prop:=∃p M x12 x16,e = .returned (.pointer (some ⟨p,0,none⟩))/\VB w' p 6 n0 [] (.slice none 0 0) (.map (some M))/\w.heap.size<=p/\w.heap.size<=M /\
 StB w' w.heap.size x12 nm/\StB w' w.heap.size x16 ps/\Below w.heap.size w w'/\w'.ownsMap Tryz.prog 9 RV M 3 (.map (elD true true x12 x16++if nv then [(.string Sp.br,.held y)] else []))
theorem x7{w:World}{k:Nat}{pa y:Option Addr}{pl pc:Nat}{nm ps:Sp.By}{nv:Bool}(hk:k<6)(hl:3<w.heap.size)(c0:w.cell? ⟨3,k*3,none⟩=some (.string ⟨nm.toArray⟩))(c1:w.cell? ⟨3,k*3+1,none⟩=some (.bool nv))(c2:w.cell? ⟨3,k*3+2,none⟩=some (.bool false))
  (hS:∀w',Below w.heap.size w w'->Calls Tryz.prog 165 #[.slice pa pl pc] w' fun e w''=>e = .returned (.string ⟨ps.toArray⟩)/\Below w'.heap.size w' w'') :
  Calls Tryz.prog 122 #[.agg #[.int .i64 k,.slice pa pl pc,.slice none 0 0,.pointer y]] w (Fm w nm ps nv (.pointer y)):=by
 have hk2:(k:Int)<6:=by omega
 have hmm:=@run_makeMap Tryz.prog
 go_enter func122,ntmps122
 go_upto_region 2 with (fail)
 obtain⟨wb,hwb⟩:∃wb,wb=((w.alloc (.cells #[.int .i64 k,.slice pa pl pc,.slice none 0 0,.pointer y] 178)).alloc (.cells #[.string ⟨nm.toArray⟩,.bool nv,.bool false] 219)):=⟨_,rfl⟩
 rw[<- hwb];have hwbs:wb.heap.size=w.heap.size+2:=by rw[hwb];simp
 have hbb:Below w.heap.size w wb:=by rw[hwb];exact ((Below.refl _ _).alloc (Nat.le_refl _) _).alloc (by simp) _
 have b1:wb.heap[w.heap.size]? = some (.cells #[.int .i64 k,.slice pa pl pc,.slice none 0 0,.pointer y] 178 (0,0)):=by rw[hwb];exact (Below.heap_alloc _ _ _ (by simp)).trans (heap_alloc_new w _)
 have b3:wb.heap[w.heap.size+1]? = some (.cells #[.string ⟨nm.toArray⟩,.bool nv,.bool false] 219 (0,0)):=by
  rw[hwb];have:=heap_alloc_new (w.alloc (.cells #[.int .i64 k,.slice pa pl pc,.slice none 0 0,.pointer y] 178)) (.cells #[.string ⟨nm.toArray⟩,.bool nv,.bool false] 219);simpa using this
 go_cut [4] (fun s4 wx=>∃M x12 x16,s4 = .map (some M)/\StB wx wb.heap.size x12 nm/\StB wx wb.heap.size x16 ps/\wb.heap.size<=M/\wx.ownsMap Tryz.prog 9 RV M 2 (.map (elD true true x12 x16))/\Below wb.heap.size wb wx)
 case first =>
  refine wp_region_any (by kernel_rfl) ?_;refine kG (ElI wb (.agg #[.int .i64 k,.slice pa pl pc,.slice none 0 0,.pointer y]) w.heap.size (w.heap.size+1) (.int .i64 k) (.pointer (some ⟨3,k*3,none⟩)) (.agg #[.string ⟨nm.toArray⟩,.bool nv,.bool false]) nm (.slice pa pl pc) ps) ?hs ?he _ _ _ _ ?hc ?h0
  case hc=>decide
  case h0 =>
   refine⟨rfl,⟨rfl,rfl,rfl,Nat.le_refl _,fun _ _=>rfl⟩,?_,?_,?_,?_,undef,undef,undef,undef,undef,undef,undef,undef,undef,undef,rfl,?_⟩;all_goals simp
  case he =>
   intro l a w1 hI hr;have hall:=jV hI.sz (by kernel_rfl) hr;obtain⟨hsz,hbel,hd4,hd9,hd10,hd11,x4,x9,x10,x11,x12,x13,x14,x15,x16,x17,rfl,e1,e2,e3,e5,e6,e7,e8,e0,e10,e11⟩:=hI;have g4:=hall 4 (by decide);have g9:=hall 9 (by decide);obtain⟨M,n,rfl,m2,m3,m4⟩:=e0 (hall 0 (by decide));rw[g4,g9] at m3 m4;obtain rfl:=e11 (hall 11 (by decide));have s1:=e3 (hall 3 (by decide));have s2:=e8 (hall 8 (by decide));unfold elA
   go_wp2_with (fail)
   go_meet
   exact⟨M,x12,x16,rfl,s1,s2,m2,m4.mono m3,hbel⟩
  case hs =>
   intro l a w1 hI i hi;obtain⟨hno,haft⟩:=dS hi;have hi12:i<12:=by
    obtain⟨_,o,ho,_⟩:=mem_ready.1 hi;exact (Array.getElem?_eq_some_iff.1 ho).1
   have hI0:=hI;obtain⟨hsz,hbel,hd4,hd9,hd10,hd11,x4,x9,x10,x11,x12,x13,x14,x15,x16,x17,rfl,e1,e2,e3,e5,e6,e7,e8,e0,e10,e11⟩:=hI;have hbel0:=hbel;have hS1:=hbb.trans (hbel.mono hbb.size);have hcase:i=0\/i=1\/i=2\/i=3\/i=4\/i=5\/i=6\/i=7\/i=8\/i=9\/i=10\/i=11:=by omega
   rcases hcase with rfl|rfl|rfl|rfl|rfl|rfl|rfl|rfl|rfl|rfl|rfl|rfl
   ·refine wpOp_step rfl fun K hK=>?_;unfold elA
    go_simp;have hb2:Below w1.heap.size w1 (w1.alloc (.map #[] 0)):=(Below.refl _ _).alloc (Nat.le_refl _) _
    have hn0:l.getD 0 false=false:=by simpa[Array.getD,hsz] using hno
    have hn4:l.getD 4 false=false:=by
     cases h:l.getD 4 false
     ·rfl
     ·have:=(hd4 h).2;rw[hn0] at this;cases this
    have hn9:l.getD 9 false=false:=by
     cases h:l.getD 9 false
     ·rfl
     ·have:=(hd9 h).2;rw[hn0] at this;cases this
    obtain⟨hsz,hbel,hd4,hd9,hd10,hd11,y4,y9,y10,y11,y12,y13,y14,y15,y16,y17,ha,e1,e2,e3,e5,e6,e7,e8,e0,e10,e11⟩:=hI0.low hb2;injection ha with ha _;injection ha with ha;simp only[List.cons.injEq,true_and,and_true] at ha;obtain⟨rfl,rfl,rfl,rfl,rfl,rfl,rfl,rfl,rfl,rfl⟩:=ha;refine hK _ _ ⟨by simp[hsz],hbel,ap (by decide) hd4,ap (by decide) hd9,ap (by decide) hd10,ap (by decide) hd11,_,_,_,_,_,_,_,_,_,_,rfl,aa (by decide) e1,aa (by decide) e2,aa (by decide) e3,aa (by decide) e5,aa (by decide) e6,aa (by decide) e7,aa (by decide) e8,?_,fun h=>absurd (hd10 ((getD_set_ne _ (by decide)).symm.trans h)).2 (by rw[hn0];decide),fun h=>absurd (hd11 ((getD_set_ne _ (by decide)).symm.trans h)).2 (by rw[hn0];decide)⟩;intro _;rw[getD_set_ne false (show 0≠4 by decide),getD_set_ne false (show 0≠9 by decide),hn4,hn9];exact⟨w1.heap.size,0,rfl,by have:=hbel0.size;omega,by simp,World.ownsMap_made w1 _ _ _⟩
   ·refine wpOp_step rfl fun K hK=>?_;unfold elA
    go_simp;refine hK _ _ ⟨by simp[hsz],hbel,ap (by decide) hd4,ap (by decide) hd9,ap (by decide) hd10,ap (by decide) hd11,_,_,_,_,_,_,_,_,_,_,rfl,fun _=>rfl,aa (by decide) e2,aa (by decide) e3,aa (by decide) e5,aa (by decide) e6,aa (by decide) e7,aa (by decide) e8,?_,aa (by decide) e10,aa (by decide) e11⟩
    rw[getD_set_ne false (show 1≠4 by decide),getD_set_ne false (show 1≠9 by decide)];exact aa (by decide) e0
   ·obtain rfl:=e1 (haft _ rfl ⟨1,.data⟩ (by simp) rfl);have hc:w1.cell? ⟨w.heap.size+1,0,none⟩=some (.string ⟨nm.toArray⟩):=by
     have:=(hbel.block (w.heap.size+1) (by omega)).trans b3;simp[World.cell?,this]
    refine wpOp_step rfl fun K hK=>?_;unfold elA
    go_simp;refine hK _ _ ⟨by simp[hsz],hbel,ap (by decide) hd4,ap (by decide) hd9,ap (by decide) hd10,ap (by decide) hd11,_,_,_,_,_,_,_,_,_,_,rfl,aa (by decide) e1,fun _=>rfl,aa (by decide) e3,aa (by decide) e5,aa (by decide) e6,aa (by decide) e7,aa (by decide) e8,?_,aa (by decide) e10,aa (by decide) e11⟩
    rw[getD_set_ne false (show 2≠4 by decide),getD_set_ne false (show 2≠9 by decide)];exact aa (by decide) e0
   ·obtain rfl:=e2 (haft _ rfl ⟨2,.data⟩ (by simp) rfl);refine wpOp_step rfl fun K hK=>?_;unfold elA
    go_simp;refine (kR nm).mono ?_
    rintro e w2 ⟨rfl,hv2,hb2,hs2⟩;show K _ _;obtain⟨hsz,hbel,hd4,hd9,hd10,hd11,y4,y9,y10,y11,y12,y13,y14,y15,y16,y17,ha,e1,e2,e3,e5,e6,e7,e8,e0,e10,e11⟩:=hI0.low hb2;injection ha with ha _;injection ha with ha;simp only[List.cons.injEq,true_and,and_true] at ha;obtain⟨rfl,rfl,rfl,rfl,rfl,rfl,rfl,rfl,rfl,rfl⟩:=ha;refine hK _ _ ⟨by simp[hsz],hbel,ap (by decide) hd4,ap (by decide) hd9,ap (by decide) hd10,ap (by decide) hd11,_,_,_,_,_,_,_,_,_,_,rfl,aa (by decide) e1,aa (by decide) e2,fun _=>⟨_,rfl,hbel0.size,hv2⟩,aa (by decide) e5,aa (by decide) e6,aa (by decide) e7,aa (by decide) e8,?_,aa (by decide) e10,aa (by decide) e11⟩;have hn3:l.getD 3 false=false:=by simpa[Array.getD,hsz] using hno
    have hn4:l.getD 4 false=false:=by
     cases h:l.getD 4 false
     ·rfl
     ·have:=(hd4 h).1;rw[hn3] at this;cases this
    rw[getD_set_ne false (show 3≠4 by decide),getD_set_ne false (show 3≠9 by decide),hn4];rw[hn4] at e0;exact aa (by decide) e0
   ·have dd:=haft _ rfl ⟨3,.data⟩ (by simp) rfl;obtain⟨p,rfl,hp1,hp2⟩:=e3 dd;obtain⟨M,n,rfl,m2,m3,m4⟩:=e0 (haft _ rfl ⟨0,.data⟩ (by simp) rfl);have hni:l.getD 4 false=false:=by simpa[Array.getD,hsz] using hno
    rw[hni] at m3 m4;have hn1:n<=1:=by
     revert m3
     cases l.getD 9 false<;>simp<;>omega
    obtain⟨w2,hrun,ho2,hg2⟩:=World.ownsMap.update m4 cM underlying109 (by unfold maxLen;omega) (ix Sp.op_ (by decide)) (show RV (.pointer (some ⟨p,0,none⟩))=some (.held (.pointer (some ⟨p,0,none⟩)),[]) from rfl);rw[Fb] at ho2;unfold Sp.op_ at hrun;have hkp:∀q,q<w1.heap.size->(∃c t f,w1.heap[q]? = some (.cells c t f))->w2.heap[q]? = w1.heap[q]?:=fun q hq hc=>hg2.block q hq (fun e=>kX m4 hc (Option.some.inj e));have hbel2:Below wb.heap.size wb w2:=hbel.grown hg2 hbel.size (fun j hj=>by cases hj;exact m2);have e3:l.getD 3 false=true->StB w2 wb.heap.size (.pointer (some ⟨p,0,none⟩)) nm:=fun h=>(e3 h).keep hkp;have e8:=fun h=>(e8 h).keep hkp;refine wpOp_step rfl fun K hK=>?_;unfold elA
    go_simp;refine hK _ _ ⟨by simp[hsz],hbel2,fun _=>⟨getD_set_true dd,getD_set_true (haft _ rfl ⟨0,.data⟩ (by simp) rfl)⟩,ap (by decide) hd9,ap (by decide) hd10,ap (by decide) hd11,_,_,_,_,_,_,_,_,_,_,rfl,aa (by decide) e1,aa (by decide) e2,aa (by decide) e3,aa (by decide) e5,aa (by decide) e6,aa (by decide) e7,aa (by decide) e8,?_,aa (by decide) e10,aa (by decide) e11⟩
    intro _;rw[oo hsz 4 4 (by decide),if_pos rfl,getD_set_ne false (show 4≠9 by decide)];exact⟨M,n+1,rfl,m2,by simp at m3 |-; omega,ho2⟩
   ·refine wpOp_step rfl fun K hK=>?_;unfold elA
    go_simp;refine hK _ _ ⟨by simp[hsz],hbel,ap (by decide) hd4,ap (by decide) hd9,ap (by decide) hd10,ap (by decide) hd11,_,_,_,_,_,_,_,_,_,_,rfl,aa (by decide) e1,aa (by decide) e2,aa (by decide) e3,fun _=>rfl,aa (by decide) e6,aa (by decide) e7,aa (by decide) e8,?_,aa (by decide) e10,aa (by decide) e11⟩
    rw[getD_set_ne false (show 5≠4 by decide),getD_set_ne false (show 5≠9 by decide)];exact aa (by decide) e0
   ·obtain rfl:=e5 (haft _ rfl ⟨5,.data⟩ (by simp) rfl);have hc:w1.cell? ⟨w.heap.size,1,none⟩=some (.slice pa pl pc):=by
     have:=(hbel.block w.heap.size (by omega)).trans b1;simp[World.cell?,this]
    refine wpOp_step rfl fun K hK=>?_;unfold elA
    go_simp;refine hK _ _ ⟨by simp[hsz],hbel,ap (by decide) hd4,ap (by decide) hd9,ap (by decide) hd10,ap (by decide) hd11,_,_,_,_,_,_,_,_,_,_,rfl,aa (by decide) e1,aa (by decide) e2,aa (by decide) e3,aa (by decide) e5,fun _=>rfl,aa (by decide) e7,aa (by decide) e8,?_,aa (by decide) e10,aa (by decide) e11⟩
    rw[getD_set_ne false (show 6≠4 by decide),getD_set_ne false (show 6≠9 by decide)];exact aa (by decide) e0
   ·obtain rfl:=e6 (haft _ rfl ⟨6,.data⟩ (by simp) rfl);refine wpOp_step rfl fun K hK=>?_;unfold elA
    go_simp;refine (hS w1 hS1).mono ?_
    rintro e w2 ⟨rfl,hb2⟩;show K _ _;obtain⟨hsz,hbel,hd4,hd9,hd10,hd11,y4,y9,y10,y11,y12,y13,y14,y15,y16,y17,ha,e1,e2,e3,e5,e6,e7,e8,e0,e10,e11⟩:=hI0.low hb2;injection ha with ha _;injection ha with ha;simp only[List.cons.injEq,true_and,and_true] at ha;obtain⟨rfl,rfl,rfl,rfl,rfl,rfl,rfl,rfl,rfl,rfl⟩:=ha;refine hK _ _ ⟨by simp[hsz],hbel,ap (by decide) hd4,ap (by decide) hd9,ap (by decide) hd10,ap (by decide) hd11,_,_,_,_,_,_,_,_,_,_,rfl,aa (by decide) e1,aa (by decide) e2,aa (by decide) e3,aa (by decide) e5,aa (by decide) e6,fun _=>rfl,aa (by decide) e8,?_,aa (by decide) e10,aa (by decide) e11⟩;rw[getD_set_ne false (show 7≠4 by decide),getD_set_ne false (show 7≠9 by decide)];exact aa (by decide) e0
   ·obtain rfl:=e7 (haft _ rfl ⟨7,.data⟩ (by simp) rfl);refine wpOp_step rfl fun K hK=>?_;unfold elA
    go_simp;refine (kR ps).mono ?_
    rintro e w2 ⟨rfl,hv2,hb2,hs2⟩;show K _ _;obtain⟨hsz,hbel,hd4,hd9,hd10,hd11,y4,y9,y10,y11,y12,y13,y14,y15,y16,y17,ha,e1,e2,e3,e5,e6,e7,e8,e0,e10,e11⟩:=hI0.low hb2;injection ha with ha _;injection ha with ha;simp only[List.cons.injEq,true_and,and_true] at ha;obtain⟨rfl,rfl,rfl,rfl,rfl,rfl,rfl,rfl,rfl,rfl⟩:=ha;refine hK _ _ ⟨by simp[hsz],hbel,ap (by decide) hd4,ap (by decide) hd9,ap (by decide) hd10,ap (by decide) hd11,_,_,_,_,_,_,_,_,_,_,rfl,aa (by decide) e1,aa (by decide) e2,aa (by decide) e3,aa (by decide) e5,aa (by decide) e6,aa (by decide) e7,fun _=>⟨_,rfl,hbel0.size,hv2⟩,?_,aa (by decide) e10,aa (by decide) e11⟩;have hn3:l.getD 8 false=false:=by simpa[Array.getD,hsz] using hno
    have hn4:l.getD 9 false=false:=by
     cases h:l.getD 9 false
     ·rfl
     ·have:=(hd9 h).1;rw[hn3] at this;cases this
    rw[getD_set_ne false (show 8≠4 by decide),getD_set_ne false (show 8≠9 by decide),hn4];rw[hn4] at e0;exact aa (by decide) e0
   ·have dd:=haft _ rfl ⟨8,.data⟩ (by simp) rfl;obtain⟨p,rfl,hp1,hp2⟩:=e8 dd;obtain⟨M,n,rfl,m2,m3,m4⟩:=e0 (haft _ rfl ⟨0,.data⟩ (by simp) rfl);have hni:l.getD 9 false=false:=by simpa[Array.getD,hsz] using hno
    rw[hni] at m3 m4;have hn1:n<=1:=by
     revert m3
     cases l.getD 4 false<;>simp<;>omega
    obtain⟨w2,hrun,ho2,hg2⟩:=World.ownsMap.update m4 cM underlying109 (by unfold maxLen;omega) (ix Sp.bP (by decide)) (show RV (.pointer (some ⟨p,0,none⟩))=some (.held (.pointer (some ⟨p,0,none⟩)),[]) from rfl);rw[Fa] at ho2;unfold Sp.bP at hrun;have hkp:∀q,q<w1.heap.size->(∃c t f,w1.heap[q]? = some (.cells c t f))->w2.heap[q]? = w1.heap[q]?:=fun q hq hc=>hg2.block q hq (fun e=>kX m4 hc (Option.some.inj e));have hbel2:Below wb.heap.size wb w2:=hbel.grown hg2 hbel.size (fun j hj=>by cases hj;exact m2);have e3:=fun h=>(e3 h).keep hkp;have e8:l.getD 8 false=true->StB w2 wb.heap.size (.pointer (some ⟨p,0,none⟩)) ps:=fun h=>(e8 h).keep hkp;refine wpOp_step rfl fun K hK=>?_;unfold elA
    go_simp;refine hK _ _ ⟨by simp[hsz],hbel2,ap (by decide) hd4,fun _=>⟨getD_set_true dd,getD_set_true (haft _ rfl ⟨0,.data⟩ (by simp) rfl)⟩,ap (by decide) hd10,ap (by decide) hd11,_,_,_,_,_,_,_,_,_,_,rfl,aa (by decide) e1,aa (by decide) e2,aa (by decide) e3,aa (by decide) e5,aa (by decide) e6,aa (by decide) e7,aa (by decide) e8,?_,aa (by decide) e10,aa (by decide) e11⟩
    intro _;rw[oo hsz 9 9 (by decide),if_pos rfl,getD_set_ne false (show 9≠4 by decide)];exact⟨M,n+1,rfl,m2,by simp at m3 |-; omega,ho2⟩
   ·refine wpOp_step rfl fun K hK=>?_;unfold elA
    go_simp;refine hK _ _ ⟨by simp[hsz],hbel,ap (by decide) hd4,ap (by decide) hd9,fun _=>⟨getD_set_true (haft _ rfl ⟨9,.data⟩ (by simp) rfl),getD_set_true (haft _ rfl ⟨0,.data⟩ (by simp) rfl)⟩,ap (by decide) hd11,_,_,_,_,_,_,_,_,_,_,rfl,aa (by decide) e1,aa (by decide) e2,aa (by decide) e3,aa (by decide) e5,aa (by decide) e6,aa (by decide) e7,aa (by decide) e8,?_,fun _=>rfl,aa (by decide) e11⟩
    rw[getD_set_ne false (show 10≠4 by decide),getD_set_ne false (show 10≠9 by decide)];exact aa (by decide) e0
   ·obtain rfl:=e10 (haft _ rfl ⟨10,.data⟩ (by simp) rfl);refine wpOp_step rfl fun K hK=>?_;unfold elA
    go_simp;refine hK _ _ ⟨by simp[hsz],hbel,ap (by decide) hd4,ap (by decide) hd9,ap (by decide) hd10,fun _=>⟨getD_set_true (haft _ rfl ⟨10,.data⟩ (by simp) rfl),getD_set_true (haft _ rfl ⟨0,.phase⟩ (by simp) rfl)⟩,_,_,_,_,_,_,_,_,_,_,rfl,aa (by decide) e1,aa (by decide) e2,aa (by decide) e3,aa (by decide) e5,aa (by decide) e6,aa (by decide) e7,aa (by decide) e8,?_,aa (by decide) e10,fun _=>rfl⟩
    rw[getD_set_ne false (show 11≠4 by decide),getD_set_ne false (show 11≠9 by decide)];exact aa (by decide) e0
 case rest =>
  obtain⟨M,x12,x16,rfl,hx,hy,hM,ho,hbc⟩:=hcut;have hbs:=hbc.size;have hin:∀j,j<wb.heap.size->j≠M:=fun j hj e=>by omega
  have g1:=(hbc.block (w.heap.size+1) (by omega)).trans b3;have g2:=(hbc.block w.heap.size (by omega)).trans b1;have q1:wc.cell? ⟨w.heap.size+1,1,none⟩=some (.bool nv):=by simp[World.cell?,g1]
  have q2:wc.cell? ⟨w.heap.size+1,2,none⟩=some (.bool false):=by simp[World.cell?,g1]
  have q3:wc.cell? ⟨w.heap.size,3,none⟩=some (.pointer y):=by simp[World.cell?,g2]
  have HB:=U (hbb.trans (hbc.mono hbb.size));have hle:w.heap.size+2<=wb.heap.size:=by omega
  cases nv with
  | false =>
   have HX:=U hx;have HY:=U hy;have HO:=U ho;clear hx hy ho hbc g1 g2 hbb b1 b3 hwb hmm hS c0 c1 c2 hin
   go_wp2_with (fail)
   go_ret;have hnew:∀o:Obj,Below wc.heap.size wc (wc.alloc o):=fun o=>(Below.refl _ _).alloc (Nat.le_refl _) _
   refine⟨wc.heap.size,M,x12,x16,rfl,heap_alloc_new wc _,by omega,by omega,?_,?_,(O HB).trans ((hnew _).mono (O HB).size),?_⟩
   ·exact ((O HX).keep fun p hp _=>(hnew _).block p hp).mono (by omega)
   ·exact ((O HY).keep fun p hp _=>(hnew _).block p hp).mono (by omega)
   ·rw[if_neg (by decide),List.append_nil];exact (aM (O HO) ((hnew _).block M (cu (O HO)))).mono (by omega)
  | true =>
   obtain⟨w3,hrun,ho3,hg3⟩:=World.ownsMap.update ho cM underlying109 (by unfold maxLen;omega) (ix Sp.br (by decide)) (show RV (.pointer y)=some (.held (.pointer y),[]) from rfl);rw[E9] at ho3;unfold Sp.br at hrun;have hkp:∀q,q<wc.heap.size->(∃c t f,wc.heap[q]? = some (.cells c t f))->w3.heap[q]? = wc.heap[q]?:=fun q hq hc=>hg3.block q hq (fun e=>kX ho hc (Option.some.inj e));have q5:w3.cell? ⟨w.heap.size+1,2,none⟩=some (.bool false):=by
    have:=(hg3.block (w.heap.size+1) (by omega) (fun e=>hin _ (by omega) (Option.some.inj e))).trans g1;simp[World.cell?,this]
   have HX:=U (hx.keep hkp);have HY:=U (hy.keep hkp);have HO:=U ho3;have HB3:=U ((O HB).grown hg3 (O HB).size (fun j hj=>by cases hj;omega));have hs3:=hg3.size;clear hx hy ho ho3 hg3 hkp hbc g1 g2 hbb b1 b3 hwb hmm hS c0 c1 c2 hin
   go_wp2_with (fail)
   go_ret;have hnew:∀o:Obj,Below w3.heap.size w3 (w3.alloc o):=fun o=>(Below.refl _ _).alloc (Nat.le_refl _) _
   refine⟨w3.heap.size,M,x12,x16,rfl,heap_alloc_new w3 _,by omega,by omega,?_,?_,(O HB3).trans ((hnew _).mono (O HB3).size),?_⟩
   ·exact ((O HX).keep fun p hp _=>(hnew _).block p hp).mono (by omega)
   ·exact ((O HY).keep fun p hp _=>(hnew _).block p hp).mono (by omega)
   ·rw[if_pos rfl];exact aM (O HO) ((hnew _).block M (cu (O HO)))
end
end Go.Proofs.YtdpomdelmdofmaaGreatDoor
