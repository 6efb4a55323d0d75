import Derived.Test.YtdpomdelmdofmaaGreatDoorUnd34
namespace Go.Proofs.YtdpomdelmdofmaaGreatDoor
open Go.Proofs.Tryz
section
open Go.RowKit Go.Maps
def SV(F:Nat->Prop)(w W0:World)(D:Nat)(d e:Int)(v:Sp.V×Sp.Inv)(l:List Sp.Op2)(x:Ending)(w3:World):Prop:=∃ (c i:Nat) (v':Sp.V×Sp.Inv),x = .returned (.tuple #[.int .i64 i,.int .i64 c])/\w3.heap[w.heap.size]? = W0.heap[w.heap.size]? /\ As F w w3 /\
 Bn w3 (FN F (w.heap.size+1)) (.pointer (some ⟨D,0,none⟩)) d e (some v')/\(match Sp.Bb d 0 v.1 [] l with
  | .error (c',i')=>c=c'/\i=i'/\v'=v
  | .ok (y,j)=>c=0/\i=0/\v'=(y,some j.reverse))
theorem PK{w W0 w9:World}{F:Nat->Prop}{D R:Nat}{wp:Value}{d e:Int}{v:Sp.V×Sp.Inv}{l:List Sp.Op2}{ao:Option Addr}{g cap:Nat}(hd:En w F D R wp d e v)(hF:∀k,F k->NG<=k/\k<w.heap.size)(hW:Below w.heap.size w W0)(hWs:W0.heap.size=w.heap.size+1)(hb:Below W0.heap.size W0 w9)(hT:Af w9)
  (hops:Ko w9 (fun k=>W0.heap.size<=k) g l) (hg:0<l.length->ao=some ⟨g,0,none⟩/\W0.heap.size<=g) (hok:∀o∈l,Sp.OpOk (d+2) e 200000 o) (hn:l.length<=80000) (hd2:d<=20) :
  Calls Tryz.prog 84 #[.pointer (some ⟨D,0,none⟩),.slice ao l.length cap,.int .i64 d] w9 (SV F w W0 D d e v l):=by
 obtain⟨T,a,iv,h1,h2,h3⟩:=hd.ex;have fD:=hd.fD;have hlen:=hd.len;have hgd:=hd.gd;have h1':C8 W0 D R wp (.slice none 0 0) iv v.2.isSome T a v.1:=h1.move (hW.block D h1.db.lt) fun k hk=>hW.block k (h1.tr.lt k hk);have h3':Ic W0 (fun k=>F k/\k≠D/\k ∉ Sp.fp (top+1) T) iv v.2:=h3.move fun k hk hkl=>⟨hW.block k hkl,hk⟩
 obtain⟨wp0,rfl,hJ⟩:=IK h1' hb;have hTl:=h1.tr.lt;have hDl:=h1.db.lt;have hbs:=hb.size;have hng:=hT.ng;have hfit:Sp.Fit d e 200000 v.1:=⟨hgd,by omega,by have:=(Sp.CO hgd).2;omega⟩
 refine (Qu (d:=d) (x:=e) (g:=g) hJ hT (fun k hk=>⟨?_,fun hm=>?_,fun e=>?_⟩) (fun k hk=>⟨hk.2.2,by omega⟩) (by omega) hfit hlen (fun hp=>?_) (fun i hi=>?_) hok (by omega)).mono ?_
 ·omega
 ·have:=(hF k (h2 k hm)).1;omega
 ·have:=(hF k (e▸fD)).1;omega
 ·obtain⟨e1,e2⟩:=hg hp;obtain⟨pa,pl,pc,fa,fl,fc,y,_,q1,_⟩:=hops 0 hp;exact⟨e1,World.block_lt_of_cell? w9 _ q1,fun hm=>by have:=hTl g hm;omega,fun e=>by omega⟩
 ·obtain⟨pa,pl,pc,fa,fl,fc,y,q0,q1⟩:=hops i hi;exact⟨pa,pl,pc,fa,fl,fc,y,q0.move fun k hk hkl=>⟨rfl,⟨hkl,fun hm=>by have:=hTl k hm;omega,fun e=>by omega⟩,Or.inl hk⟩,q1⟩
 ·intro x w3 hp;have hkeep:∀k,k<w.heap.size -> ¬ F k->k<W0.heap.size/\k ∉ Sp.fp (top+1) T/\k≠D:=fun k hk hx=>⟨by omega,fun hm=>hx (h2 k hm),fun e=>hx (e▸fD)⟩
  have hq:w.heap.size<W0.heap.size/\w.heap.size ∉ Sp.fp (top+1) T/\w.heap.size≠D:=⟨by omega,fun hm=>by have:=hTl _ hm;omega,by omega⟩
  unfold SV;cases hr:Sp.Bb d 0 v.1 [] l with
  | error ci =>
   obtain⟨c,i⟩:=ci;rw[hr] at hp;obtain⟨rfl,p1,p2,p3,p4,p5,p6⟩:=hp;refine⟨c,i,v,rfl,p2.held _ hq,⟨p3.trans (hb.os.trans hW.os),p4.trans (hb.tape.trans hW.tape),p5.trans (hb.output.trans hW.output),by have:=hW.size;omega,fun k hk hx=>(p2.held k (hkeep k hk hx)).trans (hW.block k hk)⟩,?_,rfl,rfl,rfl⟩;exact JR h1' rfl h2 h3' fD hlen hgd (fun k hk _=>by have:=(hF k hk).2;omega) (by omega) p2 p1
  | ok vj =>
   obtain⟨y,j⟩:=vj;rw[hr] at hp;obtain⟨rfl,wp',jn,T2,a2,M',wk,iv',s1,s2,s3,s4,s5,s6,s7,s8,s9⟩:=hp;have hM:∀k,k<W0.heap.size/\k ∉ Sp.fp (top+1) T/\k≠D->w3.heap[k]? = W0.heap[k]?:=fun k hk=>by
    have h4:=s2.kept k ⟨by omega,hk.2⟩;exact (s5.block k (by have:=s2.size;omega) hk.2.2).trans (h4.2.trans (hb.block k hk.1))
   refine⟨0,0,_,rfl,hM _ hq,⟨s5.os.trans (s2.os.trans (hb.os.trans hW.os)),s5.tape.trans (s2.tape.trans (hb.tape.trans hW.tape)),s5.output.trans (s2.output.trans (hb.output.trans hW.output)),by have:=hW.size;have:=s2.size;have:=s5.size;omega,fun k hk hx=>(hM k (hkeep k hk hx)).trans (hW.block k hk)⟩,?_,rfl,rfl,rfl⟩;refine JQ (F:=F) (B:=w.heap.size+1) (fun k hk=>⟨h2 k hk,by have:=hTl k hk;omega⟩) ⟨fD,by omega⟩ (by omega) s1 s3 s4 s5 s7 s6.gd (Sp.La (d:=d) (x:=e) (fun o ho=>s8 o (List.mem_reverse.1 ho)) ?_) fun o ho=>⟨by have:=(s8 o (List.mem_reverse.1 ho)).1;omega,fun h=>⟨_,_,((s8 o (List.mem_reverse.1 ho)).2 h).gd,((s8 o (List.mem_reverse.1 ho)).2 h).dd⟩⟩
   rw[List.length_reverse];omega
end

section
set_option maxRecDepth 100000
set_option maxHeartbeats 2000000
open Go.RowKit Go.Maps
theorem GY.below{w w':World}(h:GY w)(hb:Below w.heap.size w w'):GY w':=by
 obtain⟨t,fr,e⟩:=h;exact⟨t,fr,(hb.block _ (Array.getElem?_eq_some_iff.1 e).1).trans e⟩
theorem Ps{x:Int}(h1:0<=x)(h2:x<=1000):IntKind.i64.wrap x=x:=by rw[IntKind.wrap_i64];omega
theorem Kl{F:Nat->Prop}{p:Value}{d e:Int}{A:Sp.Ans}{v':Sp.V×Sp.Inv}{w w3:World}(a b c:Value)(hk:As (fun k=>F k/\k<w.heap.size) w w3)(hd:Bn w3 (FN (fun k=>F k/\k<w.heap.size) (w.heap.size+1)) p d e (some v')) :
  Ct F p d e (A,v') w (.returned (Ap A)) (((w3.setCell ⟨w.heap.size,0,none⟩ a).setCell ⟨w.heap.size,1,none⟩ b).setCell ⟨w.heap.size,2,none⟩ c):=by
 have hs:=AH.of3 w.heap.size w3 a b c;refine⟨rfl,(hs.kept hk (Nat.le_refl _)).mono fun k h=>h.1,hd.move fun k hk hkl=>⟨hs.block k ?_,?_⟩⟩
 ·rcases hk with⟨⟨_,h1⟩,_⟩|h1<;>omega
 ·rcases hk with⟨h1,_⟩|h1
  ·exact Or.inl h1
  ·exact Or.inr (by omega)
theorem PB{S:Nat}{d e n:Int}{p:Value}{v:Sp.V×Sp.Inv}{F:Nat->Prop}{s:Sp.By}{w:World}(hcfg:Sp.cfg d e n=true)(hF:∀k,F k->NG<=k/\k≠S)(hS:SB w S d e n p)(hD:Bn w F p d e (some v))(hT:Af w)(hO:GY w) :
  Calls Tryz.prog 59 #[.pointer (some ⟨S,0,none⟩),.string ⟨s.toArray⟩] w (Ct F p d e (Sp.stPatch d e v s) w):=by
 obtain⟨hd1,hd2⟩:1<=d/\d<=20:=by
  unfold Sp.cfg Sp.inB at hcfg;simp at hcfg;omega
 have hD0:=hD;obtain⟨D,R,wp,rfl,hdw⟩:=hD;have hdw':=hdw.move (F':=fun k=>F k/\k<w.heap.size) (fun k h1 h2=>⟨rfl,h1,h2⟩);obtain⟨W0,hW0⟩:∃W0,W0=w.alloc (.cells #[.int .i64 0,.int .i64 0,.string ⟨#[]⟩] 46):=⟨_,rfl⟩
 have hb0:Below w.heap.size w W0:=by rw[hW0];exact (Below.refl _ _).alloc (Nat.le_refl _) _
 have hs0:W0.heap.size=w.heap.size+1:=by rw[hW0];simp
 have hab0:AB W0 w.heap.size:=by rw[hW0];exact AB.new w
 have HDW:=Ab hdw';have HD0:=Ab hD0;have HF:=Ab hF;have HB0:=Ab hb0;have HS0:=Ab hs0;have HAB0:=Ab hab0;have HT0:=Ab (hT.below (hb0.mono hT.ng));have HO0:=Ab (hO.below hb0);have hS0:=hS.low hb0;have c0:=hS0.c0;have c1:=hS0.c1;have HSB:=Ab hS0;have hwr:IntKind.i64.wrap (d+2)=d+2:=Ps (by omega) (by omega);have HR:=Ab (fun (w9:World) (hT:Af w9)=>Pq s (d+2) e w9 hT);rw[<- hwr] at HR;have HWR:=Ab hwr;clear hwr;obtain⟨RR,hRR⟩:∃RR,RR=Sp.stPatch d e v s:=⟨_,rfl⟩
 rw[<- hRR];have HRR:=Ab hRR;have HW0:=Ab hW0;rw[hW0] at c0 c1;clear hcfg hF hS hD0 hdw hdw' hT hO hb0 hs0 hab0 hS0 hRR hW0;have hd3:1<=d:=hd1
 go_enter func59,ntmps59
 go_upto_region 1 with (fail)
 rw[<- Aa HW0];rw[<- Aa HW0] at c0 c1
 go_cut [5,6] (fun s5 s6 wx=>∃ (p2:Option Addr) (c:Nat),s5 = .pointer p2/\s6 = .int .i64 c/\Hid (Below W0.heap.size W0 wx)/\Hid ((0<c/\Sp.readTo s (IntKind.i64.wrap (d+2)) e=(c,none))\/(c=0 /\ ∃v,Sp.readTo s (IntKind.i64.wrap (d+2)) e=(0,some v)/\Tr top W0.heap.size wx (.pointer p2) v)))
 case first =>
  go_region_with (go_at_call 77;refine (Aa HR _ ?_).mono ?_;exact (Aa HT0).drew;rintro x w1 ⟨p2,c,rfl,hb1,hc⟩)
  all_goals (
   replace hb1:Below W0.heap.size W0 w1:=⟨hb1.os,hb1.tape,hb1.output,hb1.size,hb1.block⟩
   replace hc:(0<c/\Sp.readTo s (IntKind.i64.wrap (d+2)) e=(c,none))\/(c=0 /\ ∃v,Sp.readTo s (IntKind.i64.wrap (d+2)) e=(0,some v)/\Tr top W0.heap.size w1 (.pointer p2) v):=hc
   have HB1:=Ab hb1;have HC:=Ab hc;clear hb1 hc
   go_wp2_with (fail)
   go_meet
   exact⟨p2,c,rfl,rfl,HB1,HC⟩)
 case rest =>
  obtain⟨p2,c,rfl,rfl,HB1,HC⟩:=hcut;have HBW:=Ab ((Aa HB0).trans ((Aa HB1).mono (by have:=Aa HS0;omega)));have A1:=Ab ((Aa HAB0).low (Aa HB1));rcases Aa HC with⟨hpos,hrd⟩|⟨rfl,pv,hrd,htr⟩
  ·rw[Aa HWR] at hrd;have HR2:=Ab (show RR=((c,0,[]),v) by rw[Aa HRR];unfold Sp.stPatch;rw[hrd]);have e0:((c:Int) != 0)=true:=by simp;omega
   clear hrd hpos
   go_wp2_with (fail);refine (Bv c _).mono ?_
   rintro x w3 ⟨rfl,hb3⟩;have a3:=(Aa A1).low hb3;have g0:=a3.c0;have g1:=a3.c1;have g2:=a3.c2;have z:=a3.fz;have HB3:=Ab ((Aa HBW).trans (hb3.mono (Aa HBW).size));clear a3 hb3;unfold A8
   go_wp2_with (fail);refine bodyPost_ret (v:=Ap (c,0,[])) (by simp[results,results59,go_sem,Ap,g0,g1,g2]) rfl ?_
   rw[Aa HR2];exact Kl _ _ _ (As.of_below (Aa HB3)) ⟨D,R,wp,rfl,(Aa HDW).move fun k hk hkl=>⟨(Aa HB3).block k hkl,Or.inl ⟨hk,by omega⟩⟩⟩
  ·rw[Aa HWR] at hrd;have hgd:=CI hrd;have hln:=F7 hrd top;have hT1:=(Aa HT0).below ((Aa HB1).mono (Aa HT0).ng);have HPR:=Ab (PM (f:=top-2) htr.rep (by unfold top;omega) (Sp.Rj hgd hln) hT1 ((Aa HO0).below (Aa HB1)));have HRD:=Ab hrd;have HOK:=Ab (fun l (h:Sp.Dv pv = .ok l)=>Sp.Je hgd hln (by omega) h);have HT1:=Ab hT1;clear hrd htr hgd hln hT1
   go_wp2_with (fail);refine (Aa HPR).mono ?_
   rintro x w2 ⟨hend,hb2⟩;have A2:=Ab ((Aa A1).low hb2);have HBW2:=Ab ((Aa HBW).trans (hb2.mono (Aa HBW).size));have HB2:=Ab hb2;unfold Dg at hend;cases hpr:Sp.Dv pv with
   | error i =>
    rw[hpr] at hend;subst hend;have HR2:=Ab (show RR=((10,i,[]),v) by rw[Aa HRR];unfold Sp.stPatch;rw[Aa HRD];simp only;rw[hpr]);have g0:=(Aa A2).c0;have g1:=(Aa A2).c1;have g2:=(Aa A2).c2;have z:=(Aa A2).fz;clear hpr hb2
    go_wp2_with (fail);refine bodyPost_ret (v:=Ap (10,i,[])) (by simp[results,results59,go_sem,Ap,g0,g1,g2]) rfl ?_
    rw[Aa HR2];exact Kl _ _ _ (As.of_below (Aa HBW2)) ⟨D,R,wp,rfl,(Aa HDW).move fun k hk hkl=>⟨(Aa HBW2).block k hkl,Or.inl ⟨hk,by omega⟩⟩⟩
   | ok l =>
    rw[hpr] at hend;obtain⟨ao,g,cap,rfl,hg,hops⟩:=hend;obtain⟨hok1,hok2⟩:=Aa HOK l hpr;have hs1:=(Aa HB1).size;have hs2:=hb2.size;have hB02:Below W0.heap.size W0 w2:=(Aa HB1).trans (hb2.mono hs1);have HPC:=Ab (fun (w9:World) (h9:Below w2.heap.size w2 w9)=>PK (ao:=ao) (cap:=cap) (l:=l) (g:=g) (Aa HDW) (fun k hk=>⟨(Aa HF k hk.1).1,hk.2⟩) (Aa HB0) (Aa HS0) (hB02.trans (h9.mono hB02.size)) ((Aa HT1).below ((hb2.trans (h9.mono hs2)).mono (Aa HT1).ng))
     (fun i hi=>by
      obtain⟨pa,pl,pc,fa,fl,fc,y,q0,q1,q2,q3,q4⟩:=hops i hi;have hgl:=World.block_lt_of_cell? w2 _ q1;exact⟨pa,pl,pc,fa,fl,fc,y,q0.move fun k hk hkl=>⟨h9.block k hkl,by rcases hk with⟨h,_⟩|h<;>omega⟩,(h9.cell (p:=⟨g,i*4,none⟩) hgl).trans q1,(h9.cell (p:=⟨g,i*4+1,none⟩) hgl).trans q2,(h9.cell (p:=⟨g,i*4+2,none⟩) hgl).trans q3,(h9.cell (p:=⟨g,i*4+3,none⟩) hgl).trans q4⟩)
     (fun hp=>⟨(hg hp).1,Nat.le_trans hs1 (hg hp).2⟩) hok2 hok1 hd2)
    have hS2:=(Aa HSB).low hB02;have c02:=hS2.c0;have c32:=hS2.c3;have HR2:=Ab (fun (y:(Sp.V×Sp.Inv)) (c i:Nat) (h:match Sp.Bb d 0 v.1 [] l with
     | .error (c',i')=>c=c'/\i=i'/\y=v
     | .ok (u,j)=>c=0/\i=0/\y=(u,some j.reverse))=>(show RR=((c,i,[]),y) by
      rw[Aa HRR];unfold Sp.stPatch;rw[Aa HRD];simp only;rw[hpr];simp only;cases hdo:Sp.Bb d 0 v.1 [] l with
      | error ci=>rw[hdo] at h;obtain⟨rfl,rfl,rfl⟩:=h;rfl
      | ok uj=>rw[hdo] at h;obtain⟨rfl,rfl,rfl⟩:=h;rfl))
    clear hpr hb2 hg hops hok1 hok2 hs1 hs2 hB02 hS2 c0 c1
    go_upto_region 7 with (fail)
    go_cut [8,6] (fun s8 s6 wx=>∃ (c i:Nat) (v':Sp.V×Sp.Inv),s8 = .int .i64 i/\s6 = .int .i64 c/\Hid (wx.heap[w.heap.size]? = W0.heap[w.heap.size]? /\ As (fun k=>F k/\k<w.heap.size) w wx/\Bn wx (FN (fun k=>F k/\k<w.heap.size) (w.heap.size+1)) (.pointer (some ⟨D,0,none⟩)) d e (some v')/\RR=((c,i,[]),v')))
    case first =>
     go_region_with (go_at_call 84;refine (Aa HPC _ ?_).mono ?_;exact⟨rfl,rfl,rfl,Nat.le_refl _,fun _ _=>rfl⟩;rintro x w3 ⟨c,i,v',rfl,q1,q2,q3,q4⟩)
     all_goals (
      have HEND:=Ab (show w3.heap[w.heap.size]? = W0.heap[w.heap.size]? /\ As (fun k=>F k/\k<w.heap.size) w w3/\Bn w3 (FN (fun k=>F k/\k<w.heap.size) (w.heap.size+1)) (.pointer (some ⟨D,0,none⟩)) d e (some v')/\RR=((c,i,[]),v') from⟨q1,q2,q3,Aa HR2 v' c i q4⟩);clear q1 q2 q3 q4
      go_wp2_with (fail)
      go_meet
      exact⟨c,i,v',rfl,rfl,HEND⟩)
    case rest =>
     obtain⟨c,i,v',rfl,rfl,HEND⟩:=hcut;obtain⟨q1,q2,q3,q4⟩:=Aa HEND;have a3:AB wc w.heap.size:=q1.trans (Aa HAB0);have g0:=a3.c0;have g1:=a3.c1;have g2:=a3.c2;have z:=a3.fz;clear q1 q2 q3 q4 a3
     go_wp2_with (fail);refine bodyPost_ret (v:=Ap (c,i,[])) (by simp[results,results59,go_sem,Ap,g0,g1,g2]) rfl ?_
     obtain⟨q1,q2,q3,q4⟩:=Aa HEND;rw[q4];exact Kl _ _ _ q2 q3
theorem MO:KO:=fun _ _ _ _ _ _ _ _ _ hc hF hS hD hT=>PB hc hF hS hD hT hT.otab
end

section
set_option maxRecDepth 100000
set_option maxHeartbeats 1000000
open Go.RowKit Go.Maps
theorem NE{w:World}{D:Nat}{rv jn iv:Value}{ch:Bool}(h:DB w D rv jn ch iv) :
  Calls Tryz.prog 86 #[.pointer (some ⟨D,0,none⟩)] w fun e w'=>e = .returned (.tuple #[iv,.bool ch])/\Below w.heap.size w w':=by
 have c2:=h.c2;have c3:=h.c3;clear h
 go_enter func86,ntmps86
 go_wp2_with (fail)
 go_quiet (fail)
 go_wp2_with (fail)
 go_ret2
 exact⟨rfl,rfl,rfl,rfl,Nat.le_refl _,fun _ _=>rfl⟩
theorem Hk{w:World}(s:Sp.By) :
  Calls Tryz.prog 164 #[.string ⟨s.toArray⟩] w fun e w'=>e = .returned (.pointer (some ⟨w.heap.size,0,none⟩))/\VB w' w.heap.size 4 n0 s (.slice none 0 0) (.map none)/\Below w.heap.size w w'/\w'.heap.size=w.heap.size+1:=by
 go_enter func164,ntmps164
 go_wp2_with (fail)
 go_ret;exact⟨rfl,heap_alloc_new w _,(Below.refl _ _).alloc (Nat.le_refl _) _,by simp⟩
end

section
set_option maxRecDepth 100000
set_option maxHeartbeats 2000000
open Go.RowKit
theorem Pr{B b:Nat}{p:Value}{bs:List Value}{w w':World}(h:Lib.BuilderAt 119 5 B b p bs w)(hb:Below w.heap.size w w'):Lib.BuilderAt 119 5 B b p bs w':=by
 obtain⟨hB,v,hv,hown,hne⟩:=h;refine⟨hB,v,(hb.block b (Array.getElem?_eq_some_iff.1 hv).1).trans hv,?_,hne⟩;refine⟨hown.1,hown.2.imp id ?_⟩;rintro⟨g,cap,cur,h1,h2,h3,h4⟩;exact⟨g,cap,cur,h1,h2,(hb.block g (Array.getElem?_eq_some_iff.1 h3).1).trans h3,h4⟩
theorem S0{B b:Nat}{l:Sp.By}{w w':World}(h:Bu B b l w)(hb:Below w.heap.size w w'):Bu B b l w':=Or.imp (fun h=>Pr h hb) (fun h=>Pr h hb) h
theorem R9{j:Nat}(hj:j<2){c:UInt8}(h:DT j=c.toNat):Sp.Da c=(Ev j).data.toList:=by
 match j,hj with
 | 0,_ =>
  have:c=126:=UInt8.toNat_inj.1 (by have:(126:Int)=c.toNat:=h;show c.toNat=126;omega);subst this;rfl
 | 1,_ =>
  have:c=47:=UInt8.toNat_inj.1 (by have:(47:Int)=c.toNat:=h;show c.toNat=47;omega);subst this;rfl
theorem Qd{c:UInt8}(h:∀j,j<2->DT j≠c.toNat):Sp.Da c=[c]:=by
 unfold Sp.Da;rw[if_neg (fun e=>h 0 (by omega) (by rw[e];rfl)),if_neg (fun e=>h 1 (by omega) (by rw[e];rfl))]
theorem YX{B b:Nat}{acc:Sp.By}(c:UInt8){w:World}(h:Bu B b acc w)(hl:acc.length+2<=140737488355328)(hB:B<=w.heap.size)(hT:EF w) :
  Calls Tryz.prog 207 #[.pointer (some ⟨b,0,none⟩),.int .u8 c.toNat] w fun e w'=>e = .returned (.tuple #[])/\Bu B b (acc++Sp.Da c) w'/\Fr B b w w':=by
 obtain⟨ci,hci⟩:∃ci:Int,ci=c.toNat:=⟨_,rfl⟩
 rw[<- hci];have HCI:=Ab hci;have HH:=Ab h;have HL:=Ab hl;have HB:=Ab hB;have hlt:4<w.heap.size:=by obtain⟨t,fr,e⟩:=hT;exact (Array.getElem?_eq_some_iff.1 e).1
 obtain⟨tt,fz,hg1⟩:=hT;clear hci h hl hB
 go_enter func207,ntmps207
 go_wp2_with (refine wpList_load_row rfl 256 _ rfl 4 rfl tt _ fz _ hg1 underlying256 rfl (by kernel_rfl) ?_)
 clear hg1 hlt
 go_loopw [7] (fun i wr=>∃j:Nat,j<=2/\i = .int .i64 j/\Hid (Below w.heap.size w wr)/\Hid (∀q,q<j->DT q≠ci)) (fun i _=>2-(intOf i).toNat)
 case atStart=>exact⟨0,by omega,rfl,Below.refl _ _,fun q hq=>absurd hq (by omega)⟩
 case round =>
  obtain⟨j,hj,rfl,HBW,HNO⟩:=hrel;by_cases h2:j=2
  ·subst h2;have HE:=Ab (Qd (c:=c) fun q hq=>by rw[<- Aa HCI];exact Aa HNO q hq);have HC:=Ab (Bp c ci (Aa HCI) (S0 (Aa HH) (Aa HBW)) (by have:=Aa HL;omega) (Nat.le_trans (Aa HB) (Aa HBW).size))
   go_wp2_with (fail);refine (Aa HC).mono ?_
   rintro e w2 ⟨rfl,h1,h3⟩;have H1:=Ab h1;have H3:=Ab h3;clear h1 h3
   go_wp2_with (fail);refine bodyPost_end (results_none rfl _ _ _) rfl ⟨rfl,?_,?_⟩
   ·rw[Aa HE];exact Aa H1
   ·exact Fr.trans ⟨(Aa HBW).mono (Aa HB),OKz.below (Aa HBW)⟩ (Aa H3)
  ·have hjj:j<2:=by omega
   have hlt2:(j:Int)<2:=by omega
   have hidx:=fun w1=>OP j hjj w1;by_cases hh:DT j=ci
   ·have e1:(DT j == ci)=true:=by rw[hh];simp
    have HE:=Ab (R9 hjj (c:=c) (hh.trans (Aa HCI)));have hks:=Le j hjj;have hpk:Ev j=⟨(Ev j).data.toList.toArray⟩:=by rw[Array.toArray_toList]
    obtain⟨l,hll⟩:∃l,l=(Ev j).data.toList:=⟨_,rfl⟩
    rw[<- hll] at hpk HE;have hlen:l.length=2:=by rw[hpk,Aw] at hks;exact hks
    rw[hpk] at hidx;have hb9:Below w.heap.size w (wr.alloc (.cells #[.string ⟨l.toArray⟩,.int .u8 (DT j)] 255)):=(Aa HBW).alloc (Aa HBW).size _;have HC:=Ab (Fh l (S0 (Aa HH) hb9) (by have:=Aa HL;omega) (Nat.le_trans (Aa HB) hb9.size));have HB9:=Ab hb9;clear hks hpk hll hlen hb9 hh;generalize DT j=pb at *
    go_wp2_with (fail);refine (Aa HC).mono ?_
    rintro e w2 ⟨rfl,h1,h3⟩;have H1:=Ab h1;have H3:=Ab h3;clear h1 h3
    go_wp2_with (fail);refine bodyPost_ret (v:=.tuple #[]) (results_none rfl _ _ _) rfl ⟨rfl,?_,?_⟩
    ·rw[Aa HE];exact Aa H1
    ·exact Fr.trans ⟨(Aa HB9).mono (Aa HB),OKz.below (Aa HB9)⟩ (Aa H3)
   ·have e1:(DT j == ci)=false:=by rw[beq_eq_false_iff_ne];exact hh
    have HN2:=Ab (show ∀q,q<j+1->DT q≠ci from fun q hq=>if e:q=j then e▸hh else Aa HNO q (by omega));clear hh;generalize Ev j=pk at *;generalize DT j=pb at *
    go_wp2_with (fail);exact⟨⟨j+1,by omega,by go_num,(Aa HBW).alloc (Aa HBW).size _,HN2⟩,by simp[intOf];omega⟩
end

section
set_option maxRecDepth 100000
set_option maxHeartbeats 4000000
open Go.RowKit
theorem Rh{ks:List Sp.By}{k:Nat}(h:k<ks.length):Sp.AY (ks.take (k+1))=Sp.AY (ks.take k)++47::Sp.Bq ks[k]:=by
 rw[List.take_succ_eq_append_getElem h];simp only[Sp.AY,List.flatMap_append,List.flatMap_cons,List.flatMap_nil,List.append_nil]
theorem QW{t:Sp.By}{k:Nat}(h:k<t.length):Sp.Bq (t.take (k+1))=Sp.Bq (t.take k)++Sp.Da t[k]:=by
 rw[List.take_succ_eq_append_getElem h];simp only[Sp.Bq,List.flatMap_append,List.flatMap_cons,List.flatMap_nil,List.append_nil]
theorem Rg{ks:List Sp.By}(k:Nat):(Sp.AY (ks.take k)).length<=(Sp.AY ks).length:=by
 have h:Sp.AY ks=Sp.AY (ks.take k)++Sp.AY (ks.drop k):=by
  conv=>lhs;rw[<- List.take_append_drop k ks]
  simp only[Sp.AY,List.flatMap_append]
 rw[h,List.length_append];omega
theorem N5{w:World}{pv:Value}{ks:List Sp.By}(hp:CQ w pv ks)(hs:(ks.map fun t=>t.length+1).sum<=1000000)(hT:EF w) :
  Calls Tryz.prog 165 #[pv] w fun e w'=>e = .returned (.string ⟨(Sp.AY ks).toArray⟩)/\Below w.heap.size w w':=by
 obtain⟨B,hBe⟩:∃B,B=w.heap.size:=⟨_,rfl⟩
 obtain⟨W0,hW0⟩:∃W0,W0=w.alloc (.cells #[.pointer none,.slice none 0 0] 119):=⟨_,rfl⟩
 have hb0:Below B w W0:=by rw[hW0,hBe];exact (Below.refl _ _).alloc (Nat.le_refl _) _
 have hs0:W0.heap.size=B+1:=by rw[hW0,hBe];simp
 have h0:Bu B B [] W0:=Or.inl ⟨Nat.le_refl _,.slice none 0 0,by rw[hW0,hBe];show (w.heap.push _)[w.heap.size]? = _;simp,World.ownsRow_nil _ _ _ _,by simp[Value.ownBlock]⟩;obtain⟨hl1,hl2⟩:=Ih ks;have hpl:=Sp.Jc ks;obtain⟨N,hN⟩:∃N,N=ks.length:=⟨_,rfl⟩
 obtain⟨ao,cap,hpv,hcell⟩:∃ao cap,pv = .slice ao N cap/\(0<N -> ∃g o,ao=some ⟨g,o,none⟩/\g<B/\N<=cap /\ ∀k (hk:k<ks.length),w.cell? ⟨g,o+k,none⟩=some (.string ⟨ks[k].toArray⟩)):=by
  rcases hp with⟨rfl,a,c,rfl,_⟩|⟨g,o,cap,rfl,h2,_,hg,hc⟩
  ·exact⟨a,c,by rw[hN];rfl,fun h=>absurd h (by rw[hN];simp)⟩
  ·exact⟨_,cap,by rw[hN],fun _=>⟨g,o,rfl,by rw[hBe];exact hg,by omega,hc⟩⟩
 subst hpv;have HB0:=Ab hb0;have HS0:=Ab hs0;have H0:=Ab h0;have HC:=Ab hcell;have HT:=Ab hT;have HL:=Ab (show (∀t∈ks,t.length<=1000000)/\(Sp.AY ks).length<=2000000 from⟨fun t ht=>by have:=hl2 t ht;omega,by omega⟩);have HN:=Ab hN;have HBE:=Ab hBe;have HW0:=Ab hW0;have hn1:(N:Int)<=1000000:=by omega
 have hcv:=fun W s=>Lib.run_convert_string_bytes (P:=Tryz.prog) W 9 117 5 s underlying9 underlying117 underlying5;rw[<- hBe];clear hp hs hT hb0 hs0 h0 hl1 hl2 hpl hcell hN hBe hW0
 go_enter func165,ntmps165
 go_wp2_with (fail);rw[<- Aa HW0,<- Aa HBE]
 go_loopw [10] (fun i wr=>∃k:Nat,k<=N/\i = .int .i64 k/\Hid (Bu B B (Sp.AY (ks.take k)) wr)/\Hid (Fr B B W0 wr)) (fun i _=>N-(intOf i).toNat)
 case atStart=>exact⟨0,by omega,rfl,by simpa[Sp.AY] using H0,Fr.refl _ _ _⟩
 case round =>
  obtain⟨k,hk,rfl,HBU,HF⟩:=hrel;have hBr:B<=wr.heap.size:=by have:=(Aa HF).low.size;have:=Aa HS0;omega
  by_cases hlt:k<N
  ·have hkl:k<ks.length:=by have:=Aa HN;omega
   obtain⟨g,o,hao,hg,hcap,hc⟩:=Aa HC (by omega);subst hao;have ck:wr.cell? ⟨g,o+k,none⟩=some (.string ⟨ks[k].toArray⟩):=((((Aa HB0).trans (Aa HF).low).cell (p:=⟨g,o+k,none⟩) hg)).trans (hc k hkl);have HSN:=Ab (Rh hkl);have htl:=(Aa HL).1 _ (List.getElem_mem hkl);obtain⟨t,ht⟩:∃t,t=ks[k]:=⟨_,rfl⟩
   rw[<- ht] at ck HSN htl;have hpk:=Nat.le_trans (Rg (ks:=ks) k) (Aa HL).2;have hlt2:(k:Int)<(N:Int):=by omega
   have hlt3:(k:Int)<(cap:Int):=by omega
   have hn2:(N:Int)<=(cap:Int):=by omega
   have HBY:=Ab (Bp 47 47 rfl (Aa HBU) (by omega) hBr);clear ht hc
   go_wp2_with (fail);refine (Aa HBY).mono ?_
   rintro e w1 ⟨rfl,h1,f1⟩;obtain⟨cs,fz,hrow,hfz,hcs,hbw⟩:=LI w1 t;have hB1:B<=w1.heap.size:=Nat.le_trans hBr f1.low.size;have H2:=Ab (Bf h1 hbw);have F2:=Ab (((Aa HF).trans f1).trans ⟨hbw.mono hB1,OKz.below hbw⟩);have hgb:w1.heap.size≠B:=by
    rcases h1 with h1|h1
    ·have:=h1.lt;omega
    ·have:=h1.lt;omega
   have HROW:=Ab hrow;have HFZ:=Ab hfz;have HCS:=Ab hcs;clear h1 f1 hbw hrow hfz hcs HBY ck hg hcap
   go_wp2_with (fail);generalize Lib.bytesWorld w1 5 ⟨t.toArray⟩=w2 at *
   go_loopw [18] (fun i wx=>∃j:Nat,j<=t.length/\i = .int .i64 j/\Hid (Bu B B (Sp.AY (ks.take k)++47::Sp.Bq (t.take j)) wx)/\Hid (Fr B B W0 wx)/\Hid (wx.heap[w1.heap.size]? = some (.cells cs 5 fz))) (fun i _=>t.length-(intOf i).toNat)
   case atStart=>exact⟨0,by omega,rfl,by simpa[Sp.Bq] using H2,F2,HROW⟩
   case round =>
    obtain⟨j,hj,rfl,HBU2,HF2,HR2⟩:=hrel;have hBx:B<=wr.heap.size:=by have:=(Aa HF2).low.size;have:=Aa HS0;omega
    by_cases hjl:j<t.length
    ·have hro:wr.heap[w1.heap.size]? = some (.cells cs 5 fz):=Aa HR2;have cc:wr.cell? ⟨w1.heap.size,j,none⟩=some (.int .u8 (t[j].toNat:Int)):=by simp[World.cell?,hro,Aa HCS j hjl]
     have HSN2:=Ab (QW hjl);have hbt:(Sp.Bq (t.take j)).length<=2*t.length:=by
      have h1:=Sp.IZ (t.take j);have h2:(t.take j).length<=t.length:=by simp;omega
      omega
     have HKR:Hid (∀w':World,Fr B B wr w'->w'.heap[w1.heap.size]? = some (.cells cs 5 fz)):=fun w' h=>h.oth _ _ hro hgb (fun c e=>by injection e with _ _ e;exact Aa HFZ e);obtain⟨c,hc⟩:∃c,c=t[j]:=⟨_,rfl⟩
     rw[<- hc] at cc HSN2;have HES:=Ab (YX c (Aa HBU2) (by simp only[List.length_append,List.length_cons];omega) hBx ((Aa HT).kept (Aa HBE▸((Aa HB0).trans (Aa HF2).low))));have hltj:(j:Int)<(t.length:Int):=by omega
     have hcn:=c.toNat_lt;clear hc hro
     go_wp2_with (fail);refine (Aa HES).mono ?_
     rintro e w5 ⟨rfl,h5,f5⟩;have H5:=Ab h5;have F5:=Ab f5;clear h5 f5
     go_wp2_with (fail);exact⟨⟨j+1,by omega,by go_num,by rw[Aa HSN2];simpa using H5,(Aa HF2).trans (Aa F5),Aa HKR _ (Aa F5)⟩,by simp[intOf];omega⟩
    ·obtain rfl:j=t.length:=by omega
     have hltj:¬ ((t.length:Nat):Int)<((t.length:Nat):Int):=by omega
     have hfin:=Aa HBU2;rw[List.take_length,<- Aa HSN] at hfin;have HFIN:=Ab hfin;clear hfin
     go_wp2_with (fail);exact⟨⟨k+1,by omega,by go_num,HFIN,HF2⟩,by simp[intOf];omega⟩
  ·obtain rfl:k=N:=by omega
   have hlt2:¬ (k:Int)<(k:Int):=by omega
   have h9:=Aa HBU;rw[List.take_of_length_le (by have:=Aa HN;omega)] at h9;have HST:=Ab (Tryz.Builder_String_any B B _ wr h9 hBr);clear h9
   go_wp2_with (fail);refine (Aa HST).mono ?_
   rintro e w2 ⟨rfl,hb2⟩
   go_wp2_with (fail)
   go_ret;exact⟨by simp,((Aa HB0).trans (Aa HF).low).trans hb2⟩
end

section
set_option maxRecDepth 100000
set_option maxHeartbeats 1000000
open Go.RowKit Go.Maps
def elD(b1 b2:Bool)(x y:Value):List (Lit×DataW Value):=(if b1 then [(.string Sp.op_,.held x)] else [])++(if b2 then [(.string Sp.BE,.held y)] else [])
theorem YK(b2:Bool)(x x' y:Value):DataW.put (.map (elD false b2 x' y)) (.string Sp.op_) (.held x) = .map (elD true b2 x y):=by cases b2<;>rfl
theorem YJ(b1:Bool)(x y y':Value):DataW.put (.map (elD b1 false x y')) (.string Sp.BE) (.held y) = .map (elD b1 true x y):=by cases b1<;>rfl
theorem YI(x y z:Value):DataW.put (.map (elD true true x y)) (.string Sp.Bg) (.held z) = .map (elD true true x y++if true then [(.string Sp.Bg,.held z)] else []):=rfl
def StB(w:World)(B:Nat)(v:Value)(s:Sp.By):Prop:=∃p,v = .pointer (some ⟨p,0,none⟩)/\B<=p/\VB w p 4 n0 s (.slice none 0 0) (.map none)
theorem StB.keep{w w':World}{B:Nat}{v:Value}{s:Sp.By}(h:StB w B v s)(hk:∀p,p<w.heap.size->(∃c t f,w.heap[p]? = some (.cells c t f))->w'.heap[p]? = w.heap[p]?):StB w' B v s:=by
 obtain⟨p,h1,h2,h3⟩:=h;exact⟨p,h1,h2,h3.kept (hk p h3.lt ⟨_,_,_,h3⟩)⟩
theorem StB.mono{w:World}{B B':Nat}{v:Value}{s:Sp.By}(h:StB w B v s)(hB:B'<=B):StB w B' v s:=by
 obtain⟨p,h1,h2,h3⟩:=h;exact⟨p,h1,Nat.le_trans hB h2,h3⟩
def elA(t0:Value)(q1 q3:Nat)(t6 t7 t8 x4 x9 x10 x11 x12 x13 x14 x15 x16 x17:Value):Act :=
 { tmps:=#[t0,.pointer (some ⟨q1,0,none⟩),.pointer none,.pointer (some ⟨q3,0,none⟩),x4,.pointer (some ⟨q1,0,none⟩),t6,t7,t8,x9,x10,x11,x12,x13,x14,x15,x16,x17,undef,undef,undef,undef,undef,undef,undef,undef,undef,undef,undef,undef,undef,undef,undef],defers:=[] }
structure ElI(wb:World)(t0:Value)(q1 q3:Nat)(t6 t7 t8:Value)(nm:Sp.By)(pv:Value)(ps:Sp.By)(l:Array Bool)(a:Act)(w:World):Prop where
 sz:l.size=12
 bel:Below wb.heap.size wb w
 d4:l.getD 4 false=true->l.getD 3 false=true/\l.getD 0 false=true
 d9:l.getD 9 false=true->l.getD 8 false=true/\l.getD 0 false=true
 d10:l.getD 10 false=true->l.getD 9 false=true/\l.getD 0 false=true
 d11:l.getD 11 false=true->l.getD 10 false=true/\l.getD 0 false=true
 ex:∃x4 x9 x10 x11 x12 x13 x14 x15 x16 x17,a=elA t0 q1 q3 t6 t7 t8 x4 x9 x10 x11 x12 x13 x14 x15 x16 x17 /\
  (l.getD 1 false=true->x10 = .pointer (some ⟨q3,0,none⟩))/\(l.getD 2 false=true->x11 = .string ⟨nm.toArray⟩)/\(l.getD 3 false=true->StB w wb.heap.size x12 nm) /\
  (l.getD 5 false=true->x13 = .pointer (some ⟨q1,1,none⟩))/\(l.getD 6 false=true->x14=pv)/\(l.getD 7 false=true->x15 = .string ⟨ps.toArray⟩)/\(l.getD 8 false=true->StB w wb.heap.size x16 ps) /\
  (l.getD 0 false=true -> ∃M n,x9 = .map (some M)/\wb.heap.size<=M/\n<=(if l.getD 4 false then 1 else 0)+(if l.getD 9 false then 1 else 0)/\w.ownsMap Tryz.prog 9 RV M n (.map (elD (l.getD 4 false) (l.getD 9 false) x12 x16))) /\
  (l.getD 10 false=true->x17=x9)/\(l.getD 11 false=true->x4=x9)
theorem KF{l:Array Bool}(h:l.size=12)(i j:Nat)(hi:i<12):(l.setIfInBounds i true).getD j false=if i=j then true else l.getD j false:=by
 by_cases e:i=j
 ·subst e;rw[if_pos rfl];simp[Array.getD,h,hi]
 ·rw[if_neg e];exact getD_set_ne _ e
theorem Hq{w:World}{M n:Nat}{D:DataW Value}(h:w.ownsMap Tryz.prog 9 RV M n D){p:Nat}(hp:∃c t f,w.heap[p]? = some (.cells c t f)):p≠M:=by
 rintro rfl;obtain⟨es,clock,hb,_⟩:=h;obtain⟨c,t,f,e⟩:=hp;rw[hb] at e;cases e
theorem ElI.low{wb:World}{t0:Value}{q1 q3:Nat}{t6 t7 t8:Value}{nm:Sp.By}{pv:Value}{ps:Sp.By}{l:Array Bool}{a:Act}{w w':World}(h:ElI wb t0 q1 q3 t6 t7 t8 nm pv ps l a w)(hb:Below w.heap.size w w'):ElI wb t0 q1 q3 t6 t7 t8 nm pv ps l a w':=by
 obtain⟨hsz,hbel,hd4,hd9,hd10,hd11,x4,x9,x10,x11,x12,x13,x14,x15,x16,x17,ha,e1,e2,e3,e5,e6,e7,e8,e0,e10,e11⟩:=h;refine⟨hsz,hbel.trans (hb.mono hbel.size),hd4,hd9,hd10,hd11,x4,x9,x10,x11,x12,x13,x14,x15,x16,x17,ha,e1,e2,fun h=>(e3 h).keep fun p hp _=>hb.block p hp,e5,e6,e7,fun h=>(e8 h).keep fun p hp _=>hb.block p hp,fun h=>?_,e10,e11⟩;obtain⟨M,n,m1,m2,m3,m4⟩:=e0 h;exact⟨M,n,m1,m2,m3,AJ m4 (hb.block M (B0 m4))⟩
theorem Ao{l:Array Bool}{i j k m:Nat}(h:i≠j)(e:l.getD j false=true->l.getD k false=true/\l.getD m false=true):(l.setIfInBounds i true).getD j false=true->(l.setIfInBounds i true).getD k false=true/\(l.setIfInBounds i true).getD m false=true:=fun h' =>
 have h2:=e ((getD_set_ne _ h).symm.trans h')
 ⟨getD_set_true h2.1,getD_set_true h2.2⟩
def YU(w:World)(nm ps:Sp.By)(nv:Bool)(y:Value)(e:Ending)(w':World):Prop:=∃p M x12 x16,e = .returned (.pointer (some ⟨p,0,none⟩))/\VB w' p 6 n0 [] (.slice none 0 0) (.map (some M))/\w.heap.size<=p/\w.heap.size<=M /\
 StB w' w.heap.size x12 nm/\StB w' w.heap.size x16 ps/\Below w.heap.size w w'/\w'.ownsMap Tryz.prog 9 RV M 3 (.map (elD true true x12 x16++if nv then [(.string Sp.Bg,.held y)] else []))
theorem Sj{w:World}{k:Nat}{pa y:Option Addr}{pl pc:Nat}{nm ps:Sp.By}{nv:Bool}(hk:k<6)(hl:3<w.heap.size)(c0:w.cell? ⟨3,k*3,none⟩=some (.string ⟨nm.toArray⟩))(c1:w.cell? ⟨3,k*3+1,none⟩=some (.bool nv))(c2:w.cell? ⟨3,k*3+2,none⟩=some (.bool false))
  (hS:∀w',Below w.heap.size w w'->Calls Tryz.prog 165 #[.slice pa pl pc] w' fun e w''=>e = .returned (.string ⟨ps.toArray⟩)/\Below w'.heap.size w' w'') :
  Calls Tryz.prog 122 #[.agg #[.int .i64 k,.slice pa pl pc,.slice none 0 0,.pointer y]] w (YU w nm ps nv (.pointer y)):=by
 have hk2:(k:Int)<6:=by omega
 have hmm:=@run_makeMap Tryz.prog
 go_enter func122,ntmps122
 go_upto_region 2 with (fail)
 obtain⟨wb,hwb⟩:∃wb,wb=((w.alloc (.cells #[.int .i64 k,.slice pa pl pc,.slice none 0 0,.pointer y] 178)).alloc (.cells #[.string ⟨nm.toArray⟩,.bool nv,.bool false] 219)):=⟨_,rfl⟩
 rw[<- hwb];have hwbs:wb.heap.size=w.heap.size+2:=by rw[hwb];simp
 have hbb:Below w.heap.size w wb:=by rw[hwb];exact ((Below.refl _ _).alloc (Nat.le_refl _) _).alloc (by simp) _
 have b1:wb.heap[w.heap.size]? = some (.cells #[.int .i64 k,.slice pa pl pc,.slice none 0 0,.pointer y] 178 (0,0)):=by rw[hwb];exact (Below.heap_alloc _ _ _ (by simp)).trans (heap_alloc_new w _)
 have b3:wb.heap[w.heap.size+1]? = some (.cells #[.string ⟨nm.toArray⟩,.bool nv,.bool false] 219 (0,0)):=by
  rw[hwb];have:=heap_alloc_new (w.alloc (.cells #[.int .i64 k,.slice pa pl pc,.slice none 0 0,.pointer y] 178)) (.cells #[.string ⟨nm.toArray⟩,.bool nv,.bool false] 219);simpa using this
 go_cut [4] (fun s4 wx=>∃M x12 x16,s4 = .map (some M)/\StB wx wb.heap.size x12 nm/\StB wx wb.heap.size x16 ps/\wb.heap.size<=M/\wx.ownsMap Tryz.prog 9 RV M 2 (.map (elD true true x12 x16))/\Below wb.heap.size wb wx)
 case first =>
  refine wp_region_any (by kernel_rfl) ?_;refine G8 (ElI wb (.agg #[.int .i64 k,.slice pa pl pc,.slice none 0 0,.pointer y]) w.heap.size (w.heap.size+1) (.int .i64 k) (.pointer (some ⟨3,k*3,none⟩)) (.agg #[.string ⟨nm.toArray⟩,.bool nv,.bool false]) nm (.slice pa pl pc) ps) ?hs ?he _ _ _ _ ?hc ?h0
  case hc=>decide
  case h0 =>
   refine⟨rfl,⟨rfl,rfl,rfl,Nat.le_refl _,fun _ _=>rfl⟩,?_,?_,?_,?_,undef,undef,undef,undef,undef,undef,undef,undef,undef,undef,rfl,?_⟩;all_goals simp
  case he =>
   intro l a w1 hI hr;have hall:=GB hI.sz (by kernel_rfl) hr;obtain⟨hsz,hbel,hd4,hd9,hd10,hd11,x4,x9,x10,x11,x12,x13,x14,x15,x16,x17,rfl,e1,e2,e3,e5,e6,e7,e8,e0,e10,e11⟩:=hI;have g4:=hall 4 (by decide);have g9:=hall 9 (by decide);obtain⟨M,n,rfl,m2,m3,m4⟩:=e0 (hall 0 (by decide));rw[g4,g9] at m3 m4;obtain rfl:=e11 (hall 11 (by decide));have s1:=e3 (hall 3 (by decide));have s2:=e8 (hall 8 (by decide));unfold elA
   go_wp2_with (fail)
   go_meet
   exact⟨M,x12,x16,rfl,s1,s2,m2,m4.mono m3,hbel⟩
  case hs =>
   intro l a w1 hI i hi;obtain⟨hno,haft⟩:=C3 hi;have hi12:i<12:=by
    obtain⟨_,o,ho,_⟩:=mem_ready.1 hi;exact (Array.getElem?_eq_some_iff.1 ho).1
   have hI0:=hI;obtain⟨hsz,hbel,hd4,hd9,hd10,hd11,x4,x9,x10,x11,x12,x13,x14,x15,x16,x17,rfl,e1,e2,e3,e5,e6,e7,e8,e0,e10,e11⟩:=hI;have hbel0:=hbel;have hS1:=hbb.trans (hbel.mono hbb.size);have hcase:i=0\/i=1\/i=2\/i=3\/i=4\/i=5\/i=6\/i=7\/i=8\/i=9\/i=10\/i=11:=by omega
   rcases hcase with rfl|rfl|rfl|rfl|rfl|rfl|rfl|rfl|rfl|rfl|rfl|rfl
   ·refine wpOp_step rfl fun K hK=>?_;unfold elA
    go_simp;have hb2:Below w1.heap.size w1 (w1.alloc (.map #[] 0)):=(Below.refl _ _).alloc (Nat.le_refl _) _
    have hn0:l.getD 0 false=false:=by simpa[Array.getD,hsz] using hno
    have hn4:l.getD 4 false=false:=by
     cases h:l.getD 4 false
     ·rfl
     ·have:=(hd4 h).2;rw[hn0] at this;cases this
    have hn9:l.getD 9 false=false:=by
     cases h:l.getD 9 false
     ·rfl
     ·have:=(hd9 h).2;rw[hn0] at this;cases this
    obtain⟨hsz,hbel,hd4,hd9,hd10,hd11,y4,y9,y10,y11,y12,y13,y14,y15,y16,y17,ha,e1,e2,e3,e5,e6,e7,e8,e0,e10,e11⟩:=hI0.low hb2;injection ha with ha _;injection ha with ha;simp only[List.cons.injEq,true_and,and_true] at ha;obtain⟨rfl,rfl,rfl,rfl,rfl,rfl,rfl,rfl,rfl,rfl⟩:=ha;refine hK _ _ ⟨by simp[hsz],hbel,Ao (by decide) hd4,Ao (by decide) hd9,Ao (by decide) hd10,Ao (by decide) hd11,_,_,_,_,_,_,_,_,_,_,rfl,Ac (by decide) e1,Ac (by decide) e2,Ac (by decide) e3,Ac (by decide) e5,Ac (by decide) e6,Ac (by decide) e7,Ac (by decide) e8,?_,fun h=>absurd (hd10 ((getD_set_ne _ (by decide)).symm.trans h)).2 (by rw[hn0];decide),fun h=>absurd (hd11 ((getD_set_ne _ (by decide)).symm.trans h)).2 (by rw[hn0];decide)⟩;intro _;rw[getD_set_ne false (show 0≠4 by decide),getD_set_ne false (show 0≠9 by decide),hn4,hn9];exact⟨w1.heap.size,0,rfl,by have:=hbel0.size;omega,by simp,World.ownsMap_made w1 _ _ _⟩
   ·refine wpOp_step rfl fun K hK=>?_;unfold elA
    go_simp;refine hK _ _ ⟨by simp[hsz],hbel,Ao (by decide) hd4,Ao (by decide) hd9,Ao (by decide) hd10,Ao (by decide) hd11,_,_,_,_,_,_,_,_,_,_,rfl,fun _=>rfl,Ac (by decide) e2,Ac (by decide) e3,Ac (by decide) e5,Ac (by decide) e6,Ac (by decide) e7,Ac (by decide) e8,?_,Ac (by decide) e10,Ac (by decide) e11⟩
    rw[getD_set_ne false (show 1≠4 by decide),getD_set_ne false (show 1≠9 by decide)];exact Ac (by decide) e0
   ·obtain rfl:=e1 (haft _ rfl ⟨1,.data⟩ (by simp) rfl);have hc:w1.cell? ⟨w.heap.size+1,0,none⟩=some (.string ⟨nm.toArray⟩):=by
     have:=(hbel.block (w.heap.size+1) (by omega)).trans b3;simp[World.cell?,this]
    refine wpOp_step rfl fun K hK=>?_;unfold elA
    go_simp;refine hK _ _ ⟨by simp[hsz],hbel,Ao (by decide) hd4,Ao (by decide) hd9,Ao (by decide) hd10,Ao (by decide) hd11,_,_,_,_,_,_,_,_,_,_,rfl,Ac (by decide) e1,fun _=>rfl,Ac (by decide) e3,Ac (by decide) e5,Ac (by decide) e6,Ac (by decide) e7,Ac (by decide) e8,?_,Ac (by decide) e10,Ac (by decide) e11⟩
    rw[getD_set_ne false (show 2≠4 by decide),getD_set_ne false (show 2≠9 by decide)];exact Ac (by decide) e0
   ·obtain rfl:=e2 (haft _ rfl ⟨2,.data⟩ (by simp) rfl);refine wpOp_step rfl fun K hK=>?_;unfold elA
    go_simp;refine (Hk nm).mono ?_
    rintro e w2 ⟨rfl,hv2,hb2,hs2⟩;show K _ _;obtain⟨hsz,hbel,hd4,hd9,hd10,hd11,y4,y9,y10,y11,y12,y13,y14,y15,y16,y17,ha,e1,e2,e3,e5,e6,e7,e8,e0,e10,e11⟩:=hI0.low hb2;injection ha with ha _;injection ha with ha;simp only[List.cons.injEq,true_and,and_true] at ha;obtain⟨rfl,rfl,rfl,rfl,rfl,rfl,rfl,rfl,rfl,rfl⟩:=ha;refine hK _ _ ⟨by simp[hsz],hbel,Ao (by decide) hd4,Ao (by decide) hd9,Ao (by decide) hd10,Ao (by decide) hd11,_,_,_,_,_,_,_,_,_,_,rfl,Ac (by decide) e1,Ac (by decide) e2,fun _=>⟨_,rfl,hbel0.size,hv2⟩,Ac (by decide) e5,Ac (by decide) e6,Ac (by decide) e7,Ac (by decide) e8,?_,Ac (by decide) e10,Ac (by decide) e11⟩;have hn3:l.getD 3 false=false:=by simpa[Array.getD,hsz] using hno
    have hn4:l.getD 4 false=false:=by
     cases h:l.getD 4 false
     ·rfl
     ·have:=(hd4 h).1;rw[hn3] at this;cases this
    rw[getD_set_ne false (show 3≠4 by decide),getD_set_ne false (show 3≠9 by decide),hn4];rw[hn4] at e0;exact Ac (by decide) e0
   ·have dd:=haft _ rfl ⟨3,.data⟩ (by simp) rfl;obtain⟨p,rfl,hp1,hp2⟩:=e3 dd;obtain⟨M,n,rfl,m2,m3,m4⟩:=e0 (haft _ rfl ⟨0,.data⟩ (by simp) rfl);have hni:l.getD 4 false=false:=by simpa[Array.getD,hsz] using hno
    rw[hni] at m3 m4;have hn1:n<=1:=by
     revert m3
     cases l.getD 9 false<;>simp<;>omega
    obtain⟨w2,hrun,ho2,hg2⟩:=World.ownsMap.update m4 Cd underlying109 (by unfold maxLen;omega) (Fj Sp.op_ (by decide)) (show RV (.pointer (some ⟨p,0,none⟩))=some (.held (.pointer (some ⟨p,0,none⟩)),[]) from rfl);rw[YK] at ho2;unfold Sp.op_ at hrun;have hkp:∀q,q<w1.heap.size->(∃c t f,w1.heap[q]? = some (.cells c t f))->w2.heap[q]? = w1.heap[q]?:=fun q hq hc=>hg2.block q hq (fun e=>Hq m4 hc (Option.some.inj e));have hbel2:Below wb.heap.size wb w2:=hbel.grown hg2 hbel.size (fun j hj=>by cases hj;exact m2);have e3:l.getD 3 false=true->StB w2 wb.heap.size (.pointer (some ⟨p,0,none⟩)) nm:=fun h=>(e3 h).keep hkp;have e8:=fun h=>(e8 h).keep hkp;refine wpOp_step rfl fun K hK=>?_;unfold elA
    go_simp;refine hK _ _ ⟨by simp[hsz],hbel2,fun _=>⟨getD_set_true dd,getD_set_true (haft _ rfl ⟨0,.data⟩ (by simp) rfl)⟩,Ao (by decide) hd9,Ao (by decide) hd10,Ao (by decide) hd11,_,_,_,_,_,_,_,_,_,_,rfl,Ac (by decide) e1,Ac (by decide) e2,Ac (by decide) e3,Ac (by decide) e5,Ac (by decide) e6,Ac (by decide) e7,Ac (by decide) e8,?_,Ac (by decide) e10,Ac (by decide) e11⟩
    intro _;rw[KF hsz 4 4 (by decide),if_pos rfl,getD_set_ne false (show 4≠9 by decide)];exact⟨M,n+1,rfl,m2,by simp at m3 |-; omega,ho2⟩
   ·refine wpOp_step rfl fun K hK=>?_;unfold elA
    go_simp;refine hK _ _ ⟨by simp[hsz],hbel,Ao (by decide) hd4,Ao (by decide) hd9,Ao (by decide) hd10,Ao (by decide) hd11,_,_,_,_,_,_,_,_,_,_,rfl,Ac (by decide) e1,Ac (by decide) e2,Ac (by decide) e3,fun _=>rfl,Ac (by decide) e6,Ac (by decide) e7,Ac (by decide) e8,?_,Ac (by decide) e10,Ac (by decide) e11⟩
    rw[getD_set_ne false (show 5≠4 by decide),getD_set_ne false (show 5≠9 by decide)];exact Ac (by decide) e0
   ·obtain rfl:=e5 (haft _ rfl ⟨5,.data⟩ (by simp) rfl);have hc:w1.cell? ⟨w.heap.size,1,none⟩=some (.slice pa pl pc):=by
     have:=(hbel.block w.heap.size (by omega)).trans b1;simp[World.cell?,this]
    refine wpOp_step rfl fun K hK=>?_;unfold elA
    go_simp;refine hK _ _ ⟨by simp[hsz],hbel,Ao (by decide) hd4,Ao (by decide) hd9,Ao (by decide) hd10,Ao (by decide) hd11,_,_,_,_,_,_,_,_,_,_,rfl,Ac (by decide) e1,Ac (by decide) e2,Ac (by decide) e3,Ac (by decide) e5,fun _=>rfl,Ac (by decide) e7,Ac (by decide) e8,?_,Ac (by decide) e10,Ac (by decide) e11⟩
    rw[getD_set_ne false (show 6≠4 by decide),getD_set_ne false (show 6≠9 by decide)];exact Ac (by decide) e0
   ·obtain rfl:=e6 (haft _ rfl ⟨6,.data⟩ (by simp) rfl);refine wpOp_step rfl fun K hK=>?_;unfold elA
    go_simp;refine (hS w1 hS1).mono ?_
    rintro e w2 ⟨rfl,hb2⟩;show K _ _;obtain⟨hsz,hbel,hd4,hd9,hd10,hd11,y4,y9,y10,y11,y12,y13,y14,y15,y16,y17,ha,e1,e2,e3,e5,e6,e7,e8,e0,e10,e11⟩:=hI0.low hb2;injection ha with ha _;injection ha with ha;simp only[List.cons.injEq,true_and,and_true] at ha;obtain⟨rfl,rfl,rfl,rfl,rfl,rfl,rfl,rfl,rfl,rfl⟩:=ha;refine hK _ _ ⟨by simp[hsz],hbel,Ao (by decide) hd4,Ao (by decide) hd9,Ao (by decide) hd10,Ao (by decide) hd11,_,_,_,_,_,_,_,_,_,_,rfl,Ac (by decide) e1,Ac (by decide) e2,Ac (by decide) e3,Ac (by decide) e5,Ac (by decide) e6,fun _=>rfl,Ac (by decide) e8,?_,Ac (by decide) e10,Ac (by decide) e11⟩;rw[getD_set_ne false (show 7≠4 by decide),getD_set_ne false (show 7≠9 by decide)];exact Ac (by decide) e0
   ·obtain rfl:=e7 (haft _ rfl ⟨7,.data⟩ (by simp) rfl);refine wpOp_step rfl fun K hK=>?_;unfold elA
    go_simp;refine (Hk ps).mono ?_
    rintro e w2 ⟨rfl,hv2,hb2,hs2⟩;show K _ _;obtain⟨hsz,hbel,hd4,hd9,hd10,hd11,y4,y9,y10,y11,y12,y13,y14,y15,y16,y17,ha,e1,e2,e3,e5,e6,e7,e8,e0,e10,e11⟩:=hI0.low hb2;injection ha with ha _;injection ha with ha;simp only[List.cons.injEq,true_and,and_true] at ha;obtain⟨rfl,rfl,rfl,rfl,rfl,rfl,rfl,rfl,rfl,rfl⟩:=ha;refine hK _ _ ⟨by simp[hsz],hbel,Ao (by decide) hd4,Ao (by decide) hd9,Ao (by decide) hd10,Ao (by decide) hd11,_,_,_,_,_,_,_,_,_,_,rfl,Ac (by decide) e1,Ac (by decide) e2,Ac (by decide) e3,Ac (by decide) e5,Ac (by decide) e6,Ac (by decide) e7,fun _=>⟨_,rfl,hbel0.size,hv2⟩,?_,Ac (by decide) e10,Ac (by decide) e11⟩;have hn3:l.getD 8 false=false:=by simpa[Array.getD,hsz] using hno
    have hn4:l.getD 9 false=false:=by
     cases h:l.getD 9 false
     ·rfl
     ·have:=(hd9 h).1;rw[hn3] at this;cases this
    rw[getD_set_ne false (show 8≠4 by decide),getD_set_ne false (show 8≠9 by decide),hn4];rw[hn4] at e0;exact Ac (by decide) e0
   ·have dd:=haft _ rfl ⟨8,.data⟩ (by simp) rfl;obtain⟨p,rfl,hp1,hp2⟩:=e8 dd;obtain⟨M,n,rfl,m2,m3,m4⟩:=e0 (haft _ rfl ⟨0,.data⟩ (by simp) rfl);have hni:l.getD 9 false=false:=by simpa[Array.getD,hsz] using hno
    rw[hni] at m3 m4;have hn1:n<=1:=by
     revert m3
     cases l.getD 4 false<;>simp<;>omega
    obtain⟨w2,hrun,ho2,hg2⟩:=World.ownsMap.update m4 Cd underlying109 (by unfold maxLen;omega) (Fj Sp.BE (by decide)) (show RV (.pointer (some ⟨p,0,none⟩))=some (.held (.pointer (some ⟨p,0,none⟩)),[]) from rfl);rw[YJ] at ho2;unfold Sp.BE at hrun;have hkp:∀q,q<w1.heap.size->(∃c t f,w1.heap[q]? = some (.cells c t f))->w2.heap[q]? = w1.heap[q]?:=fun q hq hc=>hg2.block q hq (fun e=>Hq m4 hc (Option.some.inj e));have hbel2:Below wb.heap.size wb w2:=hbel.grown hg2 hbel.size (fun j hj=>by cases hj;exact m2);have e3:=fun h=>(e3 h).keep hkp;have e8:l.getD 8 false=true->StB w2 wb.heap.size (.pointer (some ⟨p,0,none⟩)) ps:=fun h=>(e8 h).keep hkp;refine wpOp_step rfl fun K hK=>?_;unfold elA
    go_simp;refine hK _ _ ⟨by simp[hsz],hbel2,Ao (by decide) hd4,fun _=>⟨getD_set_true dd,getD_set_true (haft _ rfl ⟨0,.data⟩ (by simp) rfl)⟩,Ao (by decide) hd10,Ao (by decide) hd11,_,_,_,_,_,_,_,_,_,_,rfl,Ac (by decide) e1,Ac (by decide) e2,Ac (by decide) e3,Ac (by decide) e5,Ac (by decide) e6,Ac (by decide) e7,Ac (by decide) e8,?_,Ac (by decide) e10,Ac (by decide) e11⟩
    intro _;rw[KF hsz 9 9 (by decide),if_pos rfl,getD_set_ne false (show 9≠4 by decide)];exact⟨M,n+1,rfl,m2,by simp at m3 |-; omega,ho2⟩
   ·refine wpOp_step rfl fun K hK=>?_;unfold elA
    go_simp;refine hK _ _ ⟨by simp[hsz],hbel,Ao (by decide) hd4,Ao (by decide) hd9,fun _=>⟨getD_set_true (haft _ rfl ⟨9,.data⟩ (by simp) rfl),getD_set_true (haft _ rfl ⟨0,.data⟩ (by simp) rfl)⟩,Ao (by decide) hd11,_,_,_,_,_,_,_,_,_,_,rfl,Ac (by decide) e1,Ac (by decide) e2,Ac (by decide) e3,Ac (by decide) e5,Ac (by decide) e6,Ac (by decide) e7,Ac (by decide) e8,?_,fun _=>rfl,Ac (by decide) e11⟩
    rw[getD_set_ne false (show 10≠4 by decide),getD_set_ne false (show 10≠9 by decide)];exact Ac (by decide) e0
   ·obtain rfl:=e10 (haft _ rfl ⟨10,.data⟩ (by simp) rfl);refine wpOp_step rfl fun K hK=>?_;unfold elA
    go_simp;refine hK _ _ ⟨by simp[hsz],hbel,Ao (by decide) hd4,Ao (by decide) hd9,Ao (by decide) hd10,fun _=>⟨getD_set_true (haft _ rfl ⟨10,.data⟩ (by simp) rfl),getD_set_true (haft _ rfl ⟨0,.phase⟩ (by simp) rfl)⟩,_,_,_,_,_,_,_,_,_,_,rfl,Ac (by decide) e1,Ac (by decide) e2,Ac (by decide) e3,Ac (by decide) e5,Ac (by decide) e6,Ac (by decide) e7,Ac (by decide) e8,?_,Ac (by decide) e10,fun _=>rfl⟩
    rw[getD_set_ne false (show 11≠4 by decide),getD_set_ne false (show 11≠9 by decide)];exact Ac (by decide) e0
 case rest =>
  obtain⟨M,x12,x16,rfl,hx,hy,hM,ho,hbc⟩:=hcut;have hbs:=hbc.size;have hin:∀j,j<wb.heap.size->j≠M:=fun j hj e=>by omega
  have g1:=(hbc.block (w.heap.size+1) (by omega)).trans b3;have g2:=(hbc.block w.heap.size (by omega)).trans b1;have q1:wc.cell? ⟨w.heap.size+1,1,none⟩=some (.bool nv):=by simp[World.cell?,g1]
  have q2:wc.cell? ⟨w.heap.size+1,2,none⟩=some (.bool false):=by simp[World.cell?,g1]
  have q3:wc.cell? ⟨w.heap.size,3,none⟩=some (.pointer y):=by simp[World.cell?,g2]
  have HB:=Ab (hbb.trans (hbc.mono hbb.size));have hle:w.heap.size+2<=wb.heap.size:=by omega
  cases nv with
  | false =>
   have HX:=Ab hx;have HY:=Ab hy;have HO:=Ab ho;clear hx hy ho hbc g1 g2 hbb b1 b3 hwb hmm hS c0 c1 c2 hin
   go_wp2_with (fail)
   go_ret;have hnew:∀o:Obj,Below wc.heap.size wc (wc.alloc o):=fun o=>(Below.refl _ _).alloc (Nat.le_refl _) _
   refine⟨wc.heap.size,M,x12,x16,rfl,heap_alloc_new wc _,by omega,by omega,?_,?_,(Aa HB).trans ((hnew _).mono (Aa HB).size),?_⟩
   ·exact ((Aa HX).keep fun p hp _=>(hnew _).block p hp).mono (by omega)
   ·exact ((Aa HY).keep fun p hp _=>(hnew _).block p hp).mono (by omega)
   ·rw[if_neg (by decide),List.append_nil];exact (AJ (Aa HO) ((hnew _).block M (B0 (Aa HO)))).mono (by omega)
  | true =>
   obtain⟨w3,hrun,ho3,hg3⟩:=World.ownsMap.update ho Cd underlying109 (by unfold maxLen;omega) (Fj Sp.Bg (by decide)) (show RV (.pointer y)=some (.held (.pointer y),[]) from rfl);rw[YI] at ho3;unfold Sp.Bg at hrun;have hkp:∀q,q<wc.heap.size->(∃c t f,wc.heap[q]? = some (.cells c t f))->w3.heap[q]? = wc.heap[q]?:=fun q hq hc=>hg3.block q hq (fun e=>Hq ho hc (Option.some.inj e));have q5:w3.cell? ⟨w.heap.size+1,2,none⟩=some (.bool false):=by
    have:=(hg3.block (w.heap.size+1) (by omega) (fun e=>hin _ (by omega) (Option.some.inj e))).trans g1;simp[World.cell?,this]
   have HX:=Ab (hx.keep hkp);have HY:=Ab (hy.keep hkp);have HO:=Ab ho3;have HB3:=Ab ((Aa HB).grown hg3 (Aa HB).size (fun j hj=>by cases hj;omega));have hs3:=hg3.size;clear hx hy ho ho3 hg3 hkp hbc g1 g2 hbb b1 b3 hwb hmm hS c0 c1 c2 hin
   go_wp2_with (fail)
   go_ret;have hnew:∀o:Obj,Below w3.heap.size w3 (w3.alloc o):=fun o=>(Below.refl _ _).alloc (Nat.le_refl _) _
   refine⟨w3.heap.size,M,x12,x16,rfl,heap_alloc_new w3 _,by omega,by omega,?_,?_,(Aa HB3).trans ((hnew _).mono (Aa HB3).size),?_⟩
   ·exact ((Aa HX).keep fun p hp _=>(hnew _).block p hp).mono (by omega)
   ·exact ((Aa HY).keep fun p hp _=>(hnew _).block p hp).mono (by omega)
   ·rw[if_pos rfl];exact AJ (Aa HO) ((hnew _).block M (B0 (Aa HO)))
end
end Go.Proofs.YtdpomdelmdofmaaGreatDoor
