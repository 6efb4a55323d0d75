import Derived.Test.YtdpomdelmdofmaaGreatDoorUnd36
namespace Go.Proofs.YtdpomdelmdofmaaGreatDoor
open Go.Proofs.Tryz
section
set_option maxRecDepth 100000
set_option maxHeartbeats 2000000
open Go.RowKit Go.Maps
noncomputable def Sp.mrgX(v q:Sp.V):Except (Nat×Nat) (Sp.V×List Sp.Opn):=if 20000<(Sp.can top (Sp.mrg top (some v) [] q).1).length then .error (4,0) else .ok (Sp.mrg top (some v) [] q)
section
variable{w:World}{D R:Nat}{wp:Option Addr}{iv:Value}{ch:Bool}{Tb T a:Sp.A}{Mb M F:Nat->Prop}{wb:World}{v q:Sp.V}{d x:Int}{p2:Option Addr}
theorem Qo(h:JS w D R wp (.slice none 0 0) iv ch Tb Mb wb T a v M [])(hgv:Sp.gd d x top 1 v)(hsv:Sp.sz top v<=200000)(hq:Rep top F w (.pointer p2) q)(hF:∀k,F k->M k)(hgq:Sp.gd d x top 1 q)(hsq:Sp.sz top q<=200000) :
  Calls Tryz.prog 120 #[.pointer (some ⟨D,0,none⟩),plV (.slice none 0 0) R [] 0,.pointer p2] w fun e w'=>e = .returned (.tuple #[]) /\ ∃wp' jn' T' a' M',JS w' D R wp' jn' iv ch Tb Mb wb T' a' (Sp.mrg top (some v) [] q).1 M' (Sp.mrg top (some v) [] q).2/\JEx M M' w w':=by
 obtain⟨g,hT1⟩:=h.t.one;have hstr:=h.t.str;have hst:AV (Sp.nd R g (.slice [a] [])) 0 [] a:=Or.inl ⟨R,g,[a],rfl,rfl⟩;have H:ID d x top:=Lo top;refine (@H (top+1) [] w D 0 (.pointer (some ⟨R,0,none⟩)) (.slice none 0 0) iv ch Tb T (Sp.nd R g (.slice [a] [])) (some a) Mb M F wb [] [] none 0 0 [] (.pointer p2) q 1 rfl (Nat.le_refl _) h.j (by rw[hT1];rfl) hst ⟨by rw[Sp.B2];show 1+1<=1000000000000;omega,by decide⟩ (by simp only[List.length_nil];omega) (Or.inl ⟨rfl,none,0,rfl,by unfold maxLen;omega⟩) (Nat.le_refl _) (fun _=>⟨0,rfl⟩) hq hF (by omega) hgq (by omega) (fun c hc=>by injection hc with hc;subst hc;rw[hstr];exact⟨hgv,by omega⟩)).mono ?_;rintro e w' ⟨rfl,c',hend,hc⟩;rw[show (some a).map (Sp.str top)=some v by rw[<- hstr];rfl] at hend hc;exact⟨rfl,JS.done (js:=(Sp.mrg top (some v) [] q).2) hend rfl hc⟩
theorem Qw(h:JS w D R wp (.slice none 0 0) iv ch Tb Mb wb T a v M [])(hT:Af w)(hM0:∀k,k<NG->M k)(hMb:∀k,Mb k->k≠D/\k<w.heap.size)(hd:d<=100)
  (hgv:Sp.gd d x top 1 v) (hsv:Sp.sz top v<=200000) (hq:Rep top F w (.pointer p2) q) (hF:∀k,F k->M k) (hgq:Sp.gd d x top 1 q) (hsq:Sp.sz top q<=200000) :
  Calls Tryz.prog 85 #[.pointer (some ⟨D,0,none⟩),.pointer p2] w fun e w'=>∃c:Nat,e = .returned (.int .i64 c)/\D5 D R iv ch Tb Mb wb M d x 100000 w (Sp.mrgX v q) (.returned (.tuple #[.int .i64 0,.int .i64 c])) w':=by
 have HM:=Ab (Qo h hgv hsv hq hF hgq hsq);obtain⟨q1,q2,q3⟩:=Sp.Gc (d:=d) (x:=x) top 1 (some v) [] q 200000 (by omega) (fun u hu=>by injection hu with hu;subst hu;exact⟨hgv,hsv⟩) hgq;have q4:Sp.sz top (Sp.mrg top (some v) [] q).1<=400000:=by
  have h1:Sp.sz top (Sp.mrg top (some v) [] q).1<=Sp.sz top v+Sp.sz top q:=Sp.JZ (d:=d) (x:=x) top 1 (some v) [] q (by omega) (fun u hu=>by injection hu with hu;subst hu;exact hgv) hgq;omega
 have HJS:=Ab h;have hdb:=h.t.db;have c0:=hdb.c0;have HT:=Ab hT;have HM0:=Ab hM0;have HMB:=Ab hMb;have HG:=Ab q1;have HO:=Ab (fun o (ho:o∈(Sp.mrg top (some v) [] q).2)=>Sp.Xz (q2 o ho) (by omega) (by simp only[List.map_nil,List.sum_nil];omega));have HL:=Ab (show (Sp.mrg top (some v) [] q).2.length<=200000 by omega);have HSZ:=Ab q4;obtain⟨v1,hv1⟩:∃v1,v1=(Sp.mrg top (some v) [] q).1:=⟨_,rfl⟩
 obtain⟨j1,hj1⟩:∃j1,j1=(Sp.mrg top (some v) [] q).2:=⟨_,rfl⟩
 have HX:=Ab (show Sp.mrgX v q=if 20000<(Sp.can top v1).length then .error (4,0) else .ok (v1,j1) by unfold Sp.mrgX;rw[hv1,hj1]);rw[<- hv1] at HM HG HSZ;rw[<- hj1] at HM HO HL;obtain⟨r,hr⟩:∃r,r=Sp.mrgX v q:=⟨_,rfl⟩
 rw[<- hr] at HX |-;obtain⟨Q,hQ⟩:∃Q:Ending->World->Prop,Q=fun e w'=>∃c:Nat,e = .returned (.int .i64 c)/\D5 D R iv ch Tb Mb wb M d x 100000 w r (.returned (.tuple #[.int .i64 0,.int .i64 c])) w':=⟨_,rfl⟩
 rw[<- hQ];have HQ:=Ab hQ;clear h hT hM0 hMb hgv hsv hq hF hgq hsq q1 q2 q3 q4 hdb hv1 hj1 hr hQ
 go_enter func85,ntmps85
 go_wp2_with (fail);refine (Aa HM).mono ?_
 rintro e w1 ⟨rfl,wp1,jn1,T1,a1,M1,s1,s2⟩;have HJ:=Ab s1;have HX1:=Ab s2;have HIL:=Ab (J9 (d:=d) (x:=x) (B:=400000) s1 ((Aa HT).jex (Aa HM0) s2) ⟨Aa HG,by omega,Aa HSZ⟩ (by omega));clear s1 s2
 go_wp2_with (fail);refine (Aa HIL).mono ?_
 rintro e w2 ⟨rfl,hb2⟩;have HB2:=Ab hb2;clear hb2 HIL;by_cases hlong:20000<(Sp.can top v1).length
 ·have HTB:=Ab (Fk (d:=d) (x:=x) (n:=100000) (c:=4) (i:=0) ((Aa HJ).bel (Aa HB2)) ((Aa HX1).trans ((Aa HJ).j.bel (Aa HB2)).2) (Aa HMB));have hr:=Aa HX;rw[if_pos hlong] at hr;have hdec:=decide_eq_true hlong;rw[hdec];clear hdec hlong HX
  go_wp2_with (fail);refine (Aa HTB).mono ?_
  rintro e w3 ⟨rfl,hp⟩;have HP:=Ab hp;clear hp HTB
  go_wp2_with (fail);show Q (.returned (.int .i64 4)) _
  rw[Aa HQ];refine⟨4,rfl,?_⟩;rw[hr];exact Aa (Aa HP)
 ·have HK:=Ab (M7 (((Aa HJ).bel (Aa HB2)).j) (by have:=Aa HL;omega));have hr:=Aa HX;rw[if_neg hlong] at hr;have HSH:=Ab (show (Sp.can top v1).length<=20000 by omega);have hdec:=decide_eq_false hlong;rw[hdec];clear hdec hlong HX
  go_wp2_with (fail);refine (Aa HK).mono ?_
  rintro e w3 ⟨rfl,iv',k1,k2,k3⟩;have HP:=Ab (show D5 D R iv ch Tb Mb wb M d x 100000 w (.ok (v1,j1)) (.returned (.tuple #[.int .i64 0,.int .i64 0])) w3 from⟨rfl,wp1,jn1,T1,a1,M1,w2,iv',(Aa HJ).bel (Aa HB2),(Aa HX1).trans ((Aa HJ).j.bel (Aa HB2)).2,k1,k2,k3,⟨Aa HG,by omega,by have:=(Sp.CO (Aa HG)).2;have:=Aa HSH;omega⟩,by have:=Aa HSH;omega,Aa HO,by have:=Aa HL;omega⟩);clear k1 k2 k3 HK
  go_wp2_with (fail);show Q (.returned (.int .i64 0)) _
  rw[Aa HQ];refine⟨0,rfl,?_⟩;rw[hr];exact Aa HP
end
end

section
set_option maxRecDepth 100000
set_option maxHeartbeats 2000000
open Go.RowKit Go.Maps
def Yh(F:Nat->Prop)(w W0:World)(D:Nat)(d e:Int)(v:Sp.V×Sp.Inv)(q:Sp.V)(x:Ending)(w3:World):Prop:=∃ (c:Nat) (v':Sp.V×Sp.Inv),x = .returned (.int .i64 c)/\w3.heap[w.heap.size]? = W0.heap[w.heap.size]? /\ As F w w3 /\
 Bn w3 (FN F (w.heap.size+1)) (.pointer (some ⟨D,0,none⟩)) d e (some v')/\Sp.mergeA v q=((c,0,[]),v')
theorem PS{w W0 w9:World}{F:Nat->Prop}{D R lo:Nat}{wp:Value}{d e:Int}{v:Sp.V×Sp.Inv}{q:Sp.V}{p2:Option Addr}(hd:En w F D R wp d e v)(hF:∀k,F k->NG<=k/\k<w.heap.size/\k<lo)(hW:Below w.heap.size w W0)(hWs:W0.heap.size=w.heap.size+1)(hb:Below W0.heap.size W0 w9)(hT:Af w9)
  (hq:Rep top (fun k=>lo<=k) w9 (.pointer p2) q) (hgq:Sp.gd d e top 1 q) (hlq:(Sp.can top q).length<=80000) (hd2:d<=20) :
  Calls Tryz.prog 85 #[.pointer (some ⟨D,0,none⟩),.pointer p2] w9 (Yh F w W0 D d e v q):=by
 obtain⟨T,a,iv,h1,h2,h3⟩:=hd.ex;have fD:=hd.fD;have hlen:=hd.len;have hgd:=hd.gd;have h1':C8 W0 D R wp (.slice none 0 0) iv v.2.isSome T a v.1:=h1.move (hW.block D h1.db.lt) fun k hk=>hW.block k (h1.tr.lt k hk);have h3':Ic W0 (fun k=>F k/\k≠D/\k ∉ Sp.fp (top+1) T) iv v.2:=h3.move fun k hk hkl=>⟨hW.block k hkl,hk⟩
 obtain⟨wp0,rfl,hJ⟩:=IK h1' hb;have hTl:=h1.tr.lt;have hDl:=h1.db.lt;have hbs:=hb.size;have hng:=hT.ng;refine (Qw (d:=d) (x:=e) hJ hT (fun k hk=>⟨?_,fun hm=>?_,fun e=>?_⟩) (fun k hk=>⟨hk.2.2,by omega⟩) (by omega) hgd (by have:=(Sp.CO hgd).2;omega) (hq.move (F':=fun k=>lo<=k/\k<w9.heap.size) fun k hk hkl=>⟨rfl,hk,hkl⟩) (fun k hk=>⟨hk.2,fun hm=>?_,fun e=>?_⟩) hgq (by have:=(Sp.CO hgq).2;omega)).mono ?_
 ·omega
 ·have:=(hF k (h2 k hm)).1;omega
 ·have:=(hF k (e▸fD)).1;omega
 ·have:=(hF k (h2 k hm)).2.2;omega
 ·have:=(hF k (e▸fD)).2.2;omega
 ·rintro x w3 ⟨c,rfl,hp⟩;have hkeep:∀k,k<w.heap.size -> ¬ F k->k<W0.heap.size/\k ∉ Sp.fp (top+1) T/\k≠D:=fun k hk hx=>⟨by omega,fun hm=>hx (h2 k hm),fun e=>hx (e▸fD)⟩
  have hq:w.heap.size<W0.heap.size/\w.heap.size ∉ Sp.fp (top+1) T/\w.heap.size≠D:=⟨by omega,fun hm=>by have:=hTl _ hm;omega,by omega⟩
  unfold Sp.mrgX at hp;by_cases hlong:20000<(Sp.can top (Sp.mrg top (some v.1) [] q).1).length
  ·rw[if_pos hlong] at hp;obtain⟨e1,p1,p2,p3,p4,p5,p6⟩:=hp;injection e1 with e1;injection e1 with e1;obtain rfl:c=4:=by
    have h:=congrArg (fun a:Array Value=>a[1]?) e1;simp at h;omega
   refine⟨4,v,rfl,p2.held _ hq,⟨p3.trans (hb.os.trans hW.os),p4.trans (hb.tape.trans hW.tape),p5.trans (hb.output.trans hW.output),by have:=hW.size;omega,fun k hk hx=>(p2.held k (hkeep k hk hx)).trans (hW.block k hk)⟩,?_,by unfold Sp.mergeA;rw[if_pos hlong]⟩;exact JR h1' rfl h2 h3' fD hlen hgd (fun k hk _=>by have:=(hF k hk).2.1;omega) (by omega) p2 p1
  ·rw[if_neg hlong] at hp;obtain⟨e1,wp',jn,T2,a2,M',wk,iv',s1,s2,s3,s4,s5,s6,s7,s8,s9⟩:=hp;injection e1 with e1;injection e1 with e1;obtain rfl:c=0:=by
    have h:=congrArg (fun a:Array Value=>a[1]?) e1;simp at h;omega
   have hM:∀k,k<W0.heap.size/\k ∉ Sp.fp (top+1) T/\k≠D->w3.heap[k]? = W0.heap[k]?:=fun k hk=>by
    have h4:=s2.kept k ⟨by omega,hk.2⟩;exact (s5.block k (by have:=s2.size;omega) hk.2.2).trans (h4.2.trans (hb.block k hk.1))
   refine⟨0,((Sp.mrg top (some v.1) [] q).1,some (Sp.mrg top (some v.1) [] q).2.reverse),rfl,hM _ hq,⟨s5.os.trans (s2.os.trans (hb.os.trans hW.os)),s5.tape.trans (s2.tape.trans (hb.tape.trans hW.tape)),s5.output.trans (s2.output.trans (hb.output.trans hW.output)),by have:=hW.size;have:=s2.size;have:=s5.size;omega,fun k hk hx=>(hM k (hkeep k hk hx)).trans (hW.block k hk)⟩,?_,by unfold Sp.mergeA;rw[if_neg hlong]⟩;refine JQ (F:=F) (B:=w.heap.size+1) (fun k hk=>⟨h2 k hk,by have:=hTl k hk;omega⟩) ⟨fD,by omega⟩ (by omega) s1 s3 s4 s5 s7 s6.gd (Sp.La (d:=d) (x:=e) (fun o ho=>s8 o (List.mem_reverse.1 ho)) ?_) fun o ho=>⟨by have:=(s8 o (List.mem_reverse.1 ho)).1;omega,fun h=>⟨_,_,((s8 o (List.mem_reverse.1 ho)).2 h).gd,((s8 o (List.mem_reverse.1 ho)).2 h).dd⟩⟩
   rw[List.length_reverse];exact Nat.le_trans s9 (by decide)
theorem PD{S lo:Nat}{d e n:Int}{p:Value}{v:Sp.V×Sp.Inv}{F:Nat->Prop}{s:Sp.By}{q:Sp.V}{p2:Option Addr}{w:World}(hcfg:Sp.cfg d e n=true)(hF:∀k,F k->NG<=k/\k≠S/\k<lo)(hS:SB w S d e n p)(hD:Bn w F p d e (some v))(hT:Af w)
  (hr:Sp.readTo s d e=(0,some q)) (hq:Tr top lo w (.pointer p2) q) :
  Calls Tryz.prog 60 #[.pointer (some ⟨S,0,none⟩),.pointer p2] w (Ct F p d e (Sp.mergeA v q) w):=by
 obtain⟨hd1,hd2⟩:1<=d/\d<=20:=by
  unfold Sp.cfg Sp.inB at hcfg;simp at hcfg;omega
 obtain⟨D,R,wp,rfl,hdw⟩:=hD;have hdw':=hdw.move (F':=fun k=>F k/\k<w.heap.size) (fun k h1 h2=>⟨rfl,h1,h2⟩);obtain⟨W0,hW0⟩:∃W0,W0=w.alloc (.cells #[.int .i64 0,.int .i64 0,.string ⟨#[]⟩] 46):=⟨_,rfl⟩
 have hb0:Below w.heap.size w W0:=by rw[hW0];exact (Below.refl _ _).alloc (Nat.le_refl _) _
 have hs0:W0.heap.size=w.heap.size+1:=by rw[hW0];simp
 have hab0:AB W0 w.heap.size:=by rw[hW0];exact AB.new w
 have HM:=Ab (PS hdw' (fun k hk=>⟨(hF k hk.1).1,hk.2,(hF k hk.1).2.2⟩) hb0 hs0 (Below.refl _ _) (hT.below (hb0.mono hT.ng)) (hq.rep.bel hb0) (CI hr) (F7 hr top) hd2);have HAB0:=Ab hab0;have hS0:=hS.low hb0;have c3:=hS0.c3;obtain⟨RR,hRR⟩:∃RR,RR=Sp.mergeA v q:=⟨_,rfl⟩
 rw[<- hRR];have HRR:=Ab hRR;have HW0:=Ab hW0;rw[hW0] at c3;clear hcfg hF hS hdw hdw' hT hb0 hs0 hab0 hS0 hRR hW0 hr hq
 go_enter func60,ntmps60
 go_wp2_with (fail);rw[<- Aa HW0]
 refine (Aa HM).mono ?_;rintro x w3 ⟨c,v',rfl,q1,q2,q3,q4⟩;have HEND:=Ab (show As (fun k=>F k/\k<w.heap.size) w w3/\Bn w3 (FN (fun k=>F k/\k<w.heap.size) (w.heap.size+1)) (.pointer (some ⟨D,0,none⟩)) d e (some v')/\RR=((c,0,[]),v') from⟨q2,q3,(Aa HRR).trans q4⟩);have a3:AB w3 w.heap.size:=q1.trans (Aa HAB0);have g0:=a3.c0;have g1:=a3.c1;have g2:=a3.c2;have z:=a3.fz;clear q1 q2 q3 q4 a3 HM c3
 go_wp2_with (fail);refine bodyPost_ret (v:=Ap (c,0,[])) (by simp[results,results60,go_sem,Ap,g0,g1,g2]) rfl ?_
 obtain⟨q2,q3,q4⟩:=Aa HEND;rw[q4];exact Kl _ _ _ q2 q3
theorem TQ:KR:=fun _ _ _ _ _ _ _ _ _ _ _ _ hc hF hS hD hT hr hq=>PD hc hF hS hD hT hr hq
end

section
set_option maxRecDepth 100000
set_option maxHeartbeats 16000000
open Go.RowKit Go.Maps
theorem Ld(b:Bool)(t p:Sp.By):Plain (Sp.us1 b t p):=by
 intro o ho;simp only[Sp.us1,List.mem_cons,List.not_mem_nil,or_false] at ho;rcases ho with rfl|rfl|rfl|rfl|rfl
 ·exact Or.inl (Or.inl (show (1:Int)<3 by decide))
 ·exact Or.inl (Or.inl (show (2:Int)<3 by decide))
 ·cases b
  ·exact GN _ _
  ·exact Or.inr (Or.inr (Or.inr (Or.inl ⟨rfl,TQ⟩)))
 ·exact Or.inl (Or.inl (show (2:Int)<3 by decide))
 ·exact IQ _ _
theorem Lc(b:Bool)(t p u:Sp.By):Plain (Sp.us2 b t p u):=by
 intro o ho;rcases List.mem_append.1 ho with ho|ho
 ·exact Ld b t p o ho
 ·simp only[List.mem_cons,List.not_mem_nil,or_false] at ho;rcases ho with rfl|rfl|rfl
  ·exact GN _ _
  ·exact Or.inl (Or.inl (show (2:Int)<3 by decide))
  ·exact IQ _ _
theorem Rk(b:Bool)(t p u v:Sp.By):Plain (Sp.us3 b t p u v):=by
 intro o ho;rcases List.mem_append.1 ho with ho|ho
 ·exact Lc b t p u o ho
 ·simp only[List.mem_cons,List.not_mem_nil,or_false] at ho;rcases ho with rfl|rfl
  ·exact GN _ _
  ·exact Or.inl (Or.inl (show (2:Int)<3 by decide))
theorem QE{a b:Int}(ha0:-9223372036854775808<=a)(ha1:a<=9223372036854775807)(hb0:-9223372036854775808<=b)(hb1:b<=9223372036854775807)(tb pb:ByteArray)(m:Bool)(w:World)(hT:Af w) :
  Calls Tryz.prog 11 #[.int .i64 a,.int .i64 b,.string tb,.string pb,.bool m] w fun x w'=>x = .returned (.bool true)/\Below w.heap.size w w':=by
 obtain⟨t,rfl⟩:∃t:Sp.By,tb=⟨t.toArray⟩:=⟨tb.data.toList,by simp⟩
 obtain⟨p,rfl⟩:∃p:Sp.By,pb=⟨p.toArray⟩:=⟨pb.data.toList,by simp⟩
 have HT:=Ab hT;have hng:=hT.ng;clear hT
 go_enter func11,ntmps11
 go_wp2_with (fail);refine (MN w (Aa HT)).mono ?_
 rintro x w1 ⟨rfl,hb1'⟩;have HB1:=Ab hb1';clear hb1'
 go_wp2_with (fail);refine (UR a 400 b ha0 ha1 (by omega) (by omega) hb0 hb1 w1).mono ?_
 rintro x w2 ⟨⟨d,e,n,hc,rfl⟩,hb2⟩;have HC:=Ab hc;have HB2:=Ab ((Aa HB1).trans (hb2.mono (Aa HB1).size));clear hb2 hc HB1
 go_upto_region 3 with (fail)
 obtain⟨wb,hwb⟩:∃wb,wb=w2.alloc (.cells #[.int .i64 d,.int .i64 e,.int .i64 n] 23):=⟨_,rfl⟩
 rw[<- hwb];have hz:wb.heap[w2.heap.size]? = some (.cells #[.int .i64 d,.int .i64 e,.int .i64 n] 23 (0,0)):=by rw[hwb];exact heap_alloc_new w2 _
 have hzl:w2.heap.size<wb.heap.size:=(Array.getElem?_eq_some_iff.1 hz).1;obtain⟨Z,hZ⟩:∃Z,Z=w2.heap.size:=⟨_,rfl⟩
 rw[<- hZ] at hz hzl |-;have hbw:Below w.heap.size w wb:=by rw[hwb];exact (Aa HB2).alloc (Aa HB2).size _
 have HZ:=Ab (show Z<wb.heap.size /\ ∀w0,Below wb.heap.size wb w0->w0.cell? ⟨Z,0,none⟩=some (.int .i64 d)/\w0.cell? ⟨Z,1,none⟩=some (.int .i64 e)/\w0.cell? ⟨Z,2,none⟩=some (.int .i64 n) from⟨hzl,fun w0 hb=>by
  have h1:=(hb.block Z hzl).trans hz;refine⟨?_,?_,?_⟩<;>simp[World.cell?,h1]⟩)
 have HBW:=Ab hbw;clear hz hzl hwb hbw HB2 hZ;obtain⟨M,hM⟩:∃M,M=m:=⟨_,rfl⟩
 cases m;all_goals (
  go_wp2_with (fail);refine (Br 1 _ _ _).mono ?_
  rintro x wa1 ⟨rfl,hx1⟩
  go_wp2_with (fail);refine (Br 2 _ _ _).mono ?_
  rintro x wa2 ⟨rfl,hx2⟩
  go_wp2_with (fail);refine (Br _ _ _ _).mono ?_
  rintro x wa3 ⟨rfl,hx3⟩
  go_wp2_with (fail);refine (Br 2 _ _ _).mono ?_
  rintro x wa4 ⟨rfl,hx4⟩
  go_wp2_with (fail);refine (Br 7 _ _ _).mono ?_
  rintro x wa5 ⟨rfl,hx5⟩;have HB4:=Ab (show Below wb.heap.size wb wa5 from (((hx1.trans (hx2.mono hx1.size)).trans (hx3.mono (Nat.le_trans hx1.size hx2.size))).trans (hx4.mono (Nat.le_trans (Nat.le_trans hx1.size hx2.size) hx3.size))).trans (hx5.mono (Nat.le_trans (Nat.le_trans (Nat.le_trans hx1.size hx2.size) hx3.size) hx4.size)));clear hx1 hx2 hx3 hx4 hx5
  go_upto_region 7 with (fail)
  obtain⟨w5,hw5⟩:∃w5,w5=wa5.alloc (.cells #[.int .i64 1,.string ⟨t.toArray⟩,.string ⟨#[]⟩,.int .i64 2,.string ⟨#[]⟩,.string ⟨#[]⟩,.int .i64 (if M then 6 else 5),.string ⟨p.toArray⟩,.string ⟨#[]⟩,.int .i64 2,.string ⟨#[]⟩,.string ⟨#[]⟩,.int .i64 7,.string ⟨#[]⟩,.string ⟨#[]⟩] 49):=⟨_,rfl⟩
  have hown:Own w5 wb.heap.size (.slice (some ⟨wa5.heap.size,0,none⟩) 5 5) 5 (Sp.us1 M t p):=by rw[hw5];exact Own.new (Aa HB4).size rfl (by decide) rfl
  have hb5:Below wb.heap.size wb w5:=by rw[hw5];exact (Aa HB4).alloc (Aa HB4).size _
  rw[hM] at hw5;first|rw[if_pos rfl] at hw5|rw[if_neg (by decide)] at hw5
  rw[<- hw5];obtain⟨g1,hg1⟩:∃g1,g1=wa5.heap.size:=⟨_,rfl⟩
  rw[<- hg1] at hown |-;have HOWN:=Ab hown;have HB5:=Ab hb5;obtain⟨z0,z1,z2⟩:=(Aa HZ).2 w5 hb5;clear hown hb5 HB4 hw5 hg1;have HLAY:=Ab (show ∀w9,Below wb.heap.size wb w9->Af w9 from fun w9 h=>(Aa HT).below (((Aa HBW).trans (h.mono (Aa HBW).size)).mono hng))
  go_wp2_with (fail);refine (Own.run (d:=d) (e:=e) (n:=n) (Aa HOWN) (Ld M t p) (by decide) (by decide) (Aa HLAY _ (Aa HB5))).mono ?_
  rintro x w6 ⟨A,cs,rfl,hA,hrow,hans,hb6⟩;have hlA:A<w6.heap.size:=(Array.getElem?_eq_some_iff.1 hrow).1;obtain⟨hsz,hc9⟩:=hans;have hcell:∀j,w6.cell? ⟨A,j,none⟩=cs[j]?:=fun j=>by simp[World.cell?,hrow]
  have HB6:=Ab ((Aa HB5).trans (hb6.mono (Aa HB5).size));have HO6:=Ab ((Aa HOWN).bel hb6);have FIN:=Ab (show ∀w9,Below wb.heap.size wb w9->Below w.heap.size w w9 from fun w9 h=>(Aa HBW).trans (h.mono (Aa HBW).size));obtain⟨i0,hi0,hz0,hz1,hzz⟩:=info_parts Uf;have HRA:=Ab (show w6.heap[A]? = some (.cells cs 46 (0,0))/\A≠g1 from⟨hrow,by have:=(Aa HOWN).scr.2.2.1;omega⟩);have hrs:=VP (Aa HC) M t p;clear hb6 HB5 HOWN z0 z1 z2;rcases hrs with⟨c,hpos,hrun⟩|⟨s,c,i,hpos,hrun⟩|⟨s,u,T,hrun,hrun2⟩;all_goals (
   rw[hrun] at hc9;have q0:=hc9 0 (by simp);have q1:=hc9 1 (by simp);have q2:=hc9 2 (by simp);have q3:=hc9 3 (by simp);have q4:=hc9 4 (by simp);simp only[List.getElem_cons_zero,List.getElem_cons_succ] at q0 q1 q2 q3 q4;have a00:=(hcell 0).trans q0.1;have a10:=(hcell 3).trans q1.1;have a11:=(hcell 4).trans q1.2.1;have a12:=(hcell 5).trans q1.2.2;have a20:=(hcell 6).trans q2.1;have a30:=(hcell 9).trans q3.1;have a31:=(hcell 10).trans q3.2.1;have a32:=(hcell 11).trans q3.2.2;have a42:=(hcell 14).trans q4.2.2;have HCS:=Ab (show (cs[3]? = some _/\cs[4]? = some _/\cs[5]? = some _)/\(cs[9]? = some _/\cs[10]? = some _/\cs[11]? = some _) from⟨q1,q3⟩);clear q0 q1 q2 q3 q4 hc9 hcell hsz hrun)
  ·have e1:((c:Int) != 0)=true:=by simp;omega
   have F6:=Ab (Aa FIN _ (Aa HB6));clear hpos a10 a11 a12 a20 a30 a31 a32 a42
   go_wp2_with (fail)
   go_ret;have hb9:=Aa F6
   exact⟨rfl,⟨hb9.os,hb9.tape,hb9.output,hb9.size,hb9.block⟩⟩
  ·have e1:((c:Int) != 0)=true:=by simp;omega
   have F6:=Ab (Aa FIN _ (Aa HB6));clear hpos a10 a11 a12 a30 a31 a32 a42
   go_wp2_with (fail)
   go_ret;have hb9:=Aa F6
   exact⟨rfl,⟨hb9.os,hb9.tape,hb9.output,hb9.size,hb9.block⟩⟩
  ·by_cases hTl:T.length<=2000
   ·have hz2:(⟨T.toArray⟩:ByteArray).size=T.length:=Aw T;have e1:decide ((2000:Int)<((⟨T.toArray⟩:ByteArray).size:Int))=false:=by rw[hz2];simp;omega
    have HR2:=Ab (hrun2 hTl);clear hz2 hrun2
    go_wp2_with (fail);refine (Br _ _ _ _).mono ?_
    rintro x w7 ⟨rfl,hx1⟩
    go_wp2_with (fail);refine (Br 2 _ _ _).mono ?_
    rintro x w8 ⟨rfl,hx2⟩
    go_wp2_with (fail);refine (Br 7 _ _ _).mono ?_
    rintro x w9 ⟨rfl,hx3⟩;have hb69:Below w6.heap.size w6 w9:=(hx1.trans (hx2.mono hx1.size)).trans (hx3.mono (Nat.le_trans hx1.size hx2.size));have HO9:=Ab ((Aa HO6).bel hb69);have HB9:=Ab ((Aa HB6).trans (hb69.mono (Aa HB6).size));have HRA9:=Ab ((hb69.block A hlA).trans (Aa HRA).1);have hl9:=Nat.lt_of_lt_of_le hlA hb69.size;clear hx1 hx2 hx3 hb69 HO6 HB6 a00 a10 a11 a12 a20 a30 a31 a32 a42 hrow hlA;have hlA10:A<w9.heap.size:=hl9
    go_wp2_with (at_builtin;refine wpList_append_lies _ rfl _ _ _ rfl wb.heap.size 49 i0 _ 3 40 underlying24 hi0 hz0 hz1 hzz rfl (by decide) (.slice (some ⟨g1,0,none⟩) 5 5) 5 (C6 (Sp.us1 M t p)) rfl ((Aa HO9).bel ((Below.refl _ _).alloc (Nat.le_refl _) _)).2 ⟨w9.heap.size,0,none⟩ 3 3 [.int .i64 5,.string ⟨T.toArray⟩,.string ⟨#[]⟩,.int .i64 2,.string ⟨#[]⟩,.string ⟨#[]⟩,.int .i64 7,.string ⟨#[]⟩,.string ⟨#[]⟩] rfl rfl (World.news_of_block (cs:=#[.int .i64 5,.string ⟨T.toArray⟩,.string ⟨#[]⟩,.int .i64 2,.string ⟨#[]⟩,.string ⟨#[]⟩,.int .i64 7,.string ⟨#[]⟩,.string ⟨#[]⟩]) (t:=49) (fr:=(0,0)) (heap_alloc_new w9 _)) (by simp[Value.oneCell']) (by decide) (by unfold maxLen;omega) (by omega) (by have:=(Aa HB9).size;simp;omega) (w9.heap.size+1) (by simp) ?_;intro g2 cap2 w10 hown10 hgrow hat10 hlt10;have HM5:=Ab (MP (l':=[(5,T,[]),(2,[],[]),(7,[],[])]) ((Aa HO9).bel ((Below.refl _ _).alloc (Nat.le_refl _) _)) ((Aa HB9).alloc (Aa HB9).size _) (by have:=(Aa HB9).size;simp;omega) rfl rfl rfl hown10 hgrow);have HRA5:=Ab (show w10.heap[A]? = some (.cells cs 46 (0,0)) from (hgrow.block A (by simp;omega) (fun e=>(Aa HRA).2 (Option.some.inj e))).trans ((Below.heap_alloc w9 _ A hl9).trans (Aa HRA9)));have HNE:=Ab (show A≠g2 from hat10.elim (fun h e=>(Aa HRA).2 (e.trans (Option.some.inj h).symm)) (fun h e=>absurd hl9 (by omega)));have hs10:w9.heap.size<=w10.heap.size:=Nat.le_trans (by simp) hgrow.size;obtain⟨z0,z1,z2⟩:=(Aa HZ).2 w10 (Aa HM5).2;clear hown10 hgrow hat10 hlt10)
    refine (Own.run (d:=d) (e:=e) (n:=n) (m:=8) (l:=Sp.us2 M t p T) (Aa HM5).1 (Lc M t p T) (by decide) (by decide) (Aa HLAY _ (Aa HM5).2)).mono ?_;rintro x w11 ⟨A2,cs2,rfl,hA2,hrow2,hans2,hb11⟩;have HB11:=Ab ((Aa HM5).2.trans (hb11.mono (Aa HM5).2.size));have HO11:=Ab ((Aa HM5).1.bel hb11);have hlA2:A2<w11.heap.size:=(Array.getElem?_eq_some_iff.1 hrow2).1;have hl11:A<w11.heap.size:=by have:=hb11.size;omega
    have hra11:=(hb11.block A (by omega)).trans (Aa HRA5);have hcellA:∀j,w11.cell? ⟨A,j,none⟩=cs[j]?:=fun j=>by simp[World.cell?,hra11]
    have HRA11:=Ab hra11;obtain⟨hsz2,hc2⟩:=hans2;have hcell2:∀j,w11.cell? ⟨A2,j,none⟩=cs2[j]?:=fun j=>by simp[World.cell?,hrow2]
    have F11:=Ab (Aa FIN _ (Aa HB11));clear HM5 HRA5 HRA9 hb11 z0 z1 z2 hra11 HO9 HB9;rcases Aa HR2 with⟨i,a6,a7,hrun2⟩|⟨T2,hrun2,hrun3⟩
    ·rw[hrun2] at hc2;have q5:=hc2 5 (by simp);simp only[List.getElem_cons_zero,List.getElem_cons_succ] at q5;have d50:=(hcell2 15).trans q5.1;clear q5 hc2 hcell2 hrow2 hsz2 hrun2 HR2 hcellA
     go_wp2_with (fail)
     go_ret;have hb9:=Aa F11
     exact⟨rfl,⟨hb9.os,hb9.tape,hb9.output,hb9.size,hb9.block⟩⟩
    ·rw[hrun2] at hc2;have q5:=hc2 5 (by simp);have q6:=hc2 6 (by simp);have q7:=hc2 7 (by simp);simp only[List.getElem_cons_zero,List.getElem_cons_succ] at q5 q6 q7;have d50:=(hcell2 15).trans q5.1;have d60:=(hcell2 18).trans q6.1;have d61:=(hcell2 19).trans q6.2.1;have d62:=(hcell2 20).trans q6.2.2;have d70:=(hcell2 21).trans q7.1;have d72:=(hcell2 23).trans q7.2.2;obtain⟨⟨c1,c2,c3⟩,_⟩:=Aa HCS;have b10:=(hcellA 3).trans c1;have b11:=(hcellA 4).trans c2;have b12:=(hcellA 5).trans c3;have HR3:=Ab hrun3;clear q5 q6 q7 hc2 hcell2 hrow2 hsz2 hrun2 hrun3 HR2 hcellA c1 c2 c3;by_cases hTk:T2.length<=2000
     ·have hz2:(⟨T2.toArray⟩:ByteArray).size=T2.length:=Aw T2;have e1:decide ((2000:Int)<((⟨T2.toArray⟩:ByteArray).size:Int))=false:=by rw[hz2];simp;omega
      have HR4:=Ab (Aa HR3 hTk);clear hz2 HR3
      go_wp2_with (fail)
      go_quiet (fail)
      go_wp2_with (fail);refine (Br 5 _ _ _).mono ?_
      rintro x w17 ⟨rfl,hx1⟩
      go_wp2_with (fail);refine (Br 2 _ _ _).mono ?_
      rintro x w19 ⟨rfl,hx2⟩;have hb19:Below w11.heap.size w11 w19:=let h:=hx1.trans (hx2.mono hx1.size); ⟨h.os,h.tape,h.output,h.size,h.block⟩
      have HO19:=Ab ((Aa HO11).bel hb19);have HB19:=Ab ((Aa HB11).trans (hb19.mono (Aa HB11).size));have HRA19:=Ab ((hb19.block A hl11).trans (Aa HRA11));have hl19:=Nat.lt_of_lt_of_le hl11 hb19.size;clear hx1 hx2 hb19 HO11 HB11 HRA11 d50 d60 d61 d62 d70 d72 b10 b11 b12 F11
      go_wp2_with (at_builtin;refine wpList_append_lies _ rfl _ _ _ rfl wb.heap.size 49 i0 _ 3 40 underlying24 hi0 hz0 hz1 hzz rfl (by decide) (.slice (some ⟨g2,0,none⟩) 8 cap2) 8 (C6 (Sp.us2 M t p T)) rfl ((Aa HO19).bel ((Below.refl _ _).alloc (Nat.le_refl _) _)).2 ⟨w19.heap.size,0,none⟩ 2 2 [.int .i64 5,.string ⟨T2.toArray⟩,.string ⟨#[]⟩,.int .i64 2,.string ⟨#[]⟩,.string ⟨#[]⟩] rfl rfl (World.news_of_block (cs:=#[.int .i64 5,.string ⟨T2.toArray⟩,.string ⟨#[]⟩,.int .i64 2,.string ⟨#[]⟩,.string ⟨#[]⟩]) (t:=49) (fr:=(0,0)) (heap_alloc_new w19 _)) (by simp[Value.oneCell']) (by decide) (by unfold maxLen;omega) (by omega) (by have:=(Aa HB19).size;simp;omega) (w19.heap.size+1) (by simp) ?_;intro g3 cap3 w20 hown10 hgrow hat10 hlt10;have HM8:=Ab (MP (l':=[(5,T2,[]),(2,[],[])]) ((Aa HO19).bel ((Below.refl _ _).alloc (Nat.le_refl _) _)) ((Aa HB19).alloc (Aa HB19).size _) (by have:=(Aa HB19).size;simp;omega) rfl rfl rfl hown10 hgrow);have HRA8:=Ab (show w20.heap[A]? = some (.cells cs 46 (0,0)) from (hgrow.block A (by simp;omega) (fun e=>(Aa HNE) (Option.some.inj e))).trans ((Below.heap_alloc w19 _ A hl19).trans (Aa HRA19)));have hs20:w19.heap.size<=w20.heap.size:=Nat.le_trans (by simp) hgrow.size;obtain⟨z0,z1,z2⟩:=(Aa HZ).2 w20 (Aa HM8).2;clear hown10 hgrow hat10 hlt10)
      refine (Own.run (d:=d) (e:=e) (n:=n) (m:=10) (l:=Sp.us3 M t p T T2) (Aa HM8).1 (Rk M t p T T2) (by decide) (by decide) (Aa HLAY _ (Aa HM8).2)).mono ?_;rintro x w21 ⟨A3,cs3,rfl,hA3,hrow3,hans3,hb21⟩;have F21:=Ab (Aa FIN _ ((Aa HM8).2.trans (hb21.mono (Aa HM8).2.size)));have hra21:=(hb21.block A (by omega)).trans (Aa HRA8);have hcellA:∀j,w21.cell? ⟨A,j,none⟩=cs[j]?:=fun j=>by simp[World.cell?,hra21]
      obtain⟨hsz3,hc3⟩:=hans3;have hcell3:∀j,w21.cell? ⟨A3,j,none⟩=cs3[j]?:=fun j=>by simp[World.cell?,hrow3]
      clear HM8 HRA8 HRA19 hb21 z0 z1 z2 hra21 HO19 HB19;rcases Aa HR4 with⟨i,a9,hrun4⟩|hrun4
      ·rw[hrun4] at hc3;have q8:=hc3 8 (by simp);simp only[List.getElem_cons_zero,List.getElem_cons_succ] at q8;have d80:=(hcell3 24).trans q8.1;clear q8 hc3 hcell3 hrow3 hsz3 hrun4 HR4 hcellA
       go_wp2_with (fail)
       go_ret;have hb9:=Aa F21
       exact⟨rfl,⟨hb9.os,hb9.tape,hb9.output,hb9.size,hb9.block⟩⟩
      ·rw[hrun4] at hc3;have q8:=hc3 8 (by simp);have q9:=hc3 9 (by simp);simp only[List.getElem_cons_zero,List.getElem_cons_succ] at q8 q9;have d80:=(hcell3 24).trans q8.1;have d90:=(hcell3 27).trans q9.1;have d91:=(hcell3 28).trans q9.2.1;have d92:=(hcell3 29).trans q9.2.2;obtain⟨_,c1,c2,c3⟩:=Aa HCS;have b30:=(hcellA 9).trans c1;have b31:=(hcellA 10).trans c2;have b32:=(hcellA 11).trans c3;clear q8 q9 hc3 hcell3 hrow3 hsz3 hrun4 HR4 hcellA c1 c2 c3
       go_wp2_with (fail)
       go_quiet (fail)
       go_wp2_with (fail)
       go_ret;have hb9:=Aa F21
       exact⟨rfl,⟨hb9.os,hb9.tape,hb9.output,hb9.size,hb9.block⟩⟩
     ·have hz2:(⟨T2.toArray⟩:ByteArray).size=T2.length:=Aw T2;have e1:decide ((2000:Int)<((⟨T2.toArray⟩:ByteArray).size:Int))=true:=by rw[hz2];simp;omega
      clear hz2
      go_wp2_with (fail)
      go_quiet (fail)
      go_wp2_with (fail)
      go_ret;have hb9:=Aa F11
      exact⟨rfl,⟨hb9.os,hb9.tape,hb9.output,hb9.size,hb9.block⟩⟩
   ·have hz2:(⟨T.toArray⟩:ByteArray).size=T.length:=Aw T;have e1:decide ((2000:Int)<((⟨T.toArray⟩:ByteArray).size:Int))=true:=by rw[hz2];simp;omega
    have F6:=Ab (Aa FIN _ (Aa HB6));clear hz2 a10 a11 a12 a30 a31 a32
    go_wp2_with (fail)
    go_ret;have hb9:=Aa F6
    exact⟨rfl,⟨hb9.os,hb9.tape,hb9.output,hb9.size,hb9.block⟩⟩)
end
end Go.Proofs.YtdpomdelmdofmaaGreatDoor
