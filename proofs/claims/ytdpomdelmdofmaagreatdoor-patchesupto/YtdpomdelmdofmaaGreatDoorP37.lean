import Derived.Test.YtdpomdelmdofmaaGreatDoorP35
import Derived.Test.YtdpomdelmdofmaaGreatDoorP36
open Go renaming World->AI,Value->AT,Calls->A4
open Go.World renaming cell?->AS
open Go.Proofs.Tryz renaming prog->A1
open List renaming reverse_reverse->A2
open Nat renaming le_of_lt->A3
set_option maxRecDepth 100000
set_option maxHeartbeats 16000000
namespace Go.Proofs.YtdpomdelmdofmaaGreatDoor
open Go.Proofs.Tryz Go.RowKit Go.Maps
variable{doc:sL}{cap:Nat}{l:List St}
section
variable{E:Nat}{d x n:Int}{p:Addr}{q:AT}{w:AI}{v:pL}
theorem Q9(s t:By)(h:EB w E d x n (.pointer (some p)) q)(hv:RO (λj=>j≠E) w (.pointer (some p)) v)(q6:pZ d x 200000 v)(hd:1<=d/\d<=20)(hx:0<=x/\x<=400)(hT:Aj w):
  A4 A1 39 #[PtB E,.agg #[InB 5,.string ⟨s.toArray⟩,.string ⟨t.toArray⟩],Ay (tU d x v s).1] w λe w'=>e=.returned (.bool true)/\∃e',Kr E d x n (some p) q (tU d x v s) w e' w':=by
 have qi:=h.lt;obtain⟨R,hR⟩:∃R,R=tU d x v s:=⟨_,rfl⟩
 obtain⟨A,hA⟩:∃A,A=R.1:=⟨_,rfl⟩
 obtain⟨w1,q5⟩:∃w1,w1=((w.alloc (.cells #[InB 5,.string ⟨s.toArray⟩,.string ⟨t.toArray⟩] 49)).alloc (.cells #[InB A.1,InB A.2.1,.string ⟨A.2.2.toArray⟩] 46)):=⟨_,rfl⟩
 have hb1:Bl w w1:=by rw[q5];exact((Â _ _).alloc (Á _) _).alloc φ _
 have q7:ANA w1 (w.1.size+1) A:=by rw[q5];exact Ax _ _ _ φ
 have q8:w1.1[w.1.size]?=some (.cells #[InB 5,.string ⟨s.toArray⟩,.string ⟨t.toArray⟩] 49 (0,0)):=by
  rw[q5];show((w.1.push _).push _)[w.1.size]?=_;simp[ŀ]
 have qj:w.1.size+2<=w1.1.size:=by rw[q5];simp
 have q9:=h.low hb1;have e3:=q9.c3;have o0:w1.cell? ⟨w.1.size,0,none⟩=some (InB 5):=ck q8;have o1:w1.cell? ⟨w.1.size,1,none⟩=some (.string ⟨s.toArray⟩):=ck q8;have o2:w1.cell? ⟨w.1.size,2,none⟩=some (.string ⟨t.toArray⟩):=ck q8;have a0:=q7.c0;have a1:=q7.c1;have a2:=q7.c2;have qd:=Ab hb1;have q0:=Ab (λ(W:AI) (hW:Bl w1 W)=>ON s ⟨t.toArray⟩ (q9.low hW) ((hv.bel hb1).bel hW) q6 hd hx ((hT.below (hb1.mono hT.ng)).below (hW.mono (Ã hT.ng hb1.size))));rw[<-hR]at q0 |-;rw[<-hA];have qh:=Ab hA;unfold Kr at q0;rw[<-hA]at q0;have qg:=Ab q5;clear h hb1 q7 q9 hv hT q6 hA hR q8 q5 hd hx;unfold Ay at q0 |-;go_enter func39,ntmps39;go_upto_region 1 with(fail)
 rw[<-qg.u];go_upto_region 21 with(fail)
 go_region_with (go_at_call 49;refine(q0.u _ ?_).mono ?_;exact⟨rfl,rfl,rfl,Á _,λ_ _=>rfl⟩;rintro e w4⟨rfl,q4,qb⟩;have b0:=(q4.cell (p:=⟨w.1.size+1,0,none⟩) (show w.1.size+1<w1.1.size from ζ) (show w.1.size+1≠E from ζ)).trans a0;have b1:=(q4.cell (p:=⟨w.1.size+1,1,none⟩) (show w.1.size+1<w1.1.size from ζ) (show w.1.size+1≠E from ζ)).trans a1;have b2:=(q4.cell (p:=⟨w.1.size+1,2,none⟩) (show w.1.size+1<w1.1.size from ζ) (show w.1.size+1≠E from ζ)).trans a2);all_goals (
  have qe:=Ab (show Ac E w1 w4 from⟨q4.os,q4.tape,q4.output,q4.size,q4.block⟩);have qf:=Ab qb;clear q4 qb b0 b1 b2;go_wp2;go_ret;exact⟨by first|kernel_rfl|simp,_,rfl,(Ac.of_below qd.u).trans qe.u,qf.u⟩)
end
def LQ(w:AI)(E:Nat)(d x:Int)(q:AT)(v:pL):rA->Prop
 |none=>q=.pointer none
 |some j=>∃(b:Addr) (u:pL),q=.pointer (some b)/\RO (λk=>k≠E) w q u/\C4 d x 200000 u j.reverse v/\(∀o∈j,D5 d x 200000 o)/\j.length<=1000000
def OQ(w:AI)(E:Nat)(d x:Int)(p q:AT):sL->Prop
 |none=>p=.pointer none
 |some z=>∃a,p=.pointer (some a)/\RO (λk=>k≠E) w p z.1/\pZ d x 200000 z.1/\(pP top z.1).length<=80000/\LQ w E d x q z.1 z.2
section
variable{w w':AI}{E:Nat}{d x n:Int}{p q:AT}
theorem LQ.kept{v:pL}{i:rA}(h:LQ w E d x q v i)(hk:Ac E w w'):LQ w' E d x q v i:=by
 cases i with
 |none=>exact h
 |some j=>
  obtain⟨b,u,h1,h2,h3⟩:=h;exact⟨b,u,h1,h2.move λk a b=>⟨hk.block k b a,a⟩,h3⟩
theorem OQ.kept(h:OQ w E d x p q doc)(hk:Ac E w w'):OQ w' E d x p q doc:=by
 cases doc with
 |none=>exact h
 |some z=>
  obtain⟨a,h1,h2,h3,h4,h5⟩:=h;exact⟨a,h1,h2.move λk a b=>⟨hk.block k b a,a⟩,h3,h4,h5.kept hk⟩
theorem OQ.ptr(h:OQ w E d x p q doc):∃pa,p=.pointer pa:=by
 cases doc with
 |none=>exact⟨_,h⟩
 |some z=>obtain⟨a,h,_⟩:=h;exact⟨_,h⟩
end
def SQ(E:Nat)(d x n:Int)(z:sL)(w:AI)(e:Ending)(w':AI):Prop:=e=.returned (.bool true)/\Ac E w w'/\∃p' q',EB w' E d x n p' q'/\OQ w' E d x p' q' z
def Ht(d x n:Int)(o:St):Prop:=∀(E:Nat) (p q:AT) (doc:sL) (w:AI),EB w E d x n p q->OQ w E d x p q doc->Aj w ->
 A4 A1 39 #[PtB E,.agg #[InB o.1,.string ⟨o.2.1.toArray⟩,.string ⟨o.2.2.toArray⟩],Ay (rF d x n doc o).1] w λe w'=>SQ E d x n (rF d x n doc o).2 w e w'
theorem SQ.low{w w':AI}{E:Nat}{d x n:Int}{p q:AT}(h:EB w E d x n p q)(hd:OQ w E d x p q doc)(hb:Bl w w'):SQ E d x n doc w (.returned (.bool true)) w':=
 ⟨rfl,Ac.of_below hb,p,q,h.low hb,hd.kept (Ac.of_below hb)⟩
theorem jZ{d x n:Int}{o:St}(hc:rT d x n=true)(h1:1<o.1/\o.1<=9)(v:pL×rA):rF d x n (some v) o=(if o.1<5 then(tQ d x v.1 o,some v)else((tP d x n v o).1,some (tP d x n v o).2)):=by
 unfold rF;rw[hc,if_pos rfl,if_neg ζ,if_neg ζ]
theorem JO{d x n:Int}{o:St}(hc:rT d x n=true)(h1:1<o.1/\o.1<=9)(h:∀(E:Nat) (p q:AT) (v:pL×rA) (w:AI),EB w E d x n p q->OQ w E d x p q (some v)->Aj w ->
  A4 A1 39 #[PtB E,.agg #[InB o.1,.string ⟨o.2.1.toArray⟩,.string ⟨o.2.2.toArray⟩],Ay (if o.1<5 then(tQ d x v.1 o,some v)else((tP d x n v o).1,some (tP d x n v o).2)).1] w λe w'=>SQ E d x n (if o.1<5 then(tQ d x v.1 o,some v)else((tP d x n v o).1,some (tP d x n v o).2)).2 w e w'):Ht d x n o:=by
 intro E p q doc w hE hD hT;cases doc with
 |some v=>rw[jZ hc h1 v];exact h E p q v w hE hD hT
 |none=>
  have q0:=hD;obtain rfl:p=.pointer none:=hD;have q4:rF d x n none o=((3,0,[]),none):=by unfold rF;rw[hc,if_pos rfl,if_neg ζ,if_neg ζ]
  rw[q4];refine(Ra o.1 ⟨o.2.1.toArray⟩ ⟨o.2.2.toArray⟩ h1 hE).mono ?_;rintro e w' ⟨rfl,hb⟩;exact SQ.low hE q0 hb
theorem TI{d x n:Int}(s t:By)(hc:rT d x n=true):Ht d x n (1,s,t):=by
 intro E p q doc w hE hD hT;obtain⟨hd,hx⟩:=Km hc;have q6:rF d x n doc (1,s,t)=vA (qB s d x) doc:=by unfold rF;rw[hc,if_pos rfl,if_neg φ,if_pos rfl]
 rw[q6];have h1:(vA (qB s d x) doc).1=((qB s d x).1,0,[]):=by unfold vA;split<;>rfl
 rw[h1];obtain⟨pa,rfl⟩:=hD.ptr;refine(TZ s ⟨t.toArray⟩ (qB s d x).1 rfl hE hd hx).mono ?_;rintro e w' ⟨rfl,hk,⟨c',q0,he⟩|⟨p',o,q0,he,q4,q5⟩⟩
 .rw[q0];exact⟨rfl,hk,_,_,he,hD.kept hk⟩
 .have hg:=Fe q0;have hsz:=Hc q0 hx.2;have hl:=hE.lt;rw[q0];exact⟨rfl,hk,_,_,he,p',rfl,⟨top,o,q4.move λj h1 _=>⟨rfl,ζ⟩,q5,rfl⟩,⟨hg,ζ,Ã hsz η⟩,Ge q0 top,rfl⟩
theorem JP{d x n:Int}(k:Int)(s t:By)(hk:k=2\/k=3\/k=4)(hn:s.length<=1048576\/k=2)(hc:rT d x n=true):Ht d x n (k,s,t):=by
 obtain⟨hd,hx⟩:=Km hc;refine JO hc (by simp only;omega) ?_;intro E p q v w hE hD hT;simp only;rw[if_pos ζ];have q5:=hD;obtain⟨a,rfl,hro,q6,hl,_⟩:=hD;obtain⟨o,q4,q7,q8⟩:=hro.at q6.gd;rw[<-q8]at hl |-;rcases hk with rfl|rfl|rfl
 .have q0:tQ d x (pO top o) (2,s,t)=(0,0,pP top (pO top o)):=by unfold tQ;rw[if_pos rfl]
  rw[q0];refine(T7 _ ⟨t.toArray⟩ hE q4 q7 hl hT).mono ?_;rintro e w' ⟨rfl,hb⟩;exact SQ.low hE q5 hb
 .have q0:tQ d x (pO top o) (3,s,t)=tG (pO top o) s:=by unfold tQ;rw[if_neg φ,if_pos rfl]
  rw[q0];refine(V2 s t ζ hE q4 q7 hl hT).mono ?_;rintro e w' ⟨rfl,hb⟩;exact SQ.low hE q5 hb
 .have q0:tQ d x (pO top o) (4,s,t)=(tK d x (pO top o) s t,0,[]):=by unfold tQ;rw[if_neg φ,if_neg φ,if_pos rfl]
  rw[q0];refine(TY s t ζ hE q4 q7 hl hd hx hT).mono ?_;rintro e w' ⟨rfl,hb⟩;exact SQ.low hE q5 hb
theorem Uf{d x n:Int}{v z:pL}{i:rA}{s:By}(hc:rT d x n=true)(hv:pZ d x 200000 v)(hl:(pP top v).length<=80000)(h:(tU d x v s).2=some z):
  ∃j,(tO d x (v,i) s).2=(z,some j)/\pZ d x 200000 z/\(pP top z).length<=80000/\C4 d x 200000 v j.reverse z/\(∀o∈j,D5 d x 200000 o)/\j.length<=1000000:=by
 obtain⟨hd,hx⟩:=Km hc;have hq:=(X5 (s:=s) (v:=(v,i)) ζ hx.2 hv).2;rw[h]at hq;simp only at hq;unfold tU at h;unfold tO at hq |-;rcases YU (t:=s) (d:=d+2) (x:=x)with⟨c,hr,hpos⟩|⟨P,hr⟩
 .rw[hr]at h;simp only at h;cases h
 .rw[hr]at h hq |-;simp only at h hq |-;have q0:=Fe hr;have q5:=Ge hr top;unfold uM at h;cases hp:A7 P with
  |error i=>rw[hp]at h;simp only at h;cases h
  |ok l=>
   rw[hp]at h hq;simp only at h hq |-;obtain⟨hn,hok⟩:=IV q0 q5 ζ hp;have q4:=(IX (d:=d) (x:=x) ζ l 0 v [] hv λo ho=>⟨hok o ho,IW hp o ho,JU ⟨_,_,_,_,q0,Ã (Hc hr hx.2) η⟩ hp o ho⟩).1;rw[q4]at h;cases hdo:Cn d 0 v [] l with
   |error ci=>rw[hdo]at h;simp only at h;cases h
   |ok xj=>
    obtain⟨y,j⟩:=xj;rw[hdo]at hq;simp only at hq |-;subst hq;obtain⟨f1,f2⟩:=Qj ζ l _ _ _ hv hok hdo;obtain⟨j1,e1,k1,k2,k3,k4⟩:=Qk ζ l 0 v [] hv hok hdo;rw[Ù]at e1;subst e1;exact⟨j.reverse,rfl,f1,f2 hl,by rw[A2];exact k1,λo ho=>k2 o (Ĥ.1 ho),by rw[Ľ];omega⟩
theorem QV{d x n:Int}(s t:By)(hc:rT d x n=true):Ht d x n (5,s,t):=by
 obtain⟨hd,hx⟩:=Km hc;refine JO hc φ ?_;intro E p q v w hE hD hT;simp only;rw[if_neg ζ];have q5:tP d x n v (5,s,t)=tO d x v s:=by unfold tP;rw[if_pos rfl]
 rw[q5];obtain⟨v,i⟩:=v;have q4:=hD;obtain⟨a,rfl,hro,q0,hl,q6⟩:=hD;obtain⟨q1,q2⟩:=X5 (s:=s) (v:=(v,i)) ζ hx.2 q0;rw[<-q1];refine(Q9 s t hE hro q0 hd hx hT).mono ?_;rintro e w' ⟨rfl,e',_,hk,hm⟩;refine⟨rfl,hk,?_⟩;cases hz:(tU d x v s).2 with
 |none=>
  rw[hz]at hm q2;simp only at hm q2;rw[q2];exact⟨_,_,hm,q4.kept hk⟩
 |some z=>
  rw[hz]at hm;obtain⟨pz,h1,h2⟩:=hm;obtain⟨j,g1,g2,g3,g4⟩:=Uf (i:=i) hc q0 hl hz;rw[g1];obtain⟨b,hb,_⟩:=h2.ptr;cases hb;exact⟨_,_,h1,_,rfl,h2,g2,g3,a,v,rfl,hro.move (λk a b=>⟨hk.block k b a,a⟩),g4⟩
theorem VK{d x n:Int}(s t:By)(hc:rT d x n=true):Ht d x n (7,s,t):=by
 obtain⟨hd,hx⟩:=Km hc;refine JO hc φ ?_;intro E p q v w hE hD hT;simp only;rw[if_neg ζ];have q9:tP d x n v (7,s,t)=(uU v,v):=by unfold tP;rw[if_neg φ,if_neg φ,if_pos rfl]
 rw[q9];obtain⟨v,i⟩:=v;have q7:=hD;obtain⟨a,rfl,hro,q0,hl,q8⟩:=hD;cases i with
 |none=>
  obtain rfl:q=.pointer none:=q8;refine(T6 ⟨s.toArray⟩ ⟨t.toArray⟩ hE).mono ?_;rintro e w' ⟨rfl,hb⟩;exact SQ.low hE q7 hb
 |some j=>
  obtain⟨b,u,rfl,qb,hch,q4,hn⟩:=q8;have qd:=hE.lt;have q5:∀o∈j.reverse,D5 d x 200000 o:=λo ho=>q4 o (Ĥ.1 ho);have q6:j.reverse.reverse=j:=A2 j;refine(V1 ⟨s.toArray⟩ ⟨t.toArray⟩ (Dq j) hE λW hW=>?_).mono ?_
  .have hl:=WI (j:=j.reverse) (hE.low hW) (hro.bel hW) (qb.bel hW) (λk hk=>by have:=hW.size;omega) hch q0 (kZ q5) (by
    rw[q6];exact lL hd.1 ζ (λi hi=>hch.iv i (Ĥ.2 hi)) q4 hn) (by rw[Ľ];exact hn) (by rw[q6];exact NP q4 hn) hd hx (hT.below (hW.mono hT.ng))
   rw[q6]at hl;exact hl
  .rintro e w' ⟨rfl,hb⟩;exact SQ.low hE q7 hb
theorem cF(c a:Nat)(t:By):(c=2/\a=0/\t=[])\/(∃z zs,c=2/\a=0/\t=z::zs)\/(c=2/\((a:Int)==0)=false)\/((c:Int)==2)=false:=by
 by_cases h1:c=2
 .by_cases h2:a=0
  .cases t with
   |nil=>exact Å ⟨h1,h2,rfl⟩
   |cons z zs=>exact À (Å ⟨z,zs,h1,h2,rfl⟩)
  .exact À (À (Å ⟨h1,beq_eq_false_iff_ne.2 ζ⟩))
 .exact À (À (À (beq_eq_false_iff_ne.2 ζ)))
theorem Vk{d x n:Int}{sb so ab m:Nat}{cs:Array AT}{w:AI}(hc:rT d x n=true)(hs:Scr w sb so l)(z4:∀o∈l,Ht d x n o)(hm:m=l.length)(za:m<=cap)(zb:cap<=maxLen)(q9:w.1[ab]?=some (.cells cs 46 (0,0)))(qe:F0 cs m (sM d x n none l))(qr:sb<w.1.size)(hT:Aj w):
  CB 29 #[.agg #[InB d,InB x,InB n],.slice (some ⟨sb,so,none⟩) m cap,SlB ab m m] w (.bool true):=by
 have hab:ab<w.1.size:=(È.1 q9).1;have qm:=hc;unfold rT at qm;simp only[ō]at qm;obtain⟨i1,i2,i3⟩:=qm;have zg:(m:Int)<=9223372036854775807:=by unfold maxLen at zb;omega
 have qf:(sM d x n none l).length=m:=by rw[vL,hm]
 have qh:=Ab (λ(k:Nat) (hk:k<(sM d x n none l).length)=>qe.at q9 k hk);have qj:=Ab qf;have HM:=Ab hm;have HS:=Ab hs;have HL:=Ab z4;have HT:=Ab hT;have HC:=Ab hc;have zc:=hT.ng;have qy:EB ((w.alloc (.cells #[InB d,InB x,InB n] 23)).alloc (.cells #[InB d,InB x,InB n,.pointer none,.pointer none] 68)) (w.1.size+1) d x n (.pointer none) (.pointer none):=Ax _ _ _ φ;have qz:Bl w ((w.alloc (.cells #[InB d,InB x,InB n] 23)).alloc (.cells #[InB d,InB x,InB n,.pointer none,.pointer none] 68)):=((Â _ _).alloc (Á _) _).alloc φ _;have z8:=Ab qy;have z5:=Ab qz;have qw:=Ab (λ(k:Nat) (w:AI)=>Ec k w);unfold AC at qw;clear hc hs z4 hm q9 qe hT qf qy qz;go_enter func29,ntmps29;go_wp2_with fail;refine(Ed d 1 20 _).mono ?_;rintro e wA⟨rfl,rfl⟩;rw[i1];go_wp2_with fail;refine(Ed x 0 400 _).mono ?_;rintro e wA⟨rfl,rfl⟩;rw[i2];go_wp2_with fail;refine(Ed n 0 2000 _).mono ?_;rintro e wA⟨rfl,rfl⟩;rw[i3];go_wp2_with fail;clear i1 i2 i3;go_loopw [11] (λi wr=>∃(k:Nat) (p q:AT),k<=m/\i=InB k/\EB wr (w.1.size+1) d x n p q/\OQ wr (w.1.size+1) d x p q (sI d x n none (l.take k))/\Bl w wr) (λi _=>m-(intOf i).toNat)
 case atStart=>exact⟨0,.pointer none,.pointer none,ζ,rfl,z8.u,rfl,z5.u⟩
 case round=>
  obtain⟨k,p,q,hk,rfl,z2,qq,q4⟩:=hrel;by_cases hlt:k<m
  .have qg:k<l.length:=by have:=HM.u;omega
   have z3:k<(sM d x n none l).length:=by have:=qj.u;omega
   obtain⟨q0,q1,q2⟩:=HS.u k qg;obtain⟨r0,r1,r2⟩:=qh.u k z3;rw[VW d x n l none k qg z3]at r0 r1 r2;obtain⟨DA,qk⟩:∃DA,DA=sI d x n none (l.take k):=⟨_,rfl⟩
   rw[<-qk]at r0 r1 r2 qq;obtain⟨o,ho⟩:∃o,o=l[k]:=⟨_,rfl⟩
   rw[<-ho]at q0 q1 q2 r0 r1 r2;have ze:o∈l:=by rw[ho];exact Ó qg
   have hok:=HL.u o ze;obtain⟨ct,qn⟩:∃ct,ct=(rF d x n DA o).1:=⟨_,rfl⟩
   rw[<-qn]at r0 r1 r2;have s0:=As q4 _ _ qr q0;have s1:=As q4 _ _ qr q1;have s2:=As q4 _ _ qr q2;have a0:=As q4 _ _ hab r0;have a1:=As q4 _ _ hab r1;have a2:=As q4 _ _ hab r2;have qt:=q4.size;have qb:sb<wr.1.size:=ζ;have q5:ab<wr.1.size:=ζ;have q6:Hid (∀W:AI,Bl wr W->A4 A1 39 #[.pointer (some ⟨w.1.size+1,0,none⟩),.agg #[InB o.1,.string ⟨o.2.1.toArray⟩,.string ⟨o.2.2.toArray⟩],.agg #[InB ct.1,InB ct.2.1,.string ⟨ct.2.2.toArray⟩]] W λe w'=>SQ (w.1.size+1) d x n (rF d x n DA o).2 W e w'):=by
    intro W hW;have:=hok _ _ _ _ W (z2.low hW) (qq.kept (Ac.of_below hW)) (HT.u.below ((q4.trans (hW.mono qt)).mono zc));rw[<-qn]at this;unfold Ay at this;exact this
   have qi:=Ab qk;have qd:=Ab q4;have HO:=Ab ho;clear q0 q1 q2 r0 r1 r2 z2 qq qk q4 qn hok ho;obtain⟨c1,c0,c2⟩:=ct;simp only at a0 a1 a2 q6;go_upto_region 10 with(fail)
   go_cut [12] (λzf wx=>(∃b:Bool,zf=.bool b)/\Bl wr wx)
   case first=>
    rcases cF c1 c0 c2 with⟨rfl,rfl,rfl⟩|⟨z,zs,rfl,rfl,rfl⟩|⟨rfl,e2⟩|e2;all_goals (
     go_region_with (go_at_call 38;refine(qw.u 2 _).mono ?_;rintro e w4⟨rfl,hb4⟩;have b0:=As (a:=wr) (w:=w4) (bx hb4) _ _ q5 a0;have b1:=As (a:=wr) (w:=w4) (bx hb4) _ _ q5 a1;have b2:=As (a:=wr) (w:=w4) (bx hb4) _ _ q5 a2);all_goals (
      go_wp2;go_meet;exact⟨⟨_,rfl⟩,(bx hb4)⟩))
   case rest=>
   obtain⟨⟨b,rfl⟩,q7⟩:=hcut;have t0:=As q7 _ _ qb s0;have t1:=As q7 _ _ qb s1;have t2:=As q7 _ _ qb s2;have b0:=As q7 _ _ q5 a0;have b1:=As q7 _ _ q5 a1;have b2:=As q7 _ _ q5 a2;have qv:=Ab q7;clear s0 s1 s2 a0 a1 a2 q7;go_upto_region 12 with(fail)
   go_region_with (go_at_call 39;refine(q6.u _ ?_).mono ?_;exact bx qv.u;rintro e w5⟨rfl,hk5,hex⟩);all_goals (
    obtain⟨p',q',z1,qo⟩:=hex;have qu:Bl w wc.drew:=by
     have h:=qd.u.trans (qv.u.mono qd.u.size);exact⟨h.os,h.tape,h.output,h.size,h.block⟩
    have z0:Bl w w5:=qu.trans (hk5.below (Nat.le_succ _) qu.size);have q8:(rF d x n DA o).2=sI d x n none (l.take (k+1)):=by
     rw[Í qg,vR,<-qi.u,<-HO.u]
    rw[q8]at qo;have z9:=Ab z1;have z7:=Ab qo;have z6:=Ab z0;clear z1 qo q8 z0 qu hk5 t0 t1 t2 b0 b1 b2;go_wp2;go_roundw
    case rel=>(repeat apply Exists.intro);exact⟨show k+1<=m from ζ,ψ,z9.u,z7.u,z6.u⟩
    case measure=>simp only[intOf];omega)
  .go_wp2;go_ret;exact⟨rfl,q4⟩
theorem YR{d x n:Int}{B:Nat}{sl:AT}{L3:List Tri}{w:AI}(q4:w.ownsRow B 49 3 sl L3.length (CX L3))(hl:Plain (L3.map prT))(qk:rT d x n=true ->∀o∈L3.map prT,Ht d x n o)(qt:L3.length*40<=140737488355328)(hT:Aj w):
  CB 15 #[.agg #[InB d,InB x,InB n],sl] w (.bool true):=by
 have qg:Bl w (w.alloc (.cells #[InB d,InB x,InB n] 23)):=(Â _ _).alloc (Á _) _;have qu:=hT.ng;have hz:(w.alloc (.cells #[InB d,InB x,InB n] 23)).1[w.1.size]?=some (.cells #[InB d,InB x,InB n] 23 (0,0)):=Ax _ _ _ rfl;have HZ:=Ab hz;have qb:=Ab qg;have HT:=Ab (hT.below (qg.mono qu));by_cases h0:L3.length=0
 .have hz:∃a c,sl=.slice a 0 c:=by
   rcases q4.2 with⟨e,_⟩|⟨g,cap,cur,e,_⟩
   .exact⟨none,0,e⟩
   .exact⟨_,cap,by rw[e,h0]⟩
  obtain⟨a,c,rfl⟩:=hz;clear q4 hl qk hT qg hz;go_enter func15,ntmps15;go_wp2_with fail;refine(jI (d:=d) (e:=x) (n:=n)).mono ?_;rintro e w2⟨A,cs,rfl,hA,q5,q6,hb2⟩;have hs2:=hb2.size;have q:=(hb2.block w.1.size φ).trans HZ.u;have q0:w2.cell? ⟨w.1.size,0,none⟩=some (InB d):=ck q;have q1:w2.cell? ⟨w.1.size,1,none⟩=some (InB x):=ck q;have q2:w2.cell? ⟨w.1.size,2,none⟩=some (InB n):=ck q;have qd:=Ab (qb.u.trans (hb2.mono qb.u.size));clear q5 q6 hb2 q;go_wp2_with fail;refine(cQ).mono ?_;rintro e w3⟨rfl,hb3⟩;have qi:=Ab (qd.u.trans (hb3.mono qd.u.size));clear hb3;go_wp2;go_ret;exact⟨rfl,qi.u⟩
 .obtain⟨g,cap,rfl,_,q8⟩:∃g cap,sl=SlB g L3.length cap/\L3.length<=cap/\cap<=maxLen:=by
   rcases q4.2 with⟨_,e⟩|⟨g,cap,cur,e,_,_,h4,h5,_⟩
   .exact absurd e h0
   .exact⟨g,cap,e,h4,h5⟩
  obtain⟨qf,hg,q7⟩:=kD q4 ζ;obtain⟨N,hN⟩:∃N,N=L3.length:=⟨_,rfl⟩
  rw[<-hN]at q7 qt h0 q4 |-;have qe:N=(L3.map prT).length:=by rw[hN];simp
  have HS:=Ab qf;have HL:=Ab hl;have qo:=Ab qk;have q9:=Ab qe;clear q4 hl qk hT qg hN qf hz qe;go_enter func15,ntmps15;go_wp2_with fail;refine(cJ (d:=d) (e:=x) (n:=n) (l:=L3.map prT) (HS.u.low qb.u hg) HL.u q9.u ζ q7 ζ (by have:=qb.u.size;omega) HT.u).mono ?_;rintro e w2⟨A,cs,rfl,hA,q5,q6,hb2⟩;have hs2:=hb2.size;have q:=(hb2.block w.1.size φ).trans HZ.u;have q0:w2.cell? ⟨w.1.size,0,none⟩=some (InB d):=ck q;have q1:w2.cell? ⟨w.1.size,1,none⟩=some (InB x):=ck q;have q2:w2.cell? ⟨w.1.size,2,none⟩=some (InB n):=ck q;have qh:=qb.u.trans (hb2.mono qb.u.size);have qd:=Ab qh;have qq:A<w2.1.size:=(È.1 q5).1;have qj:Hid (CB 29 #[.agg #[InB d,InB x,InB n],SlB g N cap,SlB A N N] w2 (.bool true)):=by
   cases hc:rT d x n with
   |true=>exact Vk hc (HS.u.low qh hg) (qo.u hc) q9.u q7 q8 q5 q6 (by have:=qh.size;omega) (HT.u.below (hb2.mono HT.u.ng))
   |false=>
    have qr:∀k,k<N->w2.cell? ⟨A,k*3,none⟩=some (InB 2)/\w2.cell? ⟨A,k*3+1,none⟩=some (InB 0)/\w2.cell? ⟨A,k*3+2,none⟩=some (.string ⟨#[]⟩):=by
     intro k hk;have qm:k<(L3.map prT).length:=by have:=q9.u;omega
     have qn:k<(sM d x n none (L3.map prT)).length:=by rw[vL];exact qm
     have h:=q6.at q5 k qn;rw[fA hc _ none k qm qn]at h;exact h
    exact cS hc q7 q8 qr qq
  clear q5 q6 hb2 q qh;go_wp2_with fail;refine qj.u.mono ?_;rintro e w3⟨rfl,hb3⟩;have qi:=Ab (qd.u.trans (hb3.mono qd.u.size));clear hb3;go_wp2;go_ret;exact⟨rfl,qi.u⟩
def Pts(l:List St):Prop:=∀o∈l,(o.1=1\/o.1=2\/o.1=3\/o.1=4\/o.1=5\/o.1=7)/\o.2.1.length<=1048576
theorem Pts.plain(h:Pts l):Plain l:=λo ho=>by
 obtain⟨h1,h2⟩:=h o ho;rcases h1 with h1|h1|h1|h1|h1|h1
 .exact Å (Å h1)
 .exact Å (À h1)
 .exact À (Å ⟨Å h1,WY,RY,h2⟩)
 .exact À (Å ⟨À h1,WY,RY,h2⟩)
 .exact À (À (Å ⟨h1,Y4⟩))
 .exact À (À (À ⟨h1,WR⟩))
theorem Pts.step{d x n:Int}(h:Pts l)(hc:rT d x n=true):∀o∈l,Ht d x n o:=λo ho=>by
 obtain⟨k,s,t⟩:=o;obtain⟨h1,h2⟩:=h _ ho;simp only at h1 h2;rcases h1 with rfl|rfl|rfl|rfl|rfl|rfl
 .exact TI s t hc
 .exact JP 2 s t ζ (Å h2) hc
 .exact JP 3 s t ζ (Å h2) hc
 .exact JP 4 s t ζ (Å h2) hc
 .exact QV s t hc
 .exact VK s t hc
def oS(v1:AT)(w:AI):Prop:=∀(w0:AI) (g:Nat),Bl w w0->w0.1[g]?=some (.cells #[.int .i64 1,.int .i64 2,.int .i64 3,.int .i64 4,.int .i64 5,.int .i64 7] 3 (0,0))->A4 A1 16 #[v1,.slice (some ⟨g,0,none⟩) 6 6] w0 λe w'=>
 ∃(sl:AT) (L3:List Tri) (B:Nat),e=.returned sl/\Bl w0 w'/\w'.ownsRow B 49 3 sl L3.length (CX L3)/\Pts (L3.map prT)/\L3.length*40<=140737488355328
theorem KY{d x n:Int}{v1:AT}{w:AI}(hk:oS v1 w)(hT:Aj w):
  CB 8 #[.agg #[.int .i64 d,.int .i64 x,.int .i64 n],v1] w (.bool true):=by
 have qe:=hT.ng;have hz:(w.alloc (.cells #[.int .i64 d,.int .i64 x,.int .i64 n] 23)).1[w.1.size]?=some (.cells #[.int .i64 d,.int .i64 x,.int .i64 n] 23 (0,0)):=Ax _ _ _ rfl;have qd:Bl w (w.alloc (.cells #[.int .i64 d,.int .i64 x,.int .i64 n] 23)):=(Â _ _).alloc (Á _) _;have HK:=Ab hk;have HT:=Ab hT;clear hk hT;go_enter func8,ntmps8;go_wp2_with fail;generalize w.alloc (.cells #[.int .i64 d,.int .i64 x,.int .i64 n] 23)=wa at*;have q5:w.1.size<wa.1.size:=(È.1 hz).1;have z0:wa.cell? ⟨w.1.size,0,none⟩=some (.int .i64 d):=ck hz;have z1:wa.cell? ⟨w.1.size,1,none⟩=some (.int .i64 x):=ck hz;have z2:wa.cell? ⟨w.1.size,2,none⟩=some (.int .i64 n):=ck hz;have qb:=Ab qd;have q6:Hid (∀(w0:AI) (g:Nat),Bl w w0->w0.1[g]?=some (.cells #[.int .i64 1,.int .i64 2,.int .i64 3,.int .i64 4,.int .i64 5,.int .i64 7] 3 (0,0))->A4 A1 16 #[v1,.slice (some ⟨g,0,none⟩) 6 6] w0 λe w'=>
  ∃(sl:AT),e=.returned sl/\Bl w0 w'/\Hid (∀W,Bl w' W->CB 15 #[.agg #[.int .i64 d,.int .i64 x,.int .i64 n],sl] W (.bool true))):=by
  intro w0 g h0 h1;refine(HK.u w0 g h0 h1).mono ?_;rintro e w' ⟨sl,L3,B,rfl,hb,q8,hl,hm⟩;refine⟨sl,rfl,hb,λW hW=>?_⟩;have hb2:Bl w W:=(h0.trans (hb.mono h0.size)).trans (hW.mono (Ã h0.size hb.size));exact YR (B:=B) ⟨q8.1,q8.2.imp id λ⟨g',cap,cur,a1,a2,a3,a4⟩=>⟨g',cap,cur,a1,a2,(hW.block g' (È.1 a3).1).trans a3,a4⟩⟩ hl.plain hl.step hm (HT.u.below (hb2.mono qe))
 clear hz qd HK;go_region_with (first
  |(go_at_call 16;refine(q6.u _ _ ?_ ?_).mono ?_;exact BZ (qb.u.alloc (A3 q5) _);exact Ax _ _ _ rfl;rintro x w1⟨sl,rfl,hb1,q4⟩;have q0:=(BZ ((Â wa.1.size wa).alloc (Á _) (.cells #[.int .i64 1,.int .i64 2,.int .i64 3,.int .i64 4,.int .i64 5,.int .i64 7] 3)):Bl wa ((wa.alloc (.cells #[.int .i64 1,.int .i64 2,.int .i64 3,.int .i64 4,.int .i64 5,.int .i64 7] 3)).drew)).trans (hb1.mono φ);have y0:=As q0 _ _ q5 z0;have y1:=As q0 _ _ q5 z1;have y2:=As q0 _ _ q5 z2)
  |(go_at_call 15;refine(q4.u _ ?_).mono ?_;exact BZ (Â _ w1);rintro x w2⟨rfl,hb2⟩))
 all_goals (
  have q7:Bl w w2:=(qb.u.trans (q0.mono (A3 q5))).trans (Below.mono (B:=w1.1.size) (w:=w1) (bx hb2) (Ã (A3 q5) q0.size));have q9:=Ab q7;clear q7 hb2 hb1 q0 q4 y0 y1 y2 z0 z1 z2;go_wp2_with fail;go_ret;exact⟨rfl,q9.u⟩)
theorem kS{L3:List Tri}(h:Hw l [1,2,3,4,5,7] L3)(hn:∀o∈l,o.2.1.length<=1048576):Pts (L3.map prT):=by
 intro o ho;obtain⟨p,hp,rfl⟩:=Ò.1 ho;obtain⟨h1,h2⟩:=h p hp;refine⟨?_,hn p h1⟩;have h3:p.1∈([1,2,3,4,5,7]:List Int):=h2;simpa[prT]using h3
theorem QN{d x n:Int}{sb so m:Nat}{w:AI}(hs:Scr w sb so l)(hm:m=l.length)(q7:m<=1048576)(hn:∀o∈l,o.2.1.length<=1048576)(q6:sb<w.1.size)(hT:Aj w):
  CB 8 #[.agg #[.int .i64 d,.int .i64 x,.int .i64 n],.slice (some ⟨sb,so,none⟩) m cap] w (.bool true):=by
 refine KY ?_ hT;intro w0 g h0 h1;have hc:∀j (hj:j<([1,2,3,4,5,7]:List Int).length),w0.cell? ⟨g,j,none⟩=some (.int .i64 ([1,2,3,4,5,7]:List Int)[j]):=by
  intro j hj
  match j,hj with
  |0,_=>simp[AS,h1]
  |1,_=>simp[AS,h1]
  |2,_=>simp[AS,h1]
  |3,_=>simp[AS,h1]
  |4,_=>simp[AS,h1]
  |5,_=>simp[AS,h1]
 refine(WP (N:=6) (ks:=[1,2,3,4,5,7]) (hs.low h0 q6) hm rfl ζ ζ ζ (by have:=h0.size;omega) hc (È.1 h1).1).mono ?_;rintro e w' ⟨sl,L3,rfl,hb,q4,q0,q5⟩;exact⟨sl,L3,_,rfl,hb,q4,kS q0 hn,ζ⟩
theorem RK{d x n:Int}{pa:Option Addr}{w:AI}(hT:Aj w):
  CB 8 #[.agg #[.int .i64 d,.int .i64 x,.int .i64 n],.slice pa 0 cap] w (.bool true):=by
 refine KY ?_ hT;intro w0 g h0 h1;refine(ZK).mono ?_;rintro e w' ⟨rfl,rfl⟩;exact⟨.slice none 0 0,[],0,rfl,Â _ _,å _ _ _ _,λo ho=>absurd ho φ,φ⟩
