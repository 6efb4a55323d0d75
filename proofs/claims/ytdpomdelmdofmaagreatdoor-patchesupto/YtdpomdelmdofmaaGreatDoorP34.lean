import Derived.Test.YtdpomdelmdofmaaGreatDoorP26
set_option maxRecDepth 100000
set_option maxHeartbeats 8000000
namespace Go.Proofs.YtdpomdelmdofmaaGreatDoor
open Go.Proofs.Tryz Go.RowKit
def ANA(w:World)(g:Nat)(a:rD):Prop:=w.1[g]?=some (.cells #[InB a.1,InB a.2.1,.string ⟨a.2.2.toArray⟩] 46 (0,0))
section
variable{w:World}{g:Nat}{a:rD}
theorem ANA.c0(h:ANA w g a):CeB w g 0=some (InB a.1):=ck h
theorem ANA.c1(h:ANA w g a):CeB w g 1=some (InB a.2.1):=ck h
theorem ANA.c2(h:ANA w g a):CeB w g 2=some (.string ⟨a.2.2.toArray⟩):=ck h
theorem ANA.kept(h:ANA w g a){w':World}(e:w'.1[g]?=w.1[g]?):ANA w' g a:=e.trans h
end
section
variable{E:Nat}{d x n:Int}{p:Addr}{q:Value}{w:World}{F:Nat->Prop}{o:O}
theorem V2(s t:By)(hn:s.length<=1048576)(h:EB w E d x n (.pointer (some p)) q)(q7:Ar top F w (.pointer (some p)) o)(qd:qM top o)(hl:(pP top (pO top o)).length<=80000)(hT:Aj w):
  CB 39 #[PtB E,.agg #[InB 3,.string ⟨s.toArray⟩,.string ⟨t.toArray⟩],Ay (tG (pO top o) s)] w (.bool true):=by
 have qh:=h.lt;obtain⟨A,hA⟩:∃A,A=tG (pO top o) s:=⟨_,rfl⟩
 obtain⟨w1,q4⟩:∃w1,w1=((w.alloc (.cells #[InB 3,.string ⟨s.toArray⟩,.string ⟨t.toArray⟩] 49)).alloc (.cells #[InB A.1,InB A.2.1,.string ⟨A.2.2.toArray⟩] 46)):=⟨_,rfl⟩
 have hb1:Bl w w1:=by rw[q4];exact((Â _ _).alloc (Á _) _).alloc φ _
 have q5:ANA w1 (w.1.size+1) A:=by rw[q4];exact Ax _ _ _ φ
 have q9:w1.1[w.1.size]?=some (.cells #[InB 3,.string ⟨s.toArray⟩,.string ⟨t.toArray⟩] 49 (0,0)):=by
  rw[q4];show((w.1.push _).push _)[w.1.size]?=_;simp[ŀ]
 have qi:w.1.size+2<=w1.1.size:=by rw[q4];simp
 have q8:=h.low hb1;have e3:=q8.c3;have o0:w1.cell? ⟨w.1.size,0,none⟩=some (InB 3):=ck q9;have o1:w1.cell? ⟨w.1.size,1,none⟩=some (.string ⟨s.toArray⟩):=ck q9;have a0:=q5.c0;have a1:=q5.c1;have a2:=q5.c2;have qb:=Ab hb1;have qg:=Ab q5;have q0:=Ab (λ(W:World) (hW:Bl w1 W)=>YX s hn (q8.low hW) ((q7.below hb1).below hW) qd hl ((hT.below (hb1.mono hT.ng)).below (hW.mono (Ã hT.ng hb1.size))));rw[<-hA]at q0 |-;have qf:=Ab q4;clear h hb1 q5 q8 q7 qd hT hl hA q9 q4;unfold Ay at q0 |-;go_enter func39,ntmps39;go_upto_region 1 with(fail)
 rw[<-qf.u];go_upto_region 16 with(fail)
 go_region_with (go_at_call 47;refine(q0.u _ ?_).mono ?_;exact⟨rfl,rfl,rfl,Á _,λ_ _=>rfl⟩;rintro e w4⟨rfl,hb4⟩;have b0:=(hb4.cell (p:=⟨w.1.size+1,0,none⟩) (show w.1.size+1<w1.1.size from ζ)).trans a0;have b1:=(hb4.cell (p:=⟨w.1.size+1,1,none⟩) (show w.1.size+1<w1.1.size from ζ)).trans a1;have b2:=(hb4.cell (p:=⟨w.1.size+1,2,none⟩) (show w.1.size+1<w1.1.size from ζ)).trans a2);all_goals (
  have q6:Bl w1 w4:=bx hb4;have qe:=Ab q6;clear hb4 q6 b0 b1 b2;go_wp2;go_ret;exact⟨by first|kernel_rfl|simp,qb.u.trans (qe.u.mono qb.u.size)⟩)
theorem TY(s t:By)(hn:s.length<=1048576)(h:EB w E d x n (.pointer (some p)) q)(q8:Ar top F w (.pointer (some p)) o)(qh:qM top o)(hl:(pP top (pO top o)).length<=80000)(hd:1<=d/\d<=20)(hx:0<=x/\x<=400)(hT:Aj w):
  CB 39 #[PtB E,.agg #[InB 4,.string ⟨s.toArray⟩,.string ⟨t.toArray⟩],AC (tK d x (pO top o) s t) []] w (.bool true):=by
 have qk:=h.lt;obtain⟨A,hA⟩:∃A,A=tK d x (pO top o) s t:=⟨_,rfl⟩
 obtain⟨w1,q5⟩:∃w1,w1=((w.alloc (.cells #[InB 4,.string ⟨s.toArray⟩,.string ⟨t.toArray⟩] 49)).alloc (.cells #[InB A,InB 0,.string ⟨([]:By).toArray⟩] 46)):=⟨_,rfl⟩
 have hb1:Bl w w1:=by rw[q5];exact((Â _ _).alloc (Á _) _).alloc φ _
 have q9:AN w1 (w.1.size+1) A []:=by rw[q5];exact Ax _ _ _ φ
 have qb:w1.1[w.1.size]?=some (.cells #[InB 4,.string ⟨s.toArray⟩,.string ⟨t.toArray⟩] 49 (0,0)):=by
  rw[q5];show((w.1.push _).push _)[w.1.size]?=_;simp[ŀ]
 have qm:w.1.size+2<=w1.1.size:=by rw[q5];simp
 have qd:=h.low hb1;have e3:=qd.c3;have o0:w1.cell? ⟨w.1.size,0,none⟩=some (InB 4):=ck qb;have o1:w1.cell? ⟨w.1.size,1,none⟩=some (.string ⟨s.toArray⟩):=ck qb;have o2:w1.cell? ⟨w.1.size,2,none⟩=some (.string ⟨t.toArray⟩):=ck qb;have a0:=q9.c0;have a1:=q9.c1;have a2:=q9.c2;have qf:=Ab hb1;have q0:=Ab (λ(W:World) (hW:Bl w1 W)=>Q8 s t hn (qd.low hW) ((q8.below hb1).below hW) qh hl hd hx ((hT.below (hb1.mono hT.ng)).below (hW.mono (Ã hT.ng hb1.size))));have qg:=Ab (λ(k:Nat) (w:World)=>Ec k w);rw[<-hA]at q0 |-;have qj:=Ab q5;clear h hb1 q9 qd q8 qh hT hl hA qb q5 hd hx;unfold AC at qg |-;go_enter func39,ntmps39;go_upto_region 1 with(fail)
 rw[<-qj.u];go_upto_region 18 with(fail)
 go_region_with (first
  |(go_at_call 48;refine(q0.u _ ?_).mono ?_;exact⟨rfl,rfl,rfl,Á _,λ_ _=>rfl⟩;rintro e w4⟨rfl,hb4⟩;have b0:=(hb4.cell (p:=⟨w.1.size+1,0,none⟩) (show w.1.size+1<w1.1.size from ζ)).trans a0;have b1:=(hb4.cell (p:=⟨w.1.size+1,1,none⟩) (show w.1.size+1<w1.1.size from ζ)).trans a1;have b2:=(hb4.cell (p:=⟨w.1.size+1,2,none⟩) (show w.1.size+1<w1.1.size from ζ)).trans a2;have qe:w.1.size+1<w4.1.size:=Õ (show w.1.size+1<w1.1.size from ζ) hb4.size)
  |(go_at_call 38;refine(qg.u A _).mono ?_;rintro e w5⟨rfl,q6⟩;have f0:=(q6.cell (p:=⟨w.1.size+1,0,none⟩) qe).trans b0;have f1:=(q6.cell (p:=⟨w.1.size+1,1,none⟩) qe).trans b1;have f2:=(q6.cell (p:=⟨w.1.size+1,2,none⟩) qe).trans b2))
 all_goals (
  have q4:Bl w1 w4:=bx hb4;have q7:Bl w4 w5:=bx q6;have qi:=Ab (q4.trans (q7.mono q4.size));clear hb4 q4 q6 q7 b0 b1 b2 f0 f1 f2;go_wp2;go_ret;exact⟨by first|kernel_rfl|simp,qf.u.trans (qi.u.mono qf.u.size)⟩)
end
