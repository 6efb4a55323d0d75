import Derived.Test.YtdpomdelmdofmaaGreatDoorP06
open Go.World renaming cell?->AI
open Go.Proofs.Tryz renaming prog->AS
open Go renaming madeCells->AT,World->A1
open Go.Instr renaming makeSlice->A2
set_option maxRecDepth 100000
set_option maxHeartbeats 4000000
namespace Go.Proofs.YtdpomdelmdofmaaGreatDoor
open Go.Proofs.Tryz Go.RowKit
variable{w:A1}{A n B:Nat}{cs:Array Value}{a:List rD}{d e:Int}{l:List St}
def Plain(l:List St):Prop:=∀o∈l,cT o
def Scr(w:A1)(sb so:Nat)(l:List St):Prop:=∀i (h:i<l.length),w.cell? ⟨sb,so+i*3,none⟩=some (InB l[i].1)/\w.cell? ⟨sb,so+i*3+1,none⟩=some (.string ⟨l[i].2.1.toArray⟩)/\w.cell? ⟨sb,so+i*3+2,none⟩=some (.string ⟨l[i].2.2.toArray⟩)
def F0(cs:Array Value)(n:Nat)(a:List rD):Prop:=cs.size=n*3/\∀i (h:i<a.length),cs[i*3]?=some (InB a[i].1)/\cs[i*3+1]?=some (InB a[i].2.1)/\cs[i*3+2]?=some (.string ⟨a[i].2.2.toArray⟩)
theorem cE:(Tryz.prog.info? 46).map (λi=>(i.zero,i.size,i.bytes))=some (some (.agg #[InB 0,InB 0,.string ⟨#[]⟩]),3,32):=δ
theorem QH(n:Nat)(hn:n*32<=281474976710656)(w:A1):(A2 43 (InB n) (InB n)).run AS w=.ok (.slice (some ⟨w.1.size,0,none⟩) n n) (w.alloc (.cells (AT #[InB 0,InB 0,.string ⟨#[]⟩] (n*3)) 46)):=by
 obtain⟨i,hi,h⟩:=à.1 cE;injection h with h1 h2;injection h2 with h2 h3;have:=run_make (P:=AS) w 43 46 i _ underlying43 hi h1 .i64 .i64 n n ζ ζ ε ζ;grind [Value.cells]
theorem BX{t:Nat}{fr:Nat×Nat}(h:w.1[A]?=some (.cells cs t fr))(o:Nat)(u:Value):(w.setCell ⟨A,o,none⟩ u).1[A]?=some (.cells (cs.setIfInBounds o u) t fr):=by
 grind [World.setCell]
theorem F0.snoc(h:F0 cs n a)(x:rD)(hl:a.length<n):
  F0 (((cs.setIfInBounds (a.length*3) (InB x.1)).setIfInBounds (a.length*3+1) (InB x.2.1)).setIfInBounds (a.length*3+2) (.string ⟨x.2.2.toArray⟩)) n (a++[x]):=by
 obtain⟨h1,h2⟩:=h;refine⟨ε,λi hi=>?_⟩;simp only[Array.getElem?_setIfInBounds,Array.size_setIfInBounds];grind
def QM(d e n:Int)(l:List St)(S A m:Nat)(w0:A1)(k:Nat)(w:A1):Prop:=
 ∃p cs,SB w S d e n p/\BN w (λj=>w0.1.size<=j/\j≠S/\j≠A) p d e (sI d e n none (l.take k))/\w.1[A]?=some (.cells cs 46 (0,0))/\F0 cs m (sM d e n none (l.take k))/\Bl w0 w
theorem QM.next{n:Int}{S m k:Nat}{w0:A1}(hk:k<l.length)(hm:m=l.length)(qf:S≠A)(q4:w0.1.size<=A)(qi:w0.1.size<=S)(hA:w.1[A]?=some (.cells cs 46 (0,0)))(q5:F0 cs m (sM d e n none (l.take k)))(hb:Bl w0 w){w1 w3:A1}{o:Obj}(q9:w1=w.alloc o)(qj:S<w.1.size){F:Nat->Prop}(hF:∀j,F j->w0.1.size<=j/\j≠S/\j≠A)(qh:Ek S d e n (sI d e n none (l.take k)) l[k] F w1 (.returned (Ay (rF d e n (sI d e n none (l.take k)) l[k]).1)) w3):
  QM d e n l S A m w0 (k+1) (((w3.setCell ⟨A,k*3,none⟩ (InB (rF d e n (sI d e n none (l.take k)) l[k]).1.1)).setCell ⟨A,k*3+1,none⟩ (InB (rF d e n (sI d e n none (l.take k)) l[k]).1.2.1)).setCell ⟨A,k*3+2,none⟩ (.string ⟨(rF d e n (sI d e n none (l.take k)) l[k]).1.2.2.toArray⟩)):=by
 obtain⟨_,q8,p',qg,hdoc⟩:=qh;have qe:A<w.1.size:=ε;have qb:w1.1[A]?=some (.cells cs 46 (0,0)):=by rw[q9];exact(Ä _ _ _ qe).trans hA
 have qk:w1.1.size=w.1.size+1:=κ;have qd:w3.1[A]?=some (.cells cs 46 (0,0)):=(q8.block A ζ ε).trans qb;have q6:(sM d e n none (l.take k)).length=k:=by rw[vL,İ];omega
 have htk:l.take (k+1)=l.take k++[l[k]]:=Í hk;have q7:=BX (BX (BX qd (k*3) (InB (rF d e n (sI d e n none (l.take k)) l[k]).1.1)) (k*3+1) (InB (rF d e n (sI d e n none (l.take k)) l[k]).1.2.1)) (k*3+2) (.string ⟨(rF d e n (sI d e n none (l.take k)) l[k]).1.2.2.toArray⟩);have q0:=q5.snoc (rF d e n (sI d e n none (l.take k)) l[k]).1 ζ;rw[q6,<-wL,<-htk]at q0;have ho:∀j,j≠A->(((w3.setCell ⟨A,k*3,none⟩ (InB (rF d e n (sI d e n none (l.take k)) l[k]).1.1)).setCell ⟨A,k*3+1,none⟩ (InB (rF d e n (sI d e n none (l.take k)) l[k]).1.2.1)).setCell ⟨A,k*3+2,none⟩ (.string ⟨(rF d e n (sI d e n none (l.take k)) l[k]).1.2.2.toArray⟩)).1[j]?=w3.1[j]?:=λj hj=>
  (Æ _ _ _ _ hj).trans ((Æ _ _ _ _ hj).trans (Æ _ _ _ _ hj))
 refine⟨p',_,(ho S qf).trans qg,?_,q7,q0,?_⟩
 .rw[htk,vR];refine hdoc.move λj h1 _=>?_;grind
 .have hb1:Bl w0 w1:=by rw[q9];exact hb.alloc ζ _
  have hb3:Bl w0 w3:=hb1.trans (q8.below ε hb1.size);exact An (An (An hb3 A _ q4 _) A _ q4 _) A _ q4 _
theorem F0.cell(h:F0 cs n a)(j:Nat)(hj:j<n*3):∃u,cs[j]?=some u:=by
 have:=h.1;simp_all
theorem cJ{n:Int}{sb so m cap:Nat}(hs:Scr w sb so l)(qq:Plain l)(hm:m=l.length)(hpos:0<m)(z0:m<=cap)(hb:m*32<=281474976710656)(qk:sb<w.1.size)(hT:Aj w):
  Calls AS 24 #[.agg #[.int .i64 d,.int .i64 e,.int .i64 n],.slice (some ⟨sb,so,none⟩) m cap] w λx w'=>∃A cs,x=.returned (SlB A m m)/\w.1.size<=A/\w'.1[A]?=some (.cells cs 46 (0,0))/\F0 cs m (sM d e n none l)/\Bl w w':=by
 have z7:=QH m hb;have z8:(m:Int)<=9223372036854775807:=ζ;have HM:=Ab hm;have HS:=Ab hs;have HT:=Ab hT;have z2:=hT.ng;have qm:Hid (QM d e n l (w.1.size+1+1) (w.1.size+1) m w 0 (((w.alloc (.cells #[.int .i64 d,.int .i64 e,.int .i64 n] 23)).alloc (.cells (AT #[.int .i64 0,.int .i64 0,.string ⟨#[]⟩] (m*3)) 46)).alloc (.cells #[.int .i64 d,.int .i64 e,.int .i64 n,.pointer none] 62))):=by
  refine⟨.pointer none,AT #[.int .i64 0,.int .i64 0,.string ⟨#[]⟩] (m*3),?_,rfl,?_,⟨size_madeCells _ _,λi hi=>absurd hi (by simp[sM])⟩,(((Â _ w).alloc (Á _) _).alloc φ _).alloc ω _⟩
  .show (((w.1.push _).push _).push _)[w.1.size+1+1]?=_;grind
  .show (((w.1.push _).push _).push _)[w.1.size+1]?=_;grind
 have qv:=Ab qq;clear hm hs hT qq;go_enter func24,ntmps24;go_wp2;go_loopw [16] (λi wr=>∃k:Nat,k<=m/\i=.int .i64 k/\QM d e n l (w.1.size+1+1) (w.1.size+1) m w k wr) (λi _=>m-(intOf i).toNat)
 case atStart=>exact⟨0,ζ,rfl,qm.u⟩
 case round=>
  obtain⟨k,hk,rfl,p,cs,q7,hdoc,qd,q6,q4⟩:=hrel;by_cases hlt:k<m
  .have qj:k<l.length:=by have:=HM.u;omega
   obtain⟨q0,q1,q2⟩:=HS.u k qj;have z3:wr.cell? ⟨sb,so+k*3,none⟩=some (.int .i64 l[k].1):=(q4.cell (p:=⟨sb,so+k*3,none⟩) qk).trans q0;have z4:wr.cell? ⟨sb,so+k*3+1,none⟩=some (.string ⟨l[k].2.1.toArray⟩):=(q4.cell (p:=⟨sb,so+k*3+1,none⟩) qk).trans q1;have z5:wr.cell? ⟨sb,so+k*3+2,none⟩=some (.string ⟨l[k].2.2.toArray⟩):=(q4.cell (p:=⟨sb,so+k*3+2,none⟩) qk).trans q2;have qw:=Ab q7;have qh:=Ab hdoc;have q9:=Ab qd;have q5:=Ab q6;have q8:=Ab q4;have qi:=q7.lt;have z6:=q4.size;clear q0 q1 q2 q7 hdoc qd q6 q4 qm;have qz:w.1.size+1<wr.1.size:=ζ;go_wp2_with fail;have qf:Bl wr (wr.alloc (.cells #[.int .i64 l[k].1,.string ⟨l[k].2.1.toArray⟩,.string ⟨l[k].2.2.toArray⟩] 49)):=(Â _ _).alloc (Á _) _;have qn:BN (wr.alloc (.cells #[.int .i64 l[k].1,.string ⟨l[k].2.1.toArray⟩,.string ⟨l[k].2.2.toArray⟩] 49)) (λj=>w.1.size<=j/\j≠w.1.size+1+1/\j≠w.1.size+1) p d e (sI d e n none (l.take k)):=qh.u.move λj h1 h2=>⟨qf.block j h2,h1⟩
   refine(YD l[k].1 l[k].2.1 l[k].2.2 ζ (qv.u _ (Ó qj)) (qw.u.low qf) qn ((HT.u.below (q8.u.mono z2)).below (qf.mono ζ))).mono ?_;rintro x w3 qg;have hx:=qg.1;subst hx;have qe:=qg;have qo:=qe.2.1;have qb:w3.1[w.1.size+1]?=some (.cells cs 46 (0,0)):=(qo.block _ ω ζ).trans ((Ä _ _ _ qz).trans q9.u);obtain⟨u0,qr⟩:=q5.u.cell (k*3) ζ;obtain⟨u1,qt⟩:=q5.u.cell (k*3+1) ζ;obtain⟨u2,qu⟩:=q5.u.cell (k*3+2) ζ;have g0:w3.cell? ⟨w.1.size+1,k*3,none⟩=some u0:=by simp[AI,qb,qr]
   have g1:w3.cell? ⟨w.1.size+1,k*3+1,none⟩=some u1:=by simp[AI,qb,qt]
   have g2:w3.cell? ⟨w.1.size+1,k*3+2,none⟩=some u2:=by simp[AI,qb,qu]
   have z:∀o,w3.frozen? ⟨w.1.size+1,o,none⟩=false:=λo=>fk qb;have qy:=Ab qg;clear qg qe qo qb qf qn qr qt qu;unfold Ay;go_wp2;exact⟨⟨k+1,ζ,ψ,QM.next qj HM.u ζ ζ ζ q9.u q5.u q8.u rfl qi (λj hj=>hj) qy.u⟩,by simp[intOf];omega⟩
  .go_wp2;go_ret;have z1:k=m:=ζ;subst z1;rw[Ï (by have:=HM.u;omega)]at q6;simp_all
theorem jI{n:Int}{pa:Option Addr}{cap:Nat}:
  Calls AS 24 #[.agg #[InB d,InB e,InB n],.slice pa 0 cap] w λx w'=>∃A cs,x=.returned (SlB A 0 0)/\w.1.size<=A/\w'.1[A]?=some (.cells cs 46 (0,0))/\F0 cs 0 (sM d e n none [])/\Bl w w':=by
 have q0:∀W:A1,(A2 43 (InB 0) (InB 0)).run AS W=.ok (.slice (some ⟨W.1.size,0,none⟩) 0 0) (W.alloc (.cells (AT #[InB 0,InB 0,.string ⟨#[]⟩] 0) 46)):=λW=>by simpa using QH 0 ζ W
 go_enter func24,ntmps24;go_wp2_with fail;refine ø 1 ?_;rw[ď];go_wp2;go_ret;refine⟨w.1.size+1,AT #[InB 0,InB 0,.string ⟨#[]⟩] 0,rfl,ζ,?_,⟨size_madeCells _ _,λi hi=>absurd hi (by simp[sM])⟩,(((Â _ w).alloc (Á _) _).alloc φ _).alloc ω _⟩;show(((w.1.push _).push _).push _)[w.1.size+1]?=_;grind
theorem Scr.low{w':A1}{sb so:Nat}(h:Scr w sb so l)(hb:Below B w w')(hs:sb<B):Scr w' sb so l:=by
 intro i hi;obtain⟨h1,h2,h3⟩:=h i hi;exact⟨(hb.cell (p:=⟨sb,_,none⟩) hs).trans h1,(hb.cell (p:=⟨sb,_,none⟩) hs).trans h2,(hb.cell (p:=⟨sb,_,none⟩) hs).trans h3⟩
theorem F0.at(h:F0 cs n a)(hw:w.1[A]?=some (.cells cs 46 (0,0)))(i:Nat)(hi:i<a.length):
  w.cell? ⟨A,i*3,none⟩=some (.int .i64 a[i].1)/\w.cell? ⟨A,i*3+1,none⟩=some (.int .i64 a[i].2.1)/\w.cell? ⟨A,i*3+2,none⟩=some (.string ⟨a[i].2.2.toArray⟩):=by
 have q0:∀j,w.cell? ⟨A,j,none⟩=cs[j]?:=λj=>by simp[AI,hw]
 rw[q0,q0,q0];exact h.2 i hi
theorem BZ{a w':A1}(h:Below B a w)(e:w'.1=w.1:=by rfl)(e1:w'.os=w.os:=by rfl)(e2:w'.tape=w.tape:=by rfl)(e3:w'.output=w.output:=by rfl):Below B a w':=
 ⟨e1.trans h.os,e2.trans h.tape,e3.trans h.output,by rw[e];exact h.size,λk hk=>by rw[e];exact h.block k hk⟩
theorem Lv{a a':A1}(h:Below B a w)(e:a.1=a'.1:=by rfl)(e1:a.os=a'.os:=by rfl)(e2:a.tape=a'.tape:=by rfl)(e3:a.output=a'.output:=by rfl):Below B a' w:=
 ⟨h.os.trans e1,h.tape.trans e2,h.output.trans e3,by rw[<-e];exact h.size,λk hk=>by rw[<-e];exact h.block k hk⟩
