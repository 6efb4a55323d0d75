import Derived.Test.YtdpomdelmdofmaaGreatDoorP15
open Go.Proofs.Tryz renaming prog->AI
open Go renaming World->AS,Calls->AT,Value->A2
open List renaming length_eq_zero_iff->A1
set_option maxHeartbeats 4000000
set_option maxRecDepth 100000
namespace Go.Proofs.YtdpomdelmdofmaaGreatDoor
open Go.Proofs.Tryz Go.RowKit Go.Maps
variable{f:Nat}{m:pN}{p:List By}{w':AS}
section
variable{w:AS}{D k b i:Nat}{pa fa qa y wp:Option Addr}{pl pc fl fc ql qc c:Nat}{key:By}{Q:AS->Prop}
theorem UU(hc:c≠0)(hT:∀w1,Bl w w1->CB 198 #[PtB D,.slice fa fl fc] w1 (.tuple #[plZ,InB c])):
  CB 154 #[PtB D,opV k pa pl pc fa fl fc y] w (InB c):=by
 have HT:=Ab hT;obtain⟨wa,q5,hob,q0⟩:=Ep w k pa pl pc fa fl fc y;have q4:=Ab q0;have hs:=q0.size;have e2:((c:Int)!=0)=true:=by rw[bne_iff_ne];omega
 have e3:((c:Int)==0)=false:=by rw[beq_eq_false_iff_ne];omega
 have b2:=hob.c2;clear hT hob q0 hc;go_enter func154,ntmps154;go_wp2_with fail;rw[<-q5.u];go_wp2_with fail;refine(HT.u wa q4.u).mono ?_;rintro e w2⟨rfl,hb⟩;have hs2:=hb.size;have HB:=Ab (q4.u.trans (hb.mono ζ));clear hb b2;go_wp2;go_ret;exact⟨rfl,HB.u.alloc ζ _⟩
structure KL(w:AS)(k:Nat)(pa:Option Addr)(pl pc:Nat)(fa:Option Addr)(fl fc:Nat)(y:Option Addr)(qa:Option Addr)(ql qc b:Nat)(key:By)(i q:Nat)(w3:AS):Prop where
 bel:Bl w w3
 op:OpB w3 w.1.size k pa pl pc fa fl fc y
 pb:Be w3 q (.slice qa ql qc) b key i
 le:w.1.size<q
theorem KL.low{w w3 w4:AS}{q:Nat}(h:KL w k pa pl pc fa fl fc y qa ql qc b key i q w3)(hb:Bl w3 w4):KL w k pa pl pc fa fl fc y qa ql qc b key i q w4:=
 ⟨h.bel.trans (hb.mono h.bel.size),h.op.low hb,(hb.block q (È.1 h.pb).1).trans h.pb,h.le⟩
theorem KL.mk'{w wa w2 w3:AS}(h1:Bl w wa)(h2:OpB wa w.1.size k pa pl pc fa fl fc y)(hb:Bl wa w2)(q0:w3=w2.alloc (.cells #[.slice qa ql qc,PtB b,.string ⟨key.toArray⟩,InB i] 185)):KL w k pa pl pc fa fl fc y qa ql qc b key i w2.1.size w3:=by
 have hs:=hb.size;have h3:=h2.lt;have hb2:Bl w2 w3:=by rw[q0];exact(Â _ _).alloc (Á _) _
 refine⟨(h1.trans (hb.mono h1.size)).trans (hb2.mono (by have:=h1.size;omega)),(h2.low hb).low hb2,by rw[q0];exact Ê w2 _,ζ⟩
theorem Jp{be bl:Bool}{Q1:AS->Prop}{Q:Nat->AS->Prop}{x:Option Addr}(hT:∀w1,Bl w w1->CB 198 #[PtB D,.slice fa fl fc] w1 (.tuple #[plV (.slice qa ql qc) b key i,InB 0]))(hE:∀w1,Bl w w1->CB 202 #[.slice fa fl fc,.slice pa pl pc] w1 (.bool be))(hS:be=true ->∀w1,Bl w w1->Q 0 w1)(hL:be=false ->∀w1,Bl w w1->CB 203 #[.slice pa pl pc,.slice fa fl fc] w1 (.bool bl))(qf:be=false->bl=true ->∀w1,Bl w w1->Q 13 w1)(hG:be=false->bl=false ->∀w1,Bl w w1->CB 159 #[plV (.slice qa ql qc) b key i] w1 (.pointer x))(hR:be=false->bl=false ->∀w1,Bl w w1->OpB w1 w.1.size k pa pl pc fa fl fc y->AT AI 199 #[PtB D,plV (.slice qa ql qc) b key i] w1 λe w'=>e=.returned (.tuple #[])/\OpB w' w.1.size k pa pl pc fa fl fc y/\Hid (Q1 w'))(hA:∀w1,Q1 w1->AT AI 197 #[PtB D,.slice pa pl pc,.pointer x] w1 λe w'=>∃c:Nat,e=.returned (InB c)/\Hid (Q c w')):
  AT AI 154 #[PtB D,opV k pa pl pc fa fl fc y] w λe w'=>∃c:Nat,e=.returned (InB c)/\Q c w':=by
 have HT:=Ab hT;have HE:=Ab hE;have HL:=Ab hL;have HS:=Ab hS;have qi:=Ab qf;have HG:=Ab hG;have HR:=Ab hR;have HA:=Ab hA;obtain⟨wa,qj,hob,qg⟩:=Ep w k pa pl pc fa fl fc y;have qb:=Ab qg;have q5:=Ab hob;have b2:=hob.c2;clear hT hE hL hS qf hG hR hA hob qg;go_enter func154,ntmps154;go_wp2_with fail;rw[<-qj.u];go_wp2_with fail;refine(HT.u wa qb.u).mono ?_;rintro e w2⟨rfl,hb⟩;obtain⟨w3,q9⟩:∃w3,w3=w2.alloc (.cells #[.slice qa ql qc,PtB b,.string ⟨key.toArray⟩,InB i] 185):=⟨_,rfl⟩
 have hM:=KL.mk' (qa:=qa) (ql:=ql) (qc:=qc) (b:=b) (key:=key) (i:=i) qb.u q5.u hb q9;have HM:=Ab hM;have qe:=Ab q9;have c1:=hM.op.c1;have c2:=hM.op.c2;have k1:∀o,(w2.alloc o).cell? ⟨w.1.size,1,none⟩=some (.slice pa pl pc):=λo=>(Ç (w:=w2) (Ä w2 o _ (q5.u.low hb).lt)).trans (q5.u.low hb).c1;have k2:∀o,(w2.alloc o).cell? ⟨w.1.size,2,none⟩=some (.slice fa fl fc):=λo=>(Ç (w:=w2) (Ä w2 o _ (q5.u.low hb).lt)).trans (q5.u.low hb).c2;clear hb b2 hM q9;go_wp2_with fail;rw[<-qe.u];clear qe k1 k2;refine(HE.u w3 HM.u.bel).mono ?_;rintro e w4⟨rfl,hb⟩;have q6:=HM.u.low hb;have q7:=Ab q6;clear hb c1 c2;have c1:=q6.op.c1;have c2:=q6.op.c2;clear q6;cases be with
 |true=>
  go_wp2;go_ret;exact⟨0,rfl,HS.u trivial _ q7.u.bel⟩
 |false=>
 go_wp2_with fail;refine(HL.u trivial w4 q7.u.bel).mono ?_;rintro e w5⟨rfl,hb⟩;have q0:=q7.u.low hb;have q8:=Ab q0;clear hb c1 c2;have e0:=q0.pb.c0;have e1:=q0.pb.c1;have e2:=q0.pb.c2;have e3:=q0.pb.c3;clear q0;cases bl with
 |true=>
  go_wp2;go_ret;exact⟨13,rfl,qi.u trivial trivial _ q8.u.bel⟩
 |false=>
 go_wp2_with fail;refine(HG.u trivial trivial w5 q8.u.bel).mono ?_;rintro e w6⟨rfl,hb⟩;have q4:=q8.u.low hb;have qd:=Ab q4;clear hb e0 e1 e2 e3;have e0:=q4.pb.c0;have e1:=q4.pb.c1;have e2:=q4.pb.c2;have e3:=q4.pb.c3;clear q4;go_wp2_with fail;refine(HR.u trivial trivial w6 qd.u.bel qd.u.op).mono ?_;rintro e w7⟨rfl,qh,hq⟩;have c1:=qh.c1;clear qh e0 e1 e2 e3;go_wp2_with fail;refine(HA.u w7 hq.u).mono ?_;rintro e w8⟨c,rfl,qk⟩;go_wp2;go_ret;exact⟨c,rfl,qk.u⟩
theorem Rs(hT:∀w1,Bl w w1->CB 198 #[PtB D,.slice fa fl fc] w1 (.tuple #[plV (.slice qa ql qc) b key i,InB 0]))(hE:∀w1,Bl w w1->CB 202 #[.slice fa fl fc,.slice pa pl pc] w1 (.bool true)):
  CB 154 #[PtB D,opV k pa pl pc fa fl fc y] w (InB 0):=
 (Jp (be:=true) (bl:=true) (x:=none) (Q1:=λ_=>False) (Q:=λc w'=>c=0/\Bl w w') hT hE (λ_ _ h=>⟨rfl,h⟩) (λh=>by cases h) (λh=>by cases h) (λh=>by cases h) (λh=>by cases h) (λ_ h=>h.elim)).mono λe w' ⟨c,h1,h2,h3⟩=>by subst h2;exact⟨h1,h3⟩
theorem Qp(hT:∀w1,Bl w w1->CB 198 #[PtB D,.slice fa fl fc] w1 (.tuple #[plV (.slice qa ql qc) b key i,InB 0]))(hE:∀w1,Bl w w1->CB 202 #[.slice fa fl fc,.slice pa pl pc] w1 (.bool false))(hL:∀w1,Bl w w1->CB 203 #[.slice pa pl pc,.slice fa fl fc] w1 (.bool true)):
  CB 154 #[PtB D,opV k pa pl pc fa fl fc y] w (InB 13):=
 (Jp (be:=false) (bl:=true) (x:=none) (Q1:=λ_=>False) (Q:=λc w'=>c=13/\Bl w w') hT hE (λh=>by cases h) (λ_=>hL) (λ_ _ _ h=>⟨rfl,h⟩) (λ_ h=>by cases h) (λ_ h=>by cases h) (λ_ h=>h.elim)).mono λe w' ⟨c,h1,h2,h3⟩=>by subst h2;exact⟨h1,h3⟩
theorem UW{Q1:AS->Prop}{Q:Nat->AS->Prop}{x:Option Addr}(hT:∀w1,Bl w w1->CB 198 #[PtB D,.slice fa fl fc] w1 (.tuple #[plV (.slice qa ql qc) b key i,InB 0]))(hE:∀w1,Bl w w1->CB 202 #[.slice fa fl fc,.slice pa pl pc] w1 (.bool false))(hL:∀w1,Bl w w1->CB 203 #[.slice pa pl pc,.slice fa fl fc] w1 (.bool false))(hG:∀w1,Bl w w1->CB 159 #[plV (.slice qa ql qc) b key i] w1 (.pointer x))(hR:∀w1,Bl w w1->OpB w1 w.1.size k pa pl pc fa fl fc y->AT AI 199 #[PtB D,plV (.slice qa ql qc) b key i] w1 λe w'=>e=.returned (.tuple #[])/\OpB w' w.1.size k pa pl pc fa fl fc y/\Hid (Q1 w'))(hA:∀w1,Q1 w1->AT AI 197 #[PtB D,.slice pa pl pc,.pointer x] w1 λe w'=>∃c:Nat,e=.returned (InB c)/\Hid (Q c w')):
  AT AI 154 #[PtB D,opV k pa pl pc fa fl fc y] w λe w'=>∃c:Nat,e=.returned (InB c)/\Q c w':=
 Jp (be:=false) (bl:=false) hT hE (λh=>by cases h) (λ_=>hL) (λ_ h=>by cases h) (λ_ _=>hG) (λ_ _=>hR) hA
theorem UX(hc:c≠0)(hW:∀w1,Bl w w1->CB 56 #[PtB D] w1 (.pointer wp))(hF:∀w1,Bl w w1->CB 81 #[.slice fa fl fc,.pointer wp] w1 (.tuple #[.pointer none,InB c])):
  CB 155 #[PtB D,opV k pa pl pc fa fl fc y] w (InB c):=by
 have HW:=Ab hW;have HF:=Ab hF;obtain⟨wa,q8,hob,q5⟩:=Ep w k pa pl pc fa fl fc y;have q9:=hob.lt;have q0:=Ab q5;have q7:=Ab hob;have hs:=q5.size;have e2:((c:Int)!=0)=true:=by rw[bne_iff_ne];omega
 have e3:((c:Int)==0)=false:=by rw[beq_eq_false_iff_ne];omega
 have b2:=hob.c2;clear hW hF hob q5 hc;go_enter func155,ntmps155;go_wp2_with fail;rw[<-q8.u];go_region_with (first
  |(go_at_call 56;refine(HW.u _ ?_).mono ?_;exact bx q0.u;rintro x w2⟨rfl,hb2⟩;replace hb2:Bl wa w2:=bx hb2;have d2:=(q7.u.low hb2).c2;have q4:=Ab hb2;clear hb2)
  |(go_at_call 81;refine(HF.u _ ?_).mono ?_;exact q0.u.trans ((q4.u.mono q0.u.size).trans ⟨rfl,rfl,rfl,Á _,λ_ _=>rfl⟩);rintro e w3⟨rfl,hb3⟩;replace hb3:Bl w2 w3:=bx hb3;have q6:=Ab hb3;clear hb3))
 all_goals (
  go_wp2;go_ret;exact⟨rfl,q0.u.trans ((q4.u.trans (q6.u.mono q4.u.size)).mono q0.u.size)⟩)
theorem Xw{Q:Nat->AS->Prop}{x:Option Addr}(hW:∀w1,Bl w w1->CB 56 #[PtB D] w1 (.pointer wp))(hF:∀w1,Bl w w1->CB 81 #[.slice fa fl fc,.pointer wp] w1 (.tuple #[.pointer x,InB 0]))(hA:∀w1,Bl w w1->AT AI 197 #[PtB D,.slice pa pl pc,.pointer x] w1 λe w'=>∃c:Nat,e=.returned (InB c)/\Hid (Q c w')):
  AT AI 155 #[PtB D,opV k pa pl pc fa fl fc y] w λe w'=>∃c:Nat,e=.returned (InB c)/\Q c w':=by
 have HW:=Ab hW;have HF:=Ab hF;have HA:=Ab hA;obtain⟨wa,qb,hob,q6⟩:=Ep w k pa pl pc fa fl fc y;have qe:=hob.lt;have q0:=Ab q6;have q8:=Ab hob;have hs:=q6.size;have b2:=hob.c2;clear hW hF hA hob q6;go_enter func155,ntmps155;go_wp2_with fail;rw[<-qb.u];go_region_with (first
  |(go_at_call 56;refine(HW.u _ ?_).mono ?_;exact bx q0.u;rintro x w2⟨rfl,hb2⟩;replace hb2:Bl wa w2:=bx hb2;have d2:=(q8.u.low hb2).c2;have q5:=Ab hb2;clear hb2)
  |(go_at_call 81;refine(HF.u _ ?_).mono ?_;exact q0.u.trans ((q5.u.mono q0.u.size).trans ⟨rfl,rfl,rfl,Á _,λ_ _=>rfl⟩);rintro e w3⟨rfl,hb3⟩;replace hb3:Bl w2 w3:=bx hb3;have q7:=Ab hb3;clear hb3))
 all_goals (
  have q4:=(q8.u.low q5.u).low q7.u;have c1:=q4.c1;have q9:=Ab (q0.u.trans ((q5.u.trans (q7.u.mono q5.u.size)).mono q0.u.size));clear q4
  try clear d2
  clear b2;go_wp2_with fail;refine(HA.u _ ?_).mono ?_
  .exact bx q9.u
  .rintro e w8⟨c,rfl,qd⟩;go_wp2;go_ret;exact⟨c,rfl,qd.u⟩)
theorem US(hc:c≠0)(hW:∀w1,Bl w w1->CB 56 #[PtB D] w1 (.pointer wp))(hF:∀w1,Bl w w1->CB 81 #[.slice pa pl pc,.pointer wp] w1 (.tuple #[.pointer none,InB c])):
  CB 156 #[PtB D,opV k pa pl pc fa fl fc y] w (InB c):=by
 have HW:=Ab hW;have HF:=Ab hF;obtain⟨wa,q8,hob,q5⟩:=Ep w k pa pl pc fa fl fc y;have q9:=hob.lt;have q0:=Ab q5;have q7:=Ab hob;have hs:=q5.size;have e2:((c:Int)!=0)=true:=by rw[bne_iff_ne];omega
 have e3:((c:Int)==0)=false:=by rw[beq_eq_false_iff_ne];omega
 have b1:=hob.c1;clear hW hF hob q5 hc;go_enter func156,ntmps156;go_wp2_with fail;rw[<-q8.u];go_region_with (first
  |(go_at_call 56;refine(HW.u _ ?_).mono ?_;exact bx q0.u;rintro x w2⟨rfl,hb2⟩;replace hb2:Bl wa w2:=bx hb2;have d1:=(q7.u.low hb2).c1;have q4:=Ab hb2;clear hb2)
  |(go_at_call 81;refine(HF.u _ ?_).mono ?_;exact q0.u.trans ((q4.u.mono q0.u.size).trans ⟨rfl,rfl,rfl,Á _,λ_ _=>rfl⟩);rintro e w3⟨rfl,hb3⟩;replace hb3:Bl w2 w3:=bx hb3;have q6:=Ab hb3;clear hb3))
 all_goals (
  go_wp2;go_ret;exact⟨rfl,q0.u.trans ((q4.u.trans (q6.u.mono q4.u.size)).mono q0.u.size)⟩)
theorem Xv{x:Option Addr}{bo:Bool}(hW:∀w1,Bl w w1->CB 56 #[PtB D] w1 (.pointer wp))(hF:∀w1,Bl w w1->CB 81 #[.slice pa pl pc,.pointer wp] w1 (.tuple #[.pointer x,InB 0]))(hS:∀w1,Bl w w1->CB 82 #[.pointer x,.pointer y] w1 (.bool bo)):
  CB 156 #[PtB D,opV k pa pl pc fa fl fc y] w (InB (if bo=true then 0 else 14)):=by
 have HW:=Ab hW;have HF:=Ab hF;have HS:=Ab hS;obtain⟨wa,qe,hob,q7⟩:=Ep w k pa pl pc fa fl fc y;have qf:=hob.lt;have q0:=Ab q7;have q9:=Ab hob;have hs:=q7.size;have b1:=hob.c1;clear hW hF hS hob q7;go_enter func156,ntmps156;go_wp2_with fail;rw[<-qe.u];go_region_with (first
  |(go_at_call 56;refine(HW.u _ ?_).mono ?_;exact bx q0.u;rintro x w2⟨rfl,hb2⟩;replace hb2:Bl wa w2:=bx hb2;have d1:=(q9.u.low hb2).c1;have q5:=Ab hb2;clear hb2)
  |(go_at_call 81;refine(HF.u _ ?_).mono ?_;exact q0.u.trans ((q5.u.mono q0.u.size).trans ⟨rfl,rfl,rfl,Á _,λ_ _=>rfl⟩);rintro e w3⟨rfl,hb3⟩;replace hb3:Bl w2 w3:=bx hb3;have q8:=Ab hb3;clear hb3))
 all_goals (
  have q4:=(q9.u.low q5.u).low q8.u;have c3:=q4.c3;have q6:=Ab (q0.u.trans ((q5.u.trans (q8.u.mono q5.u.size)).mono q0.u.size));clear q4
  try clear d1
  clear b1;go_wp2_with fail;refine(HS.u _ ?_).mono ?_
  .exact bx q6.u
  .rintro e w8⟨rfl,qb⟩;have qd:=Ab (q6.u.trans ((show Bl w3 w8 from(bx qb)).mono q6.u.size));clear qb;cases bo;all_goals (
    go_wp2;go_ret;exact⟨rfl,qd.u⟩))
end
theorem VL{i:Nat}{w:AS}{u:A2}{c:pN}{t:By}{d x lv:Int}(hu:Ad (f+1) w u m)(hg:pU d x (f+1) lv (pT (f+1) m))(hp:sY (pT (f+1) m) t=some i)(hk:(AM m)[i]?=some c):Bv m ((qG t).getD 0) t c:=by
 obtain⟨b,g,xx,rfl,rfl,h⟩:=hu;rcases h with⟨k,_,_,rfl,_⟩|⟨n,_,rfl,_⟩|⟨s,_,rfl,_⟩|⟨al,sl,ps,rfl,h,ho,hs,ha⟩|⟨es,n,D,rfl,h,ho,q7⟩
 .rw[FM]at hk;cases hk
 .rw[GK]at hk;cases hk
 .rw[GJ]at hk;cases hk
 .rw[Cs]at hk;rw[Bn]at hp;unfold sY Ak at hp;simp only at hp;cases hi:qG t with
  |none=>rw[hi]at hp;cases hp
  |some j=>
   rw[hi]at hp;simp only at hp;split at hp
   .cases hp;exact Å ⟨b,g,al,rfl,hk⟩
   .cases hp
 .rw[Cg]at hk;rw[Bc]at hp hg;have q0:AQ (es.map λp=>(p.1,pT f p.2)):=by
   obtain⟨_,hh⟩:=hg;rcases hh with⟨_,_,hh⟩|⟨_,_,hh⟩|⟨_,_,_,_,hh⟩|⟨_,_,hh⟩|⟨es',h1,h2,hh⟩
   .cases hh
   .cases hh
   .cases hh
   .cases hh
   .cases hh;exact⟨h1,ε⟩
  have q4:AQ es:=by
   refine⟨?_,λp hp=>q0.2 (p.1,pT f p.2) (Ò.2 ⟨p,hp,rfl⟩)⟩;have:=q0.1;grind
  unfold sY Ap at hp;simp only at hp;rw[List.findIdx?_map]at hp;obtain⟨hi,h1,_⟩:=List.findIdx?_eq_some_iff_getElem.1 hp;rw[Þ,Ô hi]at hk;injection hk with hk;obtain⟨s,hs⟩:=q4.2 _ (Ó hi);have q5:(es[i].1).sameKey (.string t)=true:=h1;rw[hs]at q5;have q6:=Fx.1 q5;subst q6;refine À ⟨b,g,es,rfl,?_,q4⟩;have:=Ó hi;rw[show es[i]=(Lit.string s,c)from ą hs hk]at this;exact this
section
variable{w:AS}{D R:Nat}{wp:Option Addr}{jn iv:A2}{ch:Bool}{Tb T a:pN}{Mb M:Nat->Prop}{wb:AS}{v xv:pL}{js:List pW}{y:Option Addr}{F:Nat->Prop}{d x:Int}{B:Nat}
theorem JL{c:Nat}{pa:Option Addr}{pl pc:Nat}(h:JS w D R wp jn iv ch Tb Mb wb T a v M js)(hT:Aj w)(hp:Bd w (GA (top+1) Tb wb M) (.slice pa pl pc) p)(hok:sK p)(hf:Ag v p=.error c):
  ∀w1,Bl w w1->CB 198 #[PtB D,.slice pa pl pc] w1 (.tuple #[plZ,InB c]):=by
 intro w1 hb1;have hne:p≠[]:=by rintro rfl;cases hf
 obtain⟨s,t,rfl⟩:∃s t,p=s++[t]:=⟨p.dropLast,p.getLast hne,(ë hne).symm⟩
 have p1:=hok.len;have p2:=hok.tok;have q9:∀u∈s,u.length<=1048576:=λu hu=>by have:=p2 u (by simp[hu]);omega
 have qd:t.length<=1048576:=by have:=p2 t φ;omega
 have hsl:s.length<=1048576:=by simp at p1;omega
 rcases hp with⟨e,_⟩|⟨g,o,cap,e,h1,h2,h3,h4⟩
 .exact absurd e hne
 .injection e with ea eb ec;subst ea;subst eb;subst ec;have q5:(s++[t]).length=s.length+1:=φ;rw[q5]at h1 |-;have q0:=BQ hf;have q8:∀w2,Bl w1 w2->Dw w2 g o (s++[t]):=λw2 hb=>(h4.move (hb1.block g h4.1)).move (hb.block g (Õ h4.1 hb1.size));have q7:=h.bel hb1;have q4:=hT.bel hb1;rw[CY]at hf;cases hs:Ag v s with
  |error c'=>
   rw[hs]at hf;cases hf;exact U0 q0 λw2 hb=>LY (q7.bel hb) (q4.bel hb).rng (q8 w2 hb) rfl h1 h2 q9 hsl hs
  |ok nv=>
   rw[hs]at hf;have qb:=h.t.str;have hf2:=hs;rw[<-qb]at hf2;obtain⟨f,q,m,u,e1,e2,e3,e4,e5⟩:=Db h.t.sub hf2;rw[qb]at e5;obtain⟨ub,rfl,_⟩:=e3.ptr;have q6:=e3.bel hb1;refine U2 (y:=none) q0 (λw2 hb=>JW (q7.bel hb) (q4.bel hb).rng (q8 w2 hb) rfl h1 h2 q9 hsl hs e2 (q6.bel hb) e5) λw2 hb=>(Lh qd (q4.bel hb).rng (q6.bel hb)).mono λe w' ⟨hk,hb2⟩=>?_;unfold Ex at hk;rw[e4]at hk;simp only at hf;rw[hf]at hk;exact⟨hk,hb2⟩
theorem K7{ev:pL}{pa:Option Addr}{pl pc:Nat}(h:JS w D R wp jn iv ch Tb Mb wb T a v M js)(hT:Aj w)(hv:pZ d x B v)(hB:B<=900000000)(hp:Bd w (GA (top+1) Tb wb M) (.slice pa pl pc) p)(hok:sK p)(hf:Ag v p=.ok ev):
  ∃f q m c i key qa ql qc,f+1+List.length q=top+1/\qE q T=some m/\Bv m i key c/\pT f c=ev/\1000<=f/\f<=top/\Dd m key/\Bd w (GA (top+1) Tb wb M) (.slice qa ql qc) p/\
   (p≠[] ->∃g a1,qT q (Cr i key m) T=pS R g (.slice [a1] [])/\B6 v p=.ok (pT top a1,[(0,p,ev)]))/\
   (∀xa,∃g a1,qT q (Cm i key xa m) T=pS R g (.slice [a1] [])/\Di v p (pT f xa)=.ok (pT top a1,[(2,p,ev)]))/\
   ∀w1,Bl w w1->CB 198 #[PtB D,.slice pa pl pc] w1 (.tuple #[plV (.slice qa ql qc) (qO m) key i,InB 0]):=by
 obtain⟨gT,eT⟩:=h.t.one;have q8:=h.t.str;by_cases hne:p=[]
 .subst hne;cases hf;have qd:pl=0:=by
   rcases hp with⟨_,a0,c0,e,_⟩|⟨g,o,cap,e,_⟩
   .injection e
   .injection e
  subst qd;refine⟨top,[],T,a,0,[],none,0,0,rfl,rfl,Å ⟨R,gT,[a],eT,rfl⟩,q8,by have:=DN;omega,Á _,by rw[eT];exact⟨by rw[Cs];simp,φ⟩,Å ⟨rfl,none,0,rfl,φ⟩,λhh=>absurd rfl hh,λxa=>⟨gT,xa,by rw[eT];rfl,rfl⟩,λw1 hb1=>?_⟩;have q0:qO T=R:=by rw[eT];rfl
  rw[q0];exact U1 (h.bel hb1).t.db
 .obtain⟨s,t,rfl⟩:∃s t,p=s++[t]:=⟨p.dropLast,p.getLast hne,(ë hne).symm⟩
  have p1:=hok.len;have p2:=hok.tok;have qf:∀u∈s,u.length<=1048576:=λu hu=>by have:=p2 u (by simp[hu]);omega
  have q7:t.length<=1048576:=by have:=p2 t φ;omega
  have hsl:s.length<=1048576:=by simp at p1;omega
  rw[CY]at hf;cases hs:Ag v s with
  |error c'=>rw[hs]at hf;cases hf
  |ok nv=>
   rw[hs]at hf;simp only at hf;have hf2:=hs;rw[<-q8]at hf2;obtain⟨f,q,m,u,e1,e2,e3,e4,e5⟩:=Db h.t.sub hf2;obtain⟨n1,n2,n3,n4,n5,n6,n7⟩:=h.node hv e1 e2 e3;rw[q8]at e5;rw[<-e4]at hf;obtain⟨i0,c,xk,k1,k2,k3,k4⟩:=Mf e3 hf;have q6:=VL e3 n5 k1 k2;refine⟨f,0::q,m,c,(qG t).getD 0,t,pa,pl,pc,n1,n2,q6,k3,n3,ζ,⟨ζ,q7⟩,hp,λ_=>?_,λxa=>?_,λw1 hb1=>?_⟩
   .obtain⟨r1,r2⟩:=h.value (m':=Cr ((qG t).getD 0) t m) eT e1 e2;rw[eG q6.box]at r2;refine⟨gT,_,r1,?_⟩;unfold B6;rw[Eo];simp only[hs];rw[<-e4,hf];simp only;rw[r2,DM e5]
   .obtain⟨r1,r2⟩:=h.value (m':=Cm ((qG t).getD 0) t xa m) eT e1 e2;rw[R6 q6.box]at r2;refine⟨gT,_,r1,?_⟩;unfold Di;rw[Eo];simp only[hs];rw[<-e4,hf];simp only;rw[r2,DM e5]
   .rcases hp with⟨e,_⟩|⟨g,o,cap,e,h1,h2,h3,h4⟩
    .exact absurd e hne
    .injection e with ea eb ec;subst ea;subst eb;subst ec;have q5:(s++[t]).length=s.length+1:=φ;rw[q5]at h1 |-;have qe:∀w2,Bl w1 w2->Dw w2 g o (s++[t]):=λw2 hb=>(h4.move (hb1.block g h4.1)).move (hb.block g (Õ h4.1 hb1.size));have qb:=h.bel hb1;have q4:=hT.bel hb1;obtain⟨ub,rfl,_⟩:=e3.ptr;have q0:qO m=ub:=by
      obtain⟨b',g',x',rfl,eu,_⟩:=e3;injection eu with eu;injection eu with eu;injection eu with eu _ _;exact eu.symm
     rw[q0];have q9:=e3.bel hb1;refine XJ (b:=ub) (io:=qG t) (λw2 hb=>JW (qb.bel hb) (q4.bel hb).rng (qe w2 hb) rfl h1 h2 qf hsl hs e2 (q9.bel hb) e5) (λw2 hb=>(Lh q7 (q4.bel hb).rng (q9.bel hb)).mono ?_) (λw2 hb=>Hu t w2 q7 (q4.bel hb).rng);rintro e w' ⟨hk,hb2⟩;unfold Ex at hk;rw[hf]at hk;obtain⟨i',c',x',_,_,_,rfl,qg⟩:=hk;obtain⟨xb,rfl,_⟩:=qg.ptr;exact⟨⟨_,rfl⟩,hb2⟩
theorem bD{c:Nat}(hne:p≠[])(hf:Ag v p=.error c):B6 v p=.error c:=by
 obtain⟨s,t,rfl⟩:∃s t,p=s++[t]:=⟨p.dropLast,p.getLast hne,(ë hne).symm⟩
 rw[CY]at hf;unfold B6;rw[Eo];cases hs:Ag v s with
 |error c'=>
  rw[hs]at hf;cases hf;simp only;rw[hs]
 |ok nv=>rw[hs]at hf;simp only at hf |-;rw[hs];simp only;rw[hf]
theorem bB{c:Nat}(hf:Ag v p=.error c):Di v p xv=.error c:=by
 have hne:p≠[]:=by rintro rfl;cases hf
 obtain⟨s,t,rfl⟩:∃s t,p=s++[t]:=⟨p.dropLast,p.getLast hne,(ë hne).symm⟩
 rw[CY]at hf;unfold Di;rw[Eo];cases hs:Ag v s with
 |error c'=>
  rw[hs]at hf;cases hf;simp only;rw[hs]
 |ok nv=>rw[hs]at hf;simp only at hf |-;rw[hs];simp only;rw[hf]
theorem NA{L:Nat}{p:List Nat}{i:Nat}{rv:A2}{c:pN}{key:By}{pa:Option Addr}{pl pc:Nat}{path:List By}(hL:f+1+p.length=L)(hJ:B7 L w D rv jn iv ch Tb Mb wb T M js)(hs:qE p T=some m)(hf:Bv m i key c)(hr:Dd m key)(hl:js.length<=1000000000)(hp:Bd w (GA L Tb wb M) (.slice pa pl pc) path)(q0:f<=top):
  AT AI 199 #[PtB D,plV (.slice pa pl pc) (qO m) key i] w λe w'=>e=.returned (.tuple #[])/\
   DC L D rv iv ch Tb Mb wb (qT p (Cr i key m) T) M (js++[(0,path,pT f c)]) w w'/\∀y,Ad f w y c->Ad f w' y c:=by
 subst hL;exact TT hJ hs hf hr hl hp q0
theorem eE{L:Nat}{p:List Nat}{i:Nat}{rv:A2}{c xa:pN}{key:By}{pa px:Option Addr}{pl pc:Nat}{path:List By}(hL:f+1+p.length=L)(hJ:B7 L w D rv jn iv ch Tb Mb wb T M js)(hs:qE p T=some m)(hf:Bv m i key c)(hr:Dd m key)(hl:js.length<=1000000000)(hp:Bd w (GA L Tb wb M) (.slice pa pl pc) path)(q0:f<=top)(hx:Ad f w (.pointer px) xa)(q5:(pM f xa).Nodup)(q4:∀k∈pM f xa,¬M k/\k∉pM L T/\k≠D/\jn.ownBlock≠some k/\wb.1.size<=k):
  AT AI 200 #[PtB D,plV (.slice pa pl pc) (qO m) key i,.pointer px] w λe w'=>e=.returned (.tuple #[])/\
   DC L D rv iv ch Tb Mb wb (qT p (Cm i key xa m) T) M (js++[(2,path,pT f c)]) w w':=by
 subst hL;exact Pd hJ hs hf hr hl hp q0 hx q5 q4
end
section
variable{w:AS}{D R:Nat}{wp:Option Addr}{jn iv:A2}{ch:Bool}{Tb T a:pN}{Mb M:Nat->Prop}{wb:AS}{v xv:pL}{js:List pW}{y:Option Addr}{F:Nat->Prop}{d x:Int}{B:Nat}
 {k:Nat}{pa fa:Option Addr}{pl pc fl fc:Nat}{p q:List By}
theorem Bd.at{G:Nat->Prop}{v:A2}{l:List By}(h:Bd w G v l)(hb:Bl w w'):Bd w' G v l:=h.move λk hk q0=>⟨hb.block k q0,hk⟩
theorem Yz{G:Nat->Prop}{l:List By}(h:Bd w G (.slice pa pl pc) l):pl=l.length:=by
 rcases h with⟨rfl,a,c,e,_⟩|⟨g,o,cap,e,_⟩
 .injection e with _ e _
 .injection e with _ e _
theorem AR.form{r:Except Nat (pL×List pW)}{e:Ending}(h:AR D R iv ch Tb Mb wb M js w r e w'):∃c:Nat,e=.returned (InB c)/\Hid (AR D R iv ch Tb Mb wb M js w r (.returned (InB c)) w'):=by
 cases r with
 |ok vj=>obtain⟨rfl,h⟩:=h;exact⟨0,rfl,rfl,h⟩
 |error c=>obtain⟨rfl,h⟩:=h;exact⟨c,rfl,rfl,h⟩
theorem Xx(h:JS w D R wp jn iv ch Tb Mb wb T a v M js)(hT:Aj w)(hv:pZ d x B v)(hx:pZ d x B xv)(hB:B<=900000000)(hl:js.length<=1000000000)(hy:Rep top F w (.pointer y) xv)(hp:Bd w (GA (top+1) Tb wb M) (.slice pa pl pc) p)(hok:sK p):
  AT AI 151 #[PtB D,opV k pa pl pc fa fl fc y] w λe w'=>AR D R iv ch Tb Mb wb M js w (BV v p xv) e w':=by
 have hM:∀k,M k->k<w.1.size:=λk hk=>(h.j.low k hk).1;refine(Xy (Q:=λc w'=>AR D R iv ch Tb Mb wb M js w (BV v p xv) (.returned (InB c)) w') λw1 hb1=>(M9 (h.bel hb1) (hT.bel hb1) hv hx hB hl (hy.bel hb1) (hp.at hb1) hok).mono ?_).mono ?_
 .rintro e w' he;obtain⟨c,rfl,h2⟩:=he.form;exact⟨c,rfl,AR.below hb1 hM h2.u⟩
 .rintro e w' ⟨c,rfl,h2⟩;exact h2
theorem Qo(h:JS w D R wp jn iv ch Tb Mb wb T a v M js)(hT:Aj w)(hv:pZ d x B v)(hB:B<=900000000)(hl:js.length<=1000000000)(hp:Bd w (GA (top+1) Tb wb M) (.slice pa pl pc) p)(hok:sK p):
  AT AI 152 #[PtB D,opV k pa pl pc fa fl fc y] w λe w'=>AR D R iv ch Tb Mb wb M js w (B6 v p) e w':=by
 have hM:∀k,M k->k<w.1.size:=λk hk=>(h.j.low k hk).1;have q0:=Yz hp;by_cases hne:p=[]
 .subst hne;obtain rfl:pl=0:=q0;refine Qm.mono ?_;rintro e w' ⟨rfl,hb⟩;exact h.err hb
 .have hl0:pl≠0:=by
   intro e0;rw[e0]at q0;exact hne (A1.1 q0.symm)
  cases hf:Ag v p with
  |error c=>
   rw[bD hne hf];refine(Qn hl0 (BQ hf) (JL h hT hp hok hf)).mono ?_;rintro e w' ⟨rfl,hb⟩;exact h.err hb
  |ok ev=>
   obtain⟨f,q,m,c,i,key,qa,ql,qc,t1,t2,t3,t4,t5,t6,t7,t8,t9,q5,q4⟩:=K7 h hT hv hB hp hok hf;obtain⟨g,a1,r1,r2⟩:=t9 hne;rw[r2];refine(Rr (Q:=λw'=>AR D R iv ch Tb Mb wb M js w (.ok (pT top a1,[(0,p,ev)])) (.returned (InB 0)) w') hl0 q4 λw1 hb1=>(NA t1 (h.bel hb1).j t2 t3 t7 hl (t8.at hb1) t6).mono ?_).mono ?_
   .rintro e w' ⟨rfl,he,_⟩;rw[t4]at he;exact⟨rfl,AR.below hb1 hM (JS.ok he r1 rfl)⟩
   .rintro e w' ⟨rfl,he⟩;exact he
theorem OL(h:JS w D R wp jn iv ch Tb Mb wb T a v M js)(hT:Aj w)(hv:pZ d x B v)(hx:pZ d x B xv)(hB:B<=900000000)(hl:js.length<=1000000000)(hy:Rep top F w (.pointer y) xv)(hp:Bd w (GA (top+1) Tb wb M) (.slice pa pl pc) p)(hok:sK p):
  AT AI 153 #[PtB D,opV k pa pl pc fa fl fc y] w λe w'=>AR D R iv ch Tb Mb wb M js w (Di v p xv) e w':=by
 have hM:∀k,M k->k<w.1.size:=λk hk=>(h.j.low k hk).1;cases hf:Ag v p with
 |error c=>
  rw[bB hf];refine(OK (BQ hf) (JL h hT hp hok hf)).mono ?_;rintro e w' ⟨rfl,hb⟩;exact h.err hb
 |ok ev=>
  obtain⟨f,q,m,c,i,key,qa,ql,qc,t1,t2,t3,t4,t5,t6,t7,t8,t9,q6,q7⟩:=K7 h hT hv hB hp hok hf;refine(Ql (Q:=λw'=>AR D R iv ch Tb Mb wb M js w (Di v p xv) (.returned (InB 0)) w') (Q1:=λz w1=>∃w0,Bl w w0/\Frs w0 xv z w1) q7 (λw1 hb1=>(Lt (hy.bel hb1) hx ζ).mono ?_) (λz w1 w2 hq hb1 hb2=>?_)).mono ?_
  .rintro e w' ⟨z,rfl,hq⟩;exact⟨z,rfl,hq.u.1,w1,hb1,hq.u⟩
  .obtain⟨w0,q4,q5⟩:=hq;obtain⟨ax,b1,b2,q8,b3,b4,b5⟩:=Frs.at (h.bel q4) q5 hx t5 t6;have q0:=hb1.trans (hb2.mono hb1.size);obtain⟨g,a1,r1,r2⟩:=q6 ax;rw[b2]at r2;rw[r2];refine(eE t1 (h.bel q0).j t2 t3 t7 hl (t8.at q0) t6 (b1.bel hb2) b3 b5).mono ?_;rintro e w' ⟨rfl,he⟩;rw[t4]at he;exact⟨rfl,AR.below q0 hM (JS.ok he r1 rfl)⟩
  .rintro e w' ⟨rfl,he⟩;exact he
theorem UT(h:JS w D R wp jn iv ch Tb Mb wb T a v M js)(hT:Aj w)(hy:Rep top F w (.pointer y) xv)(hp:Bd w (GA (top+1) Tb wb M) (.slice pa pl pc) p)(hok:sK p):
  AT AI 156 #[PtB D,opV k pa pl pc fa fl fc y] w λe w'=>AR D R iv ch Tb Mb wb M js w (Jo v p xv) e w':=by
 have p1:=hok.len;have p2:=hok.tok;have q4:=h.t.str;unfold Jo;cases hf:Ag v p with
 |error c=>
  have hf2:=hf;rw[<-q4]at hf2;refine(US (wp:=wp) (BQ hf) (λw1 hb1=>E8 (h.bel hb1).t) (λw1 hb1=>LC (λt ht=>by have:=p2 t ht;omega) ζ (hT.bel hb1).rng (h.bel hb1).t.sub (hp.at hb1).toks hf2)).mono ?_;rintro e w' ⟨rfl,hb⟩;exact h.err hb
 |ok ev=>
  have hf2:=hf;rw[<-q4]at hf2;obtain⟨f,q,m,u,e1,e2,e3,e4,e5⟩:=Db h.t.sub hf2;obtain⟨ub,rfl,_⟩:=e3.ptr;have q0:Rep top (λ_=>True) w (PtB ub) ev:=by
   rw[<-e4,<-(e3.up (g:=top) ζ).2.2];exact(e3.up (g:=top) ζ).1.rep λ_ _=>trivial
  refine(Xv (wp:=wp) (bo:=veq ev xv) (λw1 hb1=>E8 (h.bel hb1).t) (λw1 hb1=>Ni (λt ht=>by have:=p2 t ht;omega) ζ (hT.bel hb1).rng (h.bel hb1).t.sub (hp.at hb1).toks hf2 e2 (e3.bel hb1) e5) (λw1 hb1=>Lx top _ _ w1 _ _ ev xv (q0.bel hb1) (hy.bel hb1))).mono ?_;rintro e w' ⟨rfl,hb⟩;simp only;by_cases hq:veq ev xv=true
  .rw[if_pos hq,if_pos hq];exact⟨rfl,wp,jn,T,a,M,by simpa using h.bel hb,(h.j.bel hb).2⟩
  .rw[if_neg hq,if_neg hq];exact h.err hb
theorem P9(hv:pZ d x B v)(h:JS w D R wp jn iv ch Tb Mb wb T a v M js){ev:pL}(hf:Ag v p=.ok ev):pZ d x B ev:=by
 have q0:=h.t.str;rw[<-q0]at hf;obtain⟨f,q,m,u,e1,e2,e3,e4,e5⟩:=Db h.t.sub hf;obtain⟨n1,n2,n3,n4,n5,n6,n7⟩:=h.node hv e1 e2 e3;have hs:pT top m=ev:=by rw[(e3.up (g:=top) ζ).2.2,e4]
 have g1:pU d x (f+1) 1 (pT (f+1) m):=by
  have h1:=GP (s:=-(q.length:Int)) n5;rw[show(1:Int)+q.length + -(q.length:Int)=1 from ζ]at h1;exact Dh ζ h1
 have g2:=CT (f:=top) g1 (by have:=hv.dd;have:=DN;omega);rw[e4]at g2 n6;refine⟨g2,hv.dd,?_⟩;have:pV top ev=pV (f+1) ev:=by
  rw[e4]at g1;exact F4 g1 ζ
 omega
theorem UY(h:JS w D R wp jn iv ch Tb Mb wb T a v M js)(hT:Aj w)(hv:pZ d x B v)(hB:B<=900000000)(hl:js.length<=1000000000)(hp:Bd w (GA (top+1) Tb wb M) (.slice pa pl pc) p)(hok:sK p)(hq:Bd w (GA (top+1) Tb wb M) (.slice fa fl fc) q)(q4:sK q):
  AT AI 155 #[PtB D,opV k pa pl pc fa fl fc y] w λe w'=>AR D R iv ch Tb Mb wb M js w (Jr v q p) e w':=by
 have hM:∀k,M k->k<w.1.size:=λk hk=>(h.j.low k hk).1;have p1:=q4.len;have p2:=q4.tok;have q5:=h.t.str;unfold Jr;cases hf:Ag v q with
 |error c=>
  have hf2:=hf;rw[<-q5]at hf2;refine(UX (wp:=wp) (BQ hf) (λw1 hb1=>E8 (h.bel hb1).t) (λw1 hb1=>LC (λt ht=>by have:=p2 t ht;omega) ζ (hT.bel hb1).rng (h.bel hb1).t.sub (hq.at hb1).toks hf2)).mono ?_;rintro e w' ⟨rfl,hb⟩;exact h.err hb
 |ok ev=>
  have hf2:=hf;rw[<-q5]at hf2;obtain⟨f,q',m,u,e1,e2,e3,e4,e5⟩:=Db h.t.sub hf2;obtain⟨ub,rfl,_⟩:=e3.ptr;have q0:Rep top (λ_=>True) w (PtB ub) ev:=by
   rw[<-e4,<-(e3.up (g:=top) ζ).2.2];exact(e3.up (g:=top) ζ).1.rep λ_ _=>trivial
  have q6:=P9 hv h hf;simp only;refine(Xw (wp:=wp) (Q:=λc w'=>AR D R iv ch Tb Mb wb M js w (BV v p ev) (.returned (InB c)) w') (λw1 hb1=>E8 (h.bel hb1).t) (λw1 hb1=>Ni (λt ht=>by have:=p2 t ht;omega) ζ (hT.bel hb1).rng (h.bel hb1).t.sub (hq.at hb1).toks hf2 e2 (e3.bel hb1) e5) (λw1 hb1=>(M9 (h.bel hb1) (hT.bel hb1) hv q6 hB hl (q0.bel hb1) (hp.at hb1) hok).mono ?_)).mono ?_
  .rintro e w' he;obtain⟨c,rfl,h2⟩:=he.form;exact⟨c,rfl,AR.below hb1 hM h2.u⟩
  .rintro e w' ⟨c,rfl,h2⟩;exact h2
theorem Aj.jex{M':Nat->Prop}(h:Aj w)(hM:∀k,k<NG->M k)(hX:JEx M M' w w'):Aj w':=
 h.below ⟨hX.os,hX.tape,hX.output,hX.size,λk hk=>(hX.kept k (hM k hk)).2⟩
theorem bC{j:List pW}{v1:pL}(hv:pZ d x B v)(h:JS w D R wp jn iv ch Tb Mb wb T a v M js)(hr:B6 v q=.ok (v1,j)):pZ d x B v1:=by
 unfold B6 at hr;split at hr
 .cases hr
 .rename_i s t hs;split at hr
  .cases hr
  .rename_i n hn;split at hr
   .cases hr
   .rename_i e he;injection hr with hr;injection hr with hr _;subst hr;have q0:=h.t.str;have hf2:=hn;rw[<-q0]at hf2;obtain⟨f,q',m,u,e1,e2,e3,e4,e5⟩:=Db h.t.sub hf2;obtain⟨n1,n2,n3,n4,n5,n6,n7⟩:=h.node hv e1 e2 e3;rw[q0]at e5;rw[DM e5];rw[e4]at n5 n6 n7;have hg:pU d x (f+1+q'.length) 1 v:=by rw[e1];exact hv.gd
    have g1:=P4 hg n7 (Xa (i:=(qG t).getD 0) (k:=t) n5);have g2:=Pc (n':=EG ((qG t).getD 0) t n) hg n7;rw[e1]at g1 g2;have g3:=VG (f:=f) (i:=(qG t).getD 0) (k:=t) (v:=n);have:=hv.sz;exact⟨g1,hv.dd,ζ⟩
theorem UV(h:JS w D R wp jn iv ch Tb Mb wb T a v M js)(hT:Aj w)(qm:∀k,k<NG->M k)(hv:pZ d x B v)(hB:B<=900000000)(hl:js.length<=900000000)(hp:Bd w (GA (top+1) Tb wb M) (.slice pa pl pc) p)(hok:sK p)(hq:Bd w (GA (top+1) Tb wb M) (.slice fa fl fc) q)(qi:sK q):
  AT AI 154 #[PtB D,opV k pa pl pc fa fl fc y] w λe w'=>AR D R iv ch Tb Mb wb M js w (Jq v q p) e w':=by
 have hM:∀k,M k->k<w.1.size:=λk hk=>(h.j.low k hk).1;unfold Jq;cases hf:Ag v q with
 |error c=>
  refine(UU (BQ hf) (JL h hT hq qi hf)).mono ?_;rintro e w' ⟨rfl,hb⟩;exact h.err hb
 |ok ev=>
  obtain⟨f,qq,m,c,i,key,qa,ql,qc,t1,t2,t3,t4,t5,t6,t7,t8,t9,qy,qf⟩:=K7 h hT hv hB hq qi hf;have q0:∀w1,Bl w w1->CB 202 #[.slice fa fl fc,.slice pa pl pc] w1 (.bool (q==p)):=λw1 hb1=>KN (hq.at hb1).toks (hp.at hb1).toks;have q9:∀w1,Bl w w1->CB 203 #[.slice pa pl pc,.slice fa fl fc] w1 (.bool (E3 p q)):=λw1 hb1=>U5 (hp.at hb1).toks (hq.at hb1).toks;simp only;by_cases q7:q=p
  .rw[if_pos q7];have e0:(q==p)=true:=by rw[q7];simp
   rw[e0]at q0;refine(Rs qf q0).mono ?_;rintro e w' ⟨rfl,hb⟩;exact⟨rfl,wp,jn,T,a,M,by simpa using h.bel hb,(h.j.bel hb).2⟩
  .rw[if_neg q7];have e0:(q==p)=false:=by rw[beq_eq_false_iff_ne];exact q7
   rw[e0]at q0;by_cases q6:E3 p q=true
   .rw[if_pos q6];rw[q6]at q9;refine(Qp qf q0 q9).mono ?_;rintro e w' ⟨rfl,hb⟩;exact h.err hb
   .rw[if_neg q6];rw[Bool.eq_false_iff.2 q6]at q9;have hne:q≠[]:=by
     rintro rfl;refine q6 ?_;unfold E3;have:0<p.length:=by
      rcases Nat.eq_zero_or_pos p.length with h0|h0
      .exact absurd (A1.1 h0).symm q7
      .exact h0
     simp[this]
    obtain⟨g,a1,r1,r2⟩:=t9 hne;rw[r2];simp only;have q4:=bC hv h r2;have q5:=P9 hv h hf;obtain⟨um,qj⟩:=Ad.at (f:=f+1) (p:=qq) (by rw[t1];exact h.j.tr) t2;obtain⟨qu,qv,qw,qk⟩:=t3.apart (CE (f:=f+1) t2 (by rw[t1];exact h.j.nd));obtain⟨yv,hc⟩:=qj.kidAt qk;obtain⟨yb,rfl,_⟩:=hc.ptr;refine(UW (x:=some ⟨yb,0,none⟩) (Q1:=λw1=>∃qb jn' T' a' M',JS w1 D R qb jn' iv ch Tb Mb wb T' a' (pT top a1) M' (js++[(0,q,ev)])/\JEx M M' w w1/\Ad f w1 (PtB yb) c)
     (Q:=λcc w'=>AR D R iv ch Tb Mb wb M js w (match BV (pT top a1) p ev with|.error c=>.error c |.ok (d2,j2)=>.ok (d2,[(0,q,ev)]++j2)) (.returned (InB cc)) w')
     qf q0 q9 (λw1 hb1=>(Ji (qj.bel hb1) t3 t7.2).mono ?_) (λw1 hb1 qh=>?_) (λw1 qo=>?_)).mono ?_
    .rintro e w' ⟨⟨y',rfl,qr⟩,hb⟩;obtain rfl:=qr.uniq hc;exact⟨rfl,hb⟩
    .obtain⟨hG,hE⟩:=h.grow hb1 (λk=>k=w.1.size) (λk hk=>by subst hk;exact⟨Á _,qh.lt⟩);refine(NA t1 hG.j t2 t3 t7 ζ ((t8.at hb1).move λk hk _=>⟨rfl,Å hk.1,hk.2⟩) t6).mono ?_;rintro e w' ⟨rfl,he,qn⟩;rw[t4]at he;obtain⟨qb,jn',T',a',M',s1,s2⟩:=JS.done he r1 rfl;exact⟨rfl,(s2.kept _ (À rfl)).2.trans qh,qb,jn',T',a',M',s1,hE.trans s2,qn _ (hc.bel hb1)⟩
    .obtain⟨qb,jn',T',a',M',s1,s2,s3⟩:=qo;have qd:Rep top (λ_=>True) w1 (PtB yb) ev:=by
      rw[<-t4,<-(s3.up t6).2.2];exact(s3.up t6).1.rep λ_ _=>trivial
     refine(M9 s1 (hT.jex qm s2) q4 q5 hB ω qd (hp.move λk hk _=>⟨(s2.kept k hk.1).2,(s2.kept k hk.1).1,hk.2⟩) hok).mono ?_;rintro e w' he;obtain⟨cc,rfl,h2⟩:=he.form;refine⟨cc,rfl,?_⟩;have q8:=h2.u;cases hr:BV (pT top a1) p ev with
     |error c'=>
      rw[hr]at q8;obtain⟨e9,qg,qe,T2,a2,v2,M2,qt,u1,u2⟩:=q8;exact⟨e9,qg,qe,T2,a2,v2,M2,qt,u1,s2.trans u2⟩
     |ok vj=>
      rw[hr]at q8;obtain⟨v2,j2⟩:=vj;obtain⟨e9,qg,qe,T2,a2,M2,u1,u2⟩:=q8;rw[ē]at u1;exact⟨e9,qg,qe,T2,a2,M2,u1,s2.trans u2⟩
    .rintro e w' ⟨cc,rfl,h2⟩;exact h2
end
