import Derived.Test.YtdpomdelmdofmaaGreatDoorP31
open Go renaming undef->AI,Value->AS,World->A1
open Go.World.ownsMap renaming update->AT
open Go.Proofs.Tryz renaming prog->A2
open Go.World renaming cell?->A3
open Go.DataW renaming put->A4
open Go.RowKit renaming intOf->A5
open List renaming length->Bs
set_option maxRecDepth 100000
set_option maxHeartbeats 32000000
namespace Go.Proofs.YtdpomdelmdofmaaGreatDoor
open Go.Proofs.Tryz Go.RowKit Go.Maps
variable{s:By}{v:AS}{l:Array Bool}
theorem UB{l m:List By}(h:l.Perm m):(Ah l).length=(Ah m).length:=by
 have h1:∀l:List By,(Ah l).length=(l.map λx=>x.length+1).sum-1:=λl=>by
  cases l with
  |nil=>rfl
  |cons x r=>simp only[Ah,Ñ,Ka,Ð,Ĉ];omega
 grind
def vI(f:Nat)(es:Ms):List By:=es.map λp=>Ai p.1++58::pP f (pO f p.2)
theorem Ze(f:Nat)(es:Ms)(hnd:(es.map (·.1)).Nodup):(pP (f+1) (pO (f+1) (qF es))).length=2+(Ah (vI f es)).length:=by
 obtain⟨E,e1,e2,e3⟩:=Hh f es hnd;rw[e1,EW];have h1:(((rV E).mergeSort λx y=>decide (x<=y)).map λk=>Ai k++58::pP f (rW E k)).Perm (vI f es):=by
  refine(((ĕ _ _).trans e2).map _).trans (List.Perm.of_eq ?_);unfold vI;rw[Ý];exact ä ε
 have:=UB h1;grind
def mU(f:Nat):Prop:=∀(F:Nat->Prop) (w:A1) (v:AS) (o:O),Ar f F w v o->qM f o->Aj w->(pP f (pO f o)).length<=2000000 ->
 CB 72 #[v] w (InB ((pP f (pO f o)).length:Nat))
section
variable{F:Nat->Prop}{w:A1}{b f:Nat}
theorem Ia{kd:By}{ng:Bool}{ds:By}{x:Int}{t:By}(h:OB w b kd ng ds x s AE AE)(h1:(kd != [97,114,114,97,121])=true)(h2:(kd != [111,98,106,101,99,116])=true)(hc:CB 46 #[PtB b] w (.string ⟨t.toArray⟩)):
  CB 72 #[PtB b] w (InB (t.length:Nat)):=by
 have c0:=h.c0;have HC:=Ab hc;have q0:(kd==[97,114,114,97,121])=false:=ε;have q4:(kd==[111,98,106,101,99,116])=false:=ε;clear h hc;go_enter func72,ntmps72;go_wp2_with fail;refine HC.u.mono ?_;rintro e w2⟨rfl,hb⟩;go_wp2;go_ret;simp_all
theorem KS(hD:mU f){kd:By}{kl sl:AS}{ps:List AS}{os:List O}{L:List By}(h:OB w b kd false [] 0 [] kl sl)(hv:w.ownsRow 0 66 1 sl ps.length ps)(hal:Al (Ar f F w) ps os)(z4:∀e∈os,qM f e)(hT:Aj w)(hk:(kd=sW/\L=os.map λe=>pP f (pO f e))\/(kd=sC/\∃es:Ms,w.ownsRow 0 9 1 kl es.length (es.map λp=>AG p.1)/\os=es.map (·.2)/\L=vI f es))(qk:(Ah L).length<=2000000):
  CB 72 #[.pointer (some ⟨b,0,none⟩)] w (.int .i64 ((2+(Ah L).length:Nat):Int)):=by
 have z7:=hal.length;have z0:L.length=os.length:=by
  grind [Ah,vI,pP]
 obtain⟨n,hn⟩:∃n,n=ps.length:=⟨_,rfl⟩
 obtain⟨g,cap,a,rfl,qr,zg,hg,hc⟩:=B0 hv;have c0:=h.c0;have c6:=h.c6;have c5:=h.c5;rw[<-hn]at c6 qr;have zm:(n:Int)<=9223372036854775807:=by unfold maxLen at zg;omega
 have qe:=h.lt;have HN:=Ab hn;have HL:=Ab (ð z7 z0);have HC:=Ab hc;have HG:=Ab hg;have qw:=Ab hal;have HD:=Ab hD;have qy:=Ab z4;have HT:=Ab hT;have qq:=Ab qk;have zf:(kd=sW/\∀j (h1:j<L.length) (h2:j<os.length),L[j]=pP f (pO f os[j]))\/(kd=sC/\∃es:Ms,es.length=os.length/\w.ownsRow 0 9 1 kl es.length (es.map λp=>AG p.1)/\∀j (h1:j<L.length) (h2:j<os.length) (h3:j<es.length),L[j]=Ai es[j].1++58::pP f (pO f os[j])):=by
  grind [Ah,vI,pP]
 clear h hv z7 hal z4 hT qk hk z0 hn hc hg hD;have qh:∀j,(Ah (L.take j)).length<=2000000:=λj=>Ã (Ch L j) qq.u;have qn:=Ab qh;clear qh;rcases zf with⟨rfl,qg⟩|⟨rfl,es,z2,z6,qg⟩
 .rw[J9]at c0;have qo:=Ab qg;clear qg c5;go_enter func72,ntmps72;go_wp2;go_loopw [4,5] (λm i wr=>∃(j q:Nat),j<=n/\i=.int .i64 j/\m=.int .i64 q/\q=2+(Ah (L.take j)).length/\Bl w wr) (λ_ i _=>n-(A5 i).toNat)
  case atStart=>exact⟨0,2,ζ,rfl,rfl,rfl,Â _ _⟩
  case round=>
   obtain⟨j,q,hj,rfl,rfl,hq,hb⟩:=hrel;have zi:q<=2000002:=by have:=qn.u j;omega
   have HQ:=Ab hq;have HB:=Ab hb;have r6:=(hb.cell (p:=⟨b,6,none⟩) qe).trans c6;have r0:=(hb.cell (p:=⟨b,0,none⟩) qe).trans c0;by_cases hlt:j<n
   .have qj:j<ps.length:=by have:=HN.u;omega
    have q9:j<os.length:=by have:=HL.u.1;omega
    have qi:j<L.length:=by have:=HL.u.2;omega
    obtain⟨rfl,qu⟩:=HG.u ζ;have q1:=(hb.cell (p:=⟨g,j,none⟩) qu).trans (HC.u j qj);have qb:=Eg L j qi;rw[qo.u j qi q9]at qb;have qv:=qn.u (j+1);have q6:=congrArg Bs qb;simp only[Ñ]at q6;have q0:=Ab (HD.u F wr _ _ ((qw.u.get j qj q9).below hb) (qy.u _ (Ó q9)) (HT.u.below (hb.mono HT.u.ng)) ζ);generalize pP f (pO f os[j])=tx at*;obtain⟨pj,qm⟩:∃pj,pj=ps[j]:=⟨_,rfl⟩
    rw[<-qm]at q1 q0;have zk:tx.length<=2000000:=ζ;have qd:=Ab q6;clear qb qv q6 qm hq hb;by_cases h0:0<j
    .have e0:decide ((0:Int)<(j:Int))=true:=decide_eq_true ζ;go_wp2_with fail;refine q0.u.mono ?_;rintro e w5⟨rfl,q5⟩;have q8:=Ab (HB.u.trans (q5.mono HB.u.size));clear q5 q0;go_wp2;exact⟨⟨j+1,q+1+tx.length,ζ,ψ,ψ,by have:=qd.u;have:=HQ.u;grind,q8.u⟩,by simp only[A5];omega⟩
    .have e0:decide ((0:Int)<(j:Int))=false:=ε;go_wp2_with fail;refine q0.u.mono ?_;rintro e w5⟨rfl,q5⟩;have q8:=Ab (HB.u.trans (q5.mono HB.u.size));clear q5 q0;go_wp2;exact⟨⟨j+1,q+tx.length,ζ,ψ,ψ,by have:=qd.u;have:=HQ.u;grind,q8.u⟩,by simp only[A5];omega⟩
   .have HJ:=Ab (show q=2+(Ah L).length by rw[hq,Ï (by have:=HN.u;have:=HL.u;omega)]);clear hq hb;go_wp2;go_ret;exact⟨by rw[HJ.u];rfl,HB.u⟩
 .obtain⟨gk,zc,ak,rfl,qf,zh,z3,z1⟩:=B0 z6;rw[J8]at c0;have qo:=Ab qg;have za:=Ab z2;have zb:=Ab z3;have z9:=Ab z1;obtain⟨nk,z8⟩:∃nk,nk=es.length:=⟨_,rfl⟩
  rw[<-z8]at c5 qf;have hnn:nk=n:=by have:=HN.u;have:=HL.u.1;omega
  subst hnn;clear qg z6 z2 z3 z1 z8;go_enter func72,ntmps72;go_wp2;go_loopw [4,5] (λm i wr=>∃(j q:Nat),j<=nk/\i=.int .i64 j/\m=.int .i64 q/\q=2+(Ah (L.take j)).length/\Bl w wr) (λ_ i _=>nk-(A5 i).toNat)
  case atStart=>exact⟨0,2,ζ,rfl,rfl,rfl,Â _ _⟩
  case round=>
   obtain⟨j,q,hj,rfl,rfl,hq,hb⟩:=hrel;have zi:q<=2000002:=by have:=qn.u j;omega
   have HQ:=Ab hq;have HB:=Ab hb;have r6:=(hb.cell (p:=⟨b,6,none⟩) qe).trans c6;have r0:=(hb.cell (p:=⟨b,0,none⟩) qe).trans c0;have r5:=(hb.cell (p:=⟨b,5,none⟩) qe).trans c5;by_cases hlt:j<nk
   .have qj:j<ps.length:=by have:=HN.u;omega
    have q9:j<os.length:=by have:=HL.u.1;omega
    have qi:j<L.length:=by have:=HL.u.2;omega
    have ze:j<es.length:=by have:=za.u;omega
    obtain⟨rfl,qu⟩:=HG.u ζ;obtain⟨rfl,qt⟩:=zb.u ζ;have q1:=(hb.cell (p:=⟨g,j,none⟩) qu).trans (HC.u j qj);have q2:=(hb.cell (p:=⟨gk,j,none⟩) qt).trans (z9.u j ε);rw[é]at q2;unfold AG at q2;have qb:=Eg L j qi;rw[qo.u j qi q9 ze]at qb;have qv:=qn.u (j+1);have q6:=congrArg Bs qb;simp only[Ñ,É]at q6;obtain⟨kj,z5⟩:∃kj,kj=es[j].1:=⟨_,rfl⟩
    rw[<-z5]at q2 q6;have zl:=vE kj;have qz:=Ab (Fy kj ζ);have q0:=Ab (λW (hW:Bl w W)=>HD.u F W _ _ ((qw.u.get j qj q9).below hW) (qy.u _ (Ó q9)) (HT.u.below (hW.mono HT.u.ng)) ζ);generalize pP f (pO f os[j])=tx at*;generalize Ai kj=qx at*;obtain⟨pj,qm⟩:∃pj,pj=ps[j]:=⟨_,rfl⟩
    rw[<-qm]at q1 q0;have zk:tx.length<=2000000:=ζ;have zj:qx.length<=2000000:=ζ;have qd:=Ab q6;have zn:=hb.size;clear qb qv q6 qm z5 hq hb;by_cases h0:0<j
    .have e0:decide ((0:Int)<(j:Int))=true:=decide_eq_true ζ;go_wp2_with fail;refine(qz.u _).mono ?_;rintro e w4⟨rfl,hb4⟩;have q7:=Ab (HB.u.trans (hb4.mono HB.u.size));have s6:=(hb4.cell (p:=⟨b,6,none⟩) (show b<_ from ζ)).trans r6;have s1:=(hb4.cell (p:=⟨g,j,none⟩) (show g<_ from ζ)).trans q1;have q4:=Ab (q0.u w4 q7.u);clear hb4 q0;go_wp2_with fail;refine q4.u.mono ?_;rintro e w5⟨rfl,q5⟩;have q8:=Ab (q7.u.trans (q5.mono q7.u.size));clear q5 q4;go_wp2;exact⟨⟨j+1,q+1+qx.length+1+tx.length,ζ,ψ,ψ,by have:=qd.u;have:=HQ.u;grind,q8.u⟩,by simp only[A5];omega⟩
    .have e0:decide ((0:Int)<(j:Int))=false:=ε;go_wp2_with fail;refine(qz.u _).mono ?_;rintro e w4⟨rfl,hb4⟩;have q7:=Ab (HB.u.trans (hb4.mono HB.u.size));have s6:=(hb4.cell (p:=⟨b,6,none⟩) (show b<_ from ζ)).trans r6;have s1:=(hb4.cell (p:=⟨g,j,none⟩) (show g<_ from ζ)).trans q1;have q4:=Ab (q0.u w4 q7.u);clear hb4 q0;go_wp2_with fail;refine q4.u.mono ?_;rintro e w5⟨rfl,q5⟩;have q8:=Ab (q7.u.trans (q5.mono q7.u.size));clear q5 q4;go_wp2;exact⟨⟨j+1,q+qx.length+1+tx.length,ζ,ψ,ψ,by have:=qd.u;have:=HQ.u;grind,q8.u⟩,by simp only[A5];omega⟩
   .have HJ:=Ab (show q=2+(Ah L).length by rw[hq,Ï (by have:=HN.u;have:=HL.u;omega)]);clear hq hb;go_wp2;go_ret;exact⟨by rw[HJ.u];rfl,HB.u⟩
end
theorem J6:∀f,mU f
 |0=>λ_ _ _ _ h=>h.elim
 |f+1=>λF w v o h hg hT hl=>by
  have q0:=GY (f+1) F w v o h hg hT hl;obtain⟨b,rfl,hb,h⟩:=h;rcases h with⟨k,hk,rfl,h⟩|⟨n,x,rfl,h⟩|⟨s,rfl,h⟩|⟨es,sl,ps,rfl,h,ho,hs,ha⟩|⟨es,kl,sl,ps,rfl,h,ho,hs,ho2,hs2,ha⟩
  .refine Ia h ?_ ?_ q0<;>(match k,hk with
    |0,_=>rfl
    |1,_=>rfl
    |2,_=>rfl)
  .exact Ia h rfl rfl q0
  .exact Ia h rfl rfl q0
  .have e:(pP (f+1) (pO (f+1) (rK es))).length=2+(Ah (es.map λe=>pP f (pO f e))).length:=by
    show(91::(Ah ((es.map (pO f)).map (pP f))++[93])).length=_;rw[Ý];simp only[É,Ñ,á];rw[show(pP f ∘ pO f)=λe=>pP f (pO f e)from rfl];omega
   rw[e]at hl |-;exact KS (J6 f) h ho ha (ES hg) hT (Å ⟨rfl,rfl⟩) ζ
  .obtain⟨h1,h2⟩:=ER hg;have e:=Ze f es h1;rw[e]at hl |-;exact KS (J6 f) h ho2 ha ε hT ε ζ
theorem N8{F:Nat->Prop}{w:A1}{d:pL}{D x:Int}(h:RO F w v d)(hg:pU D x top 1 d)(hl:(pP top d).length<=2000000)(hT:Aj w):CB 72 #[v] w (InB ((pP top d).length:Nat)):=by
 obtain⟨o,h1,h2,rfl⟩:=h.at hg;exact J6 top F w v o h1 h2 hT hl
def elD(b1 b2:Bool)(x y:AS):List (Lit×DataW AS):=(if b1 then[(.string rS,.held x)]else[])++(if b2 then[(.string A8,.held y)]else[])
theorem oF(b2:Bool)(x x' y:AS):A4 (.map (elD false b2 x' y)) (.string rS) (.held x)=.map (elD true b2 x y):=by cases b2<;>rfl
theorem oE(b1:Bool)(x y y':AS):A4 (.map (elD b1 false x y')) (.string A8) (.held y)=.map (elD b1 true x y):=by cases b1<;>rfl
theorem oD(x y z:AS):A4 (.map (elD true true x y)) (.string AL) (.held z)=.map (elD true true x y++if true then[(.string AL,.held z)]else[]):=rfl
def StB(w:A1)(B:Nat)(v:AS)(s:By):Prop:=∃p,v=PtB p/\B<=p/\VB w p 4 n0 s (.slice none 0 0) (.map none)
theorem StB.keep{w w':A1}{B:Nat}(h:StB w B v s)(hk:∀p,p<w.1.size->(∃c t f,w.1[p]?=some (.cells c t f))->w'.1[p]?=w.1[p]?):StB w' B v s:=by
 obtain⟨p,h1,h2,h3⟩:=h;exact⟨p,h1,h2,h3.kept (hk p h3.lt ⟨_,_,_,h3⟩)⟩
theorem StB.mono{w:A1}{B B':Nat}(h:StB w B v s)(hB:B'<=B):StB w B' v s:=by
 obtain⟨p,h1,h2,h3⟩:=h;exact⟨p,h1,Ã hB h2,h3⟩
def elA(t0:AS)(q1 q3:Nat)(t6 t7 t8 x4 x9 x10 x11 x12 x13 x14 x15 x16 x17:AS):Act:=
 { tmps:=#[t0,PtB q1,.pointer none,PtB q3,x4,PtB q1,t6,t7,t8,x9,x10,x11,x12,x13,x14,x15,x16,x17,AI,AI,AI,AI,AI,AI,AI,AI,AI,AI,AI,AI,AI,AI,AI],defers:=[] }
structure ElI(wb:A1)(t0:AS)(q1 q3:Nat)(t6 t7 t8:AS)(nm:By)(pv:AS)(ps:By)(l:Array Bool)(a:Act)(w:A1):Prop where
 sz:l.size=12
 bel:Bl wb w
 d4:l.getD 4 false=true->l.getD 3 false=true/\l.getD 0 false=true
 d9:l.getD 9 false=true->l.getD 8 false=true/\l.getD 0 false=true
 d10:l.getD 10 false=true->l.getD 9 false=true/\l.getD 0 false=true
 d11:l.getD 11 false=true->l.getD 10 false=true/\l.getD 0 false=true
 ex:∃x4 x9 x10 x11 x12 x13 x14 x15 x16 x17,a=elA t0 q1 q3 t6 t7 t8 x4 x9 x10 x11 x12 x13 x14 x15 x16 x17/\
  (l.getD 1 false=true->x10=PtB q3)/\(l.getD 2 false=true->x11=.string ⟨nm.toArray⟩)/\(l.getD 3 false=true->StB w wb.1.size x12 nm)/\
  (l.getD 5 false=true->x13=.pointer (some ⟨q1,1,none⟩))/\(l.getD 6 false=true->x14=pv)/\(l.getD 7 false=true->x15=.string ⟨ps.toArray⟩)/\(l.getD 8 false=true->StB w wb.1.size x16 ps)/\
  (l.getD 0 false=true ->∃M n,x9=.map (some M)/\wb.1.size<=M/\n<=(if l.getD 4 false then 1 else 0)+(if l.getD 9 false then 1 else 0)/\w.ownsMap A2 9 RV M n (.map (elD (l.getD 4 false) (l.getD 9 false) x12 x16)))/\
  (l.getD 10 false=true->x17=x9)/\(l.getD 11 false=true->x4=x9)
theorem P0(h:l.size=12)(i j:Nat)(hi:i<12):(l.setIfInBounds i true).getD j false=if i=j then true else l.getD j false:=by
 by_cases e:i=j
 .simp_all
 simp_all
theorem J5{w:A1}{M n:Nat}{D:DataW AS}(h:w.ownsMap A2 9 RV M n D){p:Nat}(hp:∃c t f,w.1[p]?=some (.cells c t f)):p≠M:=by
 rintro rfl;obtain⟨es,q0,hb,_⟩:=h;grind
theorem ElI.low{wb:A1}{t0:AS}{q1 q3:Nat}{t6 t7 t8:AS}{nm:By}{pv:AS}{ps:By}{a:Act}{w w':A1}(h:ElI wb t0 q1 q3 t6 t7 t8 nm pv ps l a w)(hb:Bl w w'):ElI wb t0 q1 q3 t6 t7 t8 nm pv ps l a w':=by
 obtain⟨hsz,q0,q8,q9,q4,q5,x4,x9,x10,x11,x12,x13,x14,x15,x16,x17,ha,e1,e2,e3,e5,e6,e7,e8,e0,q6,q7⟩:=h;refine⟨hsz,q0.trans (hb.mono q0.size),q8,q9,q4,q5,x4,x9,x10,x11,x12,x13,x14,x15,x16,x17,ha,e1,e2,λh=>(e3 h).keep λp hp _=>hb.block p hp,e5,e6,e7,λh=>(e8 h).keep λp hp _=>hb.block p hp,λh=>?_,q6,q7⟩;obtain⟨M,n,m1,m2,m3,m4⟩:=e0 h;exact⟨M,n,m1,m2,m3,A0 m4 (hb.block M (CV m4))⟩
theorem Au{i j k m:Nat}(e:l.getD j false=true->l.getD k false=true/\l.getD m false=true)(h:i≠j:=by decide):(l.setIfInBounds i true).getD j false=true->(l.setIfInBounds i true).getD k false=true/\(l.setIfInBounds i true).getD m false=true:=λh'=>
 have h2:=e (unN h' h)
 ⟨ú h2.1,ú h2.2⟩
def oU(w:A1)(nm ps:By)(nv:Bool)(y:AS)(e:Ending)(w':A1):Prop:=∃p M x12 x16,e=.returned (PtB p)/\VB w' p 6 n0 [] (.slice none 0 0) (.map (some M))/\w.1.size<=p/\w.1.size<=M/\
 StB w' w.1.size x12 nm/\StB w' w.1.size x16 ps/\Bl w w'/\w'.ownsMap A2 9 RV M 3 (.map (elD true true x12 x16++if nv then[(.string AL,.held y)]else[]))
theorem Xq{w:A1}{k:Nat}{pa y:Option Addr}{pl pc:Nat}{nm ps:By}{nv:Bool}(hk:k<6)(hl:3<w.1.size)(c0:w.cell? ⟨3,k*3,none⟩=some (.string ⟨nm.toArray⟩))(c1:w.cell? ⟨3,k*3+1,none⟩=some (.bool nv))(c2:w.cell? ⟨3,k*3+2,none⟩=some (.bool false))(hS:∀w',Bl w w'->CB 165 #[.slice pa pl pc] w' (.string ⟨ps.toArray⟩)):
  Calls A2 122 #[.agg #[InB k,.slice pa pl pc,.slice none 0 0,.pointer y]] w (oU w nm ps nv (.pointer y)):=by
 have hk2:(k:Int)<6:=ζ;have z4:=@run_makeMap A2;go_enter func122,ntmps122;go_upto_region 2 with(fail)
 obtain⟨wb,qn⟩:∃wb,wb=((w.alloc (.cells #[InB k,.slice pa pl pc,.slice none 0 0,.pointer y] 178)).alloc (.cells #[.string ⟨nm.toArray⟩,.bool nv,.bool false] 219)):=⟨_,rfl⟩
 rw[<-qn];have zc:wb.1.size=w.1.size+2:=κ;have qk:Bl w wb:=by rw[qn];exact((Â _ _).alloc (Á _) _).alloc φ _
 have b1:wb.1[w.1.size]?=some (.cells #[InB k,.slice pa pl pc,.slice none 0 0,.pointer y] 178 (0,0)):=by rw[qn];exact(Ä _ _ _ φ).trans (Ê w _)
 have b3:wb.1[w.1.size+1]?=some (.cells #[.string ⟨nm.toArray⟩,.bool nv,.bool false] 219 (0,0)):=by
  rw[qn];have:=Ê (w.alloc (.cells #[InB k,.slice pa pl pc,.slice none 0 0,.pointer y] 178)) (.cells #[.string ⟨nm.toArray⟩,.bool nv,.bool false] 219);simp_all
 go_cut [4] (λs4 wx=>∃M x12 x16,s4=.map (some M)/\StB wx wb.1.size x12 nm/\StB wx wb.1.size x16 ps/\wb.1.size<=M/\wx.ownsMap A2 9 RV M 2 (.map (elD true true x12 x16))/\Bl wb wx)
 case first=>
  refine wp_region_any δ ?_;refine JG (ElI wb (.agg #[InB k,.slice pa pl pc,.slice none 0 0,.pointer y]) w.1.size (w.1.size+1) (InB k) (.pointer (some ⟨3,k*3,none⟩)) (.agg #[.string ⟨nm.toArray⟩,.bool nv,.bool false]) nm (.slice pa pl pc) ps) ?hs ?he _ _ _ _ ?hc ?h0
  case hc=>decide
  case h0=>
   refine⟨rfl,⟨rfl,rfl,rfl,Á _,λ_ _=>rfl⟩,?_,?_,?_,?_,AI,AI,AI,AI,AI,AI,AI,AI,AI,AI,rfl,?_⟩;all_goals simp
  case he=>
   intro l a w1 hI hr;have qe:=IL hI.sz δ hr;obtain⟨hsz,q0,qb,qd,q4,q6,x4,x9,x10,x11,x12,x13,x14,x15,x16,x17,rfl,e1,e2,e3,e5,e6,e7,e8,e0,q8,q9⟩:=hI;have g4:=qe 4 η;have g9:=qe 9 η;obtain⟨M,n,rfl,m2,m3,m4⟩:=e0 (qe 0 η);rw[g4,g9]at m3 m4;obtain rfl:=q9 (qe 11 η);have s1:=e3 (qe 3 η);have s2:=e8 (qe 8 η);unfold elA;go_wp2;go_meet;exact⟨M,x12,x16,rfl,s1,s2,m2,m4.mono m3,q0⟩
  case hs=>
   intro l a w1 hI i hi;obtain⟨hno,haft⟩:=DE hi;have z6:i<12:=by
    obtain⟨_,o,ho,_⟩:=mem_ready.1 hi;exact(È.1 ho).1
   have qo:=hI;obtain⟨hsz,q0,qb,qd,q4,q6,x4,x9,x10,x11,x12,x13,x14,x15,x16,x17,rfl,e1,e2,e3,e5,e6,e7,e8,e0,q8,q9⟩:=hI;have qf:=q0;have z5:=qk.trans (q0.mono qk.size);have hcase:i=0\/i=1\/i=2\/i=3\/i=4\/i=5\/i=6\/i=7\/i=8\/i=9\/i=10\/i=11:=ζ;rcases hcase with rfl|rfl|rfl|rfl|rfl|rfl|rfl|rfl|rfl|rfl|rfl|rfl
   .refine ç rfl λK hK=>?_;unfold elA;go_simp;have hb2:Bl w1 (w1.alloc (.map #[] 0)):=(Â _ _).alloc (Á _) _;have zg:l.getD 0 false=false:=ε;have qj:l.getD 4 false=false:=by
     grind
    have z9:l.getD 9 false=false:=by
     grind
    obtain⟨hsz,q0,qb,qd,q4,q6,y4,y9,qu,qv,qw,qy,qz,z0,z1,z2,ha,e1,e2,e3,e5,e6,e7,e8,e0,q8,q9⟩:=qo.low hb2;injection ha with ha _;injection ha with ha;simp only[đ,true_and,and_true]at ha;obtain⟨rfl,rfl,rfl,rfl,rfl,rfl,rfl,rfl,rfl,rfl⟩:=ha;refine hK _ _ ⟨by simp[hsz],q0,Au qb,Au qd,Au q4,Au q6,_,_,_,_,_,_,_,_,_,_,rfl,Ae e1,Ae e2,Ae e3,Ae e5,Ae e6,Ae e7,Ae e8,?_,λh=>absurd (q4 (unN h)).2 ε,λh=>absurd (q6 (unN h)).2 ε⟩;intro _;rw[Ú false (show 0≠4 from η),Ú false (show 0≠9 from η),qj,z9];exact⟨w1.1.size,0,rfl,by have:=qf.size;omega,φ,World.ownsMap_made w1 _ _ _⟩
   .refine ç rfl λK hK=>?_;unfold elA;go_simp;refine hK _ _ ⟨by simp[hsz],q0,Au qb,Au qd,Au q4,Au q6,_,_,_,_,_,_,_,_,_,_,rfl,λ_=>rfl,Ae e2,Ae e3,Ae e5,Ae e6,Ae e7,Ae e8,?_,Ae q8,Ae q9⟩;rw[Ú false (show 1≠4 from η),Ú false (show 1≠9 from η)];exact Ae e0
   .obtain rfl:=e1 (haft _ rfl ⟨1,.data⟩ φ rfl);have hc:w1.cell? ⟨w.1.size+1,0,none⟩=some (.string ⟨nm.toArray⟩):=by
     have:=(q0.block (w.1.size+1) ζ).trans b3;simp[A3,this]
    refine ç rfl λK hK=>?_;unfold elA;go_simp;refine hK _ _ ⟨by simp[hsz],q0,Au qb,Au qd,Au q4,Au q6,_,_,_,_,_,_,_,_,_,_,rfl,Ae e1,λ_=>rfl,Ae e3,Ae e5,Ae e6,Ae e7,Ae e8,?_,Ae q8,Ae q9⟩;rw[Ú false (show 2≠4 from η),Ú false (show 2≠9 from η)];exact Ae e0
   .obtain rfl:=e2 (haft _ rfl ⟨2,.data⟩ φ rfl);refine ç rfl λK hK=>?_;unfold elA;go_simp;refine(JX nm).mono ?_;rintro e w2⟨rfl,qt,hb2,hs2⟩;show K _ _;obtain⟨hsz,q0,qb,qd,q4,q6,y4,y9,qu,qv,qw,qy,qz,z0,z1,z2,ha,e1,e2,e3,e5,e6,e7,e8,e0,q8,q9⟩:=qo.low hb2;injection ha with ha _;injection ha with ha;simp only[đ,true_and,and_true]at ha;obtain⟨rfl,rfl,rfl,rfl,rfl,rfl,rfl,rfl,rfl,rfl⟩:=ha;refine hK _ _ ⟨by simp[hsz],q0,Au qb,Au qd,Au q4,Au q6,_,_,_,_,_,_,_,_,_,_,rfl,Ae e1,Ae e2,λ_=>⟨_,rfl,qf.size,qt⟩,Ae e5,Ae e6,Ae e7,Ae e8,?_,Ae q8,Ae q9⟩;have z8:l.getD 3 false=false:=ε;have qj:l.getD 4 false=false:=by
     grind
    rw[Ú false (show 3≠4 from η),Ú false (show 3≠9 from η),qj];rw[qj]at e0;exact Ae e0
   .have dd:=haft _ rfl ⟨3,.data⟩ φ rfl;obtain⟨p,rfl,za,zb⟩:=e3 dd;obtain⟨M,n,rfl,m2,m3,m4⟩:=e0 (haft _ rfl ⟨0,.data⟩ φ rfl);have qq:l.getD 4 false=false:=ε;rw[qq]at m3 m4;have z7:n<=1:=by
     grind
    obtain⟨w2,qh,ho2,hg2⟩:=AT m4 C9 underlying109 (by unfold maxLen;omega) (Gy rS η) (show RV (PtB p)=some (.held (PtB p),[])from rfl);rw[oF]at ho2;unfold rS at qh;have qi:∀q,q<w1.1.size->(∃c t f,w1.1[q]?=some (.cells c t f))->w2.1[q]?=w1.1[q]?:=λq hq hc=>hg2.block q hq (λe=>J5 m4 hc (Î e));have qg:Bl wb w2:=q0.grown hg2 q0.size ε;have e3:l.getD 3 false=true->StB w2 wb.1.size (PtB p) nm:=λh=>(e3 h).keep qi;have e8:=λh=>(e8 h).keep qi;refine ç rfl λK hK=>?_;unfold elA;go_simp;refine hK _ _ ⟨by simp[hsz],qg,λ_=>⟨ú dd,ú (haft _ rfl ⟨0,.data⟩ φ rfl)⟩,Au qd,Au q4,Au q6,_,_,_,_,_,_,_,_,_,_,rfl,Ae e1,Ae e2,Ae e3,Ae e5,Ae e6,Ae e7,Ae e8,?_,Ae q8,Ae q9⟩;intro _;rw[P0 hsz 4 4 η,if_pos rfl,Ú false (show 4≠9 from η)];grind
   .refine ç rfl λK hK=>?_;unfold elA;go_simp;refine hK _ _ ⟨by simp[hsz],q0,Au qb,Au qd,Au q4,Au q6,_,_,_,_,_,_,_,_,_,_,rfl,Ae e1,Ae e2,Ae e3,λ_=>rfl,Ae e6,Ae e7,Ae e8,?_,Ae q8,Ae q9⟩;rw[Ú false (show 5≠4 from η),Ú false (show 5≠9 from η)];exact Ae e0
   .obtain rfl:=e5 (haft _ rfl ⟨5,.data⟩ φ rfl);have hc:w1.cell? ⟨w.1.size,1,none⟩=some (.slice pa pl pc):=by
     have:=(q0.block w.1.size ζ).trans b1;simp[A3,this]
    refine ç rfl λK hK=>?_;unfold elA;go_simp;refine hK _ _ ⟨by simp[hsz],q0,Au qb,Au qd,Au q4,Au q6,_,_,_,_,_,_,_,_,_,_,rfl,Ae e1,Ae e2,Ae e3,Ae e5,λ_=>rfl,Ae e7,Ae e8,?_,Ae q8,Ae q9⟩;rw[Ú false (show 6≠4 from η),Ú false (show 6≠9 from η)];exact Ae e0
   .obtain rfl:=e6 (haft _ rfl ⟨6,.data⟩ φ rfl);refine ç rfl λK hK=>?_;unfold elA;go_simp;refine(hS w1 z5).mono ?_;rintro e w2⟨rfl,hb2⟩;show K _ _;obtain⟨hsz,q0,qb,qd,q4,q6,y4,y9,qu,qv,qw,qy,qz,z0,z1,z2,ha,e1,e2,e3,e5,e6,e7,e8,e0,q8,q9⟩:=qo.low hb2;injection ha with ha _;injection ha with ha;simp only[đ,true_and,and_true]at ha;obtain⟨rfl,rfl,rfl,rfl,rfl,rfl,rfl,rfl,rfl,rfl⟩:=ha;refine hK _ _ ⟨by simp[hsz],q0,Au qb,Au qd,Au q4,Au q6,_,_,_,_,_,_,_,_,_,_,rfl,Ae e1,Ae e2,Ae e3,Ae e5,Ae e6,λ_=>rfl,Ae e8,?_,Ae q8,Ae q9⟩;rw[Ú false (show 7≠4 from η),Ú false (show 7≠9 from η)];exact Ae e0
   .obtain rfl:=e7 (haft _ rfl ⟨7,.data⟩ φ rfl);refine ç rfl λK hK=>?_;unfold elA;go_simp;refine(JX ps).mono ?_;rintro e w2⟨rfl,qt,hb2,hs2⟩;show K _ _;obtain⟨hsz,q0,qb,qd,q4,q6,y4,y9,qu,qv,qw,qy,qz,z0,z1,z2,ha,e1,e2,e3,e5,e6,e7,e8,e0,q8,q9⟩:=qo.low hb2;injection ha with ha _;injection ha with ha;simp only[đ,true_and,and_true]at ha;obtain⟨rfl,rfl,rfl,rfl,rfl,rfl,rfl,rfl,rfl,rfl⟩:=ha;refine hK _ _ ⟨by simp[hsz],q0,Au qb,Au qd,Au q4,Au q6,_,_,_,_,_,_,_,_,_,_,rfl,Ae e1,Ae e2,Ae e3,Ae e5,Ae e6,Ae e7,λ_=>⟨_,rfl,qf.size,qt⟩,?_,Ae q8,Ae q9⟩;have z8:l.getD 8 false=false:=ε;have qj:l.getD 9 false=false:=by
     grind
    rw[Ú false (show 8≠4 from η),Ú false (show 8≠9 from η),qj];rw[qj]at e0;exact Ae e0
   .have dd:=haft _ rfl ⟨8,.data⟩ φ rfl;obtain⟨p,rfl,za,zb⟩:=e8 dd;obtain⟨M,n,rfl,m2,m3,m4⟩:=e0 (haft _ rfl ⟨0,.data⟩ φ rfl);have qq:l.getD 9 false=false:=ε;rw[qq]at m3 m4;have z7:n<=1:=by
     grind
    obtain⟨w2,qh,ho2,hg2⟩:=AT m4 C9 underlying109 (by unfold maxLen;omega) (Gy A8 η) (show RV (PtB p)=some (.held (PtB p),[])from rfl);rw[oE]at ho2;unfold A8 at qh;have qi:∀q,q<w1.1.size->(∃c t f,w1.1[q]?=some (.cells c t f))->w2.1[q]?=w1.1[q]?:=λq hq hc=>hg2.block q hq (λe=>J5 m4 hc (Î e));have qg:Bl wb w2:=q0.grown hg2 q0.size ε;have e3:=λh=>(e3 h).keep qi;have e8:l.getD 8 false=true->StB w2 wb.1.size (PtB p) ps:=λh=>(e8 h).keep qi;refine ç rfl λK hK=>?_;unfold elA;go_simp;refine hK _ _ ⟨by simp[hsz],qg,Au qb,λ_=>⟨ú dd,ú (haft _ rfl ⟨0,.data⟩ φ rfl)⟩,Au q4,Au q6,_,_,_,_,_,_,_,_,_,_,rfl,Ae e1,Ae e2,Ae e3,Ae e5,Ae e6,Ae e7,Ae e8,?_,Ae q8,Ae q9⟩;intro _;rw[P0 hsz 9 9 η,if_pos rfl,Ú false (show 9≠4 from η)];grind
   .refine ç rfl λK hK=>?_;unfold elA;go_simp;refine hK _ _ ⟨by simp[hsz],q0,Au qb,Au qd,λ_=>⟨ú (haft _ rfl ⟨9,.data⟩ φ rfl),ú (haft _ rfl ⟨0,.data⟩ φ rfl)⟩,Au q6,_,_,_,_,_,_,_,_,_,_,rfl,Ae e1,Ae e2,Ae e3,Ae e5,Ae e6,Ae e7,Ae e8,?_,λ_=>rfl,Ae q9⟩;rw[Ú false (show 10≠4 from η),Ú false (show 10≠9 from η)];exact Ae e0
   .obtain rfl:=q8 (haft _ rfl ⟨10,.data⟩ φ rfl);refine ç rfl λK hK=>?_;unfold elA;go_simp;refine hK _ _ ⟨by simp[hsz],q0,Au qb,Au qd,Au q4,λ_=>⟨ú (haft _ rfl ⟨10,.data⟩ φ rfl),ú (haft _ rfl ⟨0,.phase⟩ φ rfl)⟩,_,_,_,_,_,_,_,_,_,_,rfl,Ae e1,Ae e2,Ae e3,Ae e5,Ae e6,Ae e7,Ae e8,?_,Ae q8,λ_=>rfl⟩;rw[Ú false (show 11≠4 from η),Ú false (show 11≠9 from η)];exact Ae e0
 case rest=>
  obtain⟨M,x12,x16,rfl,hx,hy,hM,ho,qm⟩:=hcut;have ze:=qm.size;have hin:∀j,j<wb.1.size->j≠M:=λj hj e=>ζ;have g1:=(qm.block (w.1.size+1) ζ).trans b3;have g2:=(qm.block w.1.size ζ).trans b1;have q1:wc.cell? ⟨w.1.size+1,1,none⟩=some (.bool nv):=ck g1;have q2:wc.cell? ⟨w.1.size+1,2,none⟩=some (.bool false):=ck g1;have q3:wc.cell? ⟨w.1.size,3,none⟩=some (.pointer y):=ck g2;have HB:=Ab (qk.trans (qm.mono qk.size));have zf:w.1.size+2<=wb.1.size:=ζ;cases nv with
  |false=>
   have HX:=Ab hx;have HY:=Ab hy;have HO:=Ab ho;clear hx hy ho qm g1 g2 qk b1 b3 qn z4 hS c0 c1 c2 hin;go_wp2;go_ret;have q7:∀o:Obj,Bl wc (wc.alloc o):=λo=>(Â _ _).alloc (Á _) _;refine⟨wc.1.size,M,x12,x16,rfl,Ê wc _,ζ,ζ,?_,?_,HB.u.trans ((q7 _).mono HB.u.size),?_⟩
   .exact (HX.u.keep λp hp _=>(q7 _).block p hp).mono ζ
   .exact (HY.u.keep λp hp _=>(q7 _).block p hp).mono ζ
   .rw[if_neg η,ĉ];exact(A0 HO.u ((q7 _).block M (CV HO.u))).mono ζ
  |true=>
   obtain⟨w3,qh,qr,hg3⟩:=AT ho C9 underlying109 (by unfold maxLen;omega) (Gy AL η) (show RV (.pointer y)=some (.held (.pointer y),[])from rfl);rw[oD]at qr;unfold AL at qh;have qi:∀q,q<wc.1.size->(∃c t f,wc.1[q]?=some (.cells c t f))->w3.1[q]?=wc.1[q]?:=λq hq hc=>hg3.block q hq (λe=>J5 ho hc (Î e));have q5:w3.cell? ⟨w.1.size+1,2,none⟩=some (.bool false):=by
    have:=(hg3.block (w.1.size+1) ζ (λe=>hin _ ζ (Î e))).trans g1;simp[A3,this]
   have HX:=Ab (hx.keep qi);have HY:=Ab (hy.keep qi);have HO:=Ab qr;have z3:=Ab (HB.u.grown hg3 HB.u.size ε);have zh:=hg3.size;clear hx hy ho qr hg3 qi qm g1 g2 qk b1 b3 qn z4 hS c0 c1 c2 hin;go_wp2;go_ret;have q7:∀o:Obj,Bl w3 (w3.alloc o):=λo=>(Â _ _).alloc (Á _) _;refine⟨w3.1.size,M,x12,x16,rfl,Ê w3 _,ζ,ζ,?_,?_,z3.u.trans ((q7 _).mono z3.u.size),?_⟩
   .exact (HX.u.keep λp hp _=>(q7 _).block p hp).mono ζ
   .exact (HY.u.keep λp hp _=>(q7 _).block p hp).mono ζ
   .rw[if_pos rfl];exact A0 HO.u ((q7 _).block M (CV HO.u))
