import Derived.Test.YtdpomdelmdofmaaGreatDoorP32
import Derived.Test.YtdpomdelmdofmaaGreatDoorP33
import Derived.Test.YtdpomdelmdofmaaGreatDoorP30
import Derived.Test.YtdpomdelmdofmaaGreatDoorP34
open Go renaming World->AI,Value->AS,Calls->A2,Ending->A3
open Go.Proofs.Tryz renaming prog->AT
open Nat renaming le_succ->A1
set_option maxRecDepth 100000
set_option maxHeartbeats 32000000
namespace Go.Proofs.YtdpomdelmdofmaaGreatDoor
open Go.Proofs.Tryz Go.RowKit Go.Maps
variable{w':AI}{xs:List AS}{ops:List qH}{o:qH}{nm:By}{pa fa y:Option Addr}{pl pc fl fc k B:Nat}{q:AS}
def Jv(w:AI)(G:Nat->Prop)(xs:List AS)(ops:List qH):Prop:=∀i (h:i<ops.length),∃(nm:By) (pa:Option Addr) (pl pc:Nat) (fa:Option Addr) (fl fc:Nat) (y:Option Addr),OpR G w ops[i] nm (.slice pa pl pc) (.slice fa fl fc) y/\
 xs[i*4]?=some (.string ⟨nm.toArray⟩)/\xs[i*4+1]?=some (.slice pa pl pc)/\xs[i*4+2]?=some (.slice fa fl fc)/\xs[i*4+3]?=some (.pointer y)
theorem Jv.move{w:AI}{G G':Nat->Prop}(h:Jv w G xs ops)(hk:∀k,G k->k<w.1.size->w'.1[k]?=w.1[k]?/\G' k)(hs:w.1.size<=w'.1.size):Jv w' G' xs ops:=λi hi=>by
 obtain⟨nm,pa,pl,pc,fa,fl,fc,y,h1,h2⟩:=h i hi;exact⟨nm,pa,pl,pc,fa,fl,fc,y,h1.move hk hs,h2⟩
theorem Jv.snoc{w:AI}{G:Nat->Prop}(h:Jv w G xs ops)(hl:xs.length=ops.length*4)(ho:OpR G w o nm (.slice pa pl pc) (.slice fa fl fc) y):
  Jv w G (xs++[.string ⟨nm.toArray⟩,.slice pa pl pc,.slice fa fl fc,.pointer y]) (ops++[o]):=λi hi=>by
 by_cases hlt:i<ops.length
 .obtain⟨nm,pa,pl,pc,fa,fl,fc,y,h1,h2,h3,h4,h5⟩:=h i hlt;grind
 grind
def X9(G:Nat->Prop)(lo:Nat)(r:Except Nat (List qH))(e:A3)(w':AI):Prop:=match r with
 |.error i=>e=.returned (.tuple #[.slice none 0 0,InB i])
 |.ok l=>∃(sl:AS) (xs:List AS),e=.returned (.tuple #[sl,InB (-1)])/\w'.ownsRow lo 151 4 sl l.length xs/\Jv w' G xs l
structure RdO(F:Nat->Prop)(w1:AI)(es:List pL)(k:Nat)(pv:AS)(xs:List AS)(ops:List qH)(W:AI):Prop where
 len:ops.length=k
 own:W.ownsRow w1.1.size 151 4 pv k xs
 bel:Bl w1 W
 rops:Jv W (λq=>((F q/\q<w1.1.size)\/w1.1.size<=q)/\pv.ownBlock≠some q) xs ops
 eq:Ba 0 es=match Ba k (es.drop k)with
  |.ok l=>.ok (ops++l)
  |.error c=>.error c
theorem RdO.next{F:Nat->Prop}{w1:AI}{es:List pL}{pv q4:AS}{W W4 W5:AI}(h:RdO F w1 es k pv xs ops W)(hk:k<es.length)(ho:Bf es[k]=some o)(hb:Bl W W4)(q7:OpR (λq=>((F q/\q<w1.1.size)/\q<W.1.size)\/W.1.size<=q) W4 o nm (.slice pa pl pc) (.slice fa fl fc) y)(q5:W5.ownsRow w1.1.size 151 4 q4 (k+1) (xs++[.string ⟨nm.toArray⟩,.slice pa pl pc,.slice fa fl fc,.pointer y]))(hg:W4.grownBy W5 pv.ownBlock)(q6:q4.ownBlock=pv.ownBlock\/q4.ownBlock=some W4.1.size):
  RdO F w1 es (k+1) q4 (xs++[.string ⟨nm.toArray⟩,.slice pa pl pc,.slice fa fl fc,.pointer y]) (ops++[o]) W5:=by
 have hsz:=h.bel.size;have q8:∀g,pv.ownBlock=some g->g<W.1.size/\w1.1.size<=g:=λg hg=>Bt h.own g hg;have hne:∀q,q<W4.1.size->pv.ownBlock≠some q->q4.ownBlock≠some q:=by
  intro q hq h1 h2;rcases q6 with h3|h3
  .exact h1 (h3▸h2)
  .rw[h3]at h2;injection h2 with h2;omega
 have hb4:=hb.size;refine⟨by simp[h.len],q5,(h.bel.trans (hb.mono hsz)).grown hg (Ã hsz hb.size) ε,?_,?_⟩
 .refine Jv.snoc ((h.rops.move (w':=W4) (G':=λq=>(((F q/\q<w1.1.size)\/w1.1.size<=q)/\pv.ownBlock≠some q)/\q<W4.1.size) (λq hq q0=>⟨hb.block q q0,hq,ζ⟩) hb.size).move (λq hq q0=>⟨hg.block q q0 λe=>hq.1.2 e.symm,hq.1.1,hne q q0 hq.1.2⟩) hg.size) (by rw[h.own.1,h.len]) ?_;refine q7.move (λq hq q0=>?_) hg.size;have hr:pv.ownBlock≠some q:=ε;refine⟨hg.block q q0 λe=>hr e.symm,?_,hne q q0 hr⟩;grind
 .rw[h.eq,Û hk,Ba,ho];grind
theorem Y8:(Tryz.prog.info? 151).map (λi=>(i.zero,i.size,i.bytes))=some (some (.agg #[.string ⟨#[]⟩,.slice none 0 0,.slice none 0 0,.pointer none]),4,72):=δ
section
variable{F:Nat->Prop}{w:AI}{v:AS}{d:pL}
theorem OJ(hro:RO F w v d)(hs:Sz 8000000000000 d)(z3:(AW d).length<=1000000):
  A2 AT 99 #[v] w λe w'=>X9 (λk=>(F k/\k<w.1.size)\/w.1.size<=k) w.1.size (A7 d) e w'/\Bl w w':=by
 have qo:RO (λk=>F k/\k<w.1.size) w v d:=hro.move λk h1 h2=>⟨rfl,h1,h2⟩
 obtain⟨b,rfl,hb,h⟩:=qo.three;have q0:∀kd:By,CeB w b 0=some (.string ⟨kd.toArray⟩)->(kd==[97,114,114,97,121])=false->A7 d=.error 0->A2 AT 99 #[PtB b] w λe w'=>X9 (λk=>(F k/\k<w.1.size)\/w.1.size<=k) w.1.size (A7 d) e w'/\Bl w w':=by
  intro kd c0 hk hp;have hk2:(kd != [97,114,114,97,121])=true:=by simpa using hk
  have HP:=Ab hp;clear hp hro qo h hs;go_enter func99,ntmps99;go_wp2;go_ret2;exact⟨by rw[HP.u];rfl,Â _ _⟩
 rcases h with⟨kd,ng,ds,x,s,h,hk,_,hl⟩|⟨ds,sl,ps,rfl,h,ho,hsl,hal⟩|⟨f,es,E,rfl,h⟩
 .exact q0 kd h.c0 hk (by
   unfold A7;split
   .exact absurd rfl (hl.1 _ _)
   .rfl)
 .clear q0 hro qo;have qu:=hal.length;have qk:ds.length<=1000000:=z3;have q7:∀k (hk:k<ds.length),Sz 8000000000000 ds[k]:=λk hk=>hs.kid (i:=k) (Ô hk);obtain⟨i0,z5,hz0,z9,hz2⟩:=ę Y8;obtain⟨g,cap,a,rfl,qg,za,hg,hc⟩:=B0 ho;obtain⟨n,hn⟩:∃n,n=ps.length:=⟨_,rfl⟩
  have c0:=h.c0;rw[J9]at c0;have c6:=h.c6;rw[<-hn]at c6 qg;have zb:n<=1000000:=ζ;have z2:=h.lt;have HE:=Ab (show A7 (Ak ds)=Ba 0 ds from rfl);have HN:=Ab (ð hn qu);have HG:=Ab hg;have HC:=Ab hc;have qw:=Ab hal;have qe:=Ab q7;have z0:=Ab (show RdO F w ds 0 (.slice none 0 0) [] [] w from⟨rfl,å _ _ _ _,Â _ _,λi hi=>by simp at hi,by
   rw[Œ];cases Ba 0 ds<;>rfl⟩)
  clear hal qu hn hg hc q7 hs h ho hsl qk;(try unfold PtB);(try unfold SlB);go_enter func99,ntmps99;go_wp2;go_loopw [4,5] (λlv i wr=>∃(j:Nat) (xs:List AS) (ops:List qH),j<=n/\i=InB j/\Hid (RdO F w ds j lv xs ops wr)) (λ_ i _=>n-(intOf i).toNat)
  case atStart=>exact⟨0,[],[],ζ,rfl,z0⟩
  case round=>
   obtain⟨j,xs,ops,hj,rfl,HI⟩:=hrel;have q4:=HI.u.bel;have r6:=(q4.cell (p:=⟨b,6,none⟩) z2).trans c6;by_cases hlt:j<n
   .have qt:j<ps.length:=by have:=HN.u.1;omega
    have qi:j<ds.length:=by have:=HN.u.2;omega
    obtain⟨rfl,z4⟩:=HG.u ζ;have ck:=(q4.cell (p:=⟨g,j,none⟩) z4).trans (HC.u j qt);have qb:=Ab (PC ((qw.u.get j qt qi).bel q4) (qe.u j qi));obtain⟨pk,hpk⟩:∃pk,pk=ps[j]:=⟨_,rfl⟩
    obtain⟨ek,qh⟩:∃ek,ek=ds[j]:=⟨_,rfl⟩
    rw[<-hpk]at ck qb;rw[<-qh]at qb;have qq:=Ab qh;have qr:=Ab qi;clear hpk qh q4;go_wp2_with fail;refine qb.u.mono ?_;rintro e w2⟨⟨nm,pa,fa,y,pl,pc,fl,fc,ok,rfl,hm⟩,hb2⟩;have qy:=Ab hb2;have hs2:=hb2.size;have zc:=HI.u.bel.size;cases hit:Bf ek with
    |none=>
     rw[hit]at hm;have qn:ok=false:=hm;subst qn;have q9:=Ab (show A7 (Ak ds)=.error j by
      rw[HE.u,HI.u.eq,Û qr.u,Ba,<-qq.u,hit])
     clear hit hb2 hm;go_wp2;go_ret2;exact⟨by rw[q9.u];rfl,((HI.u.bel.trans (qy.u.mono HI.u.bel.size)).alloc ζ _)⟩
    |some o=>
     rw[hit]at hm;obtain⟨qn,qv⟩:=hm;subst qn;have z1:=Ab qv;have qd:=Ab hit;have hb4:Bl wr ((w2.alloc (.cells #[.string ⟨nm.toArray⟩,.slice pa pl pc,.slice fa fl fc,.pointer y] 151)).alloc (.cells #[.string ⟨nm.toArray⟩,.slice pa pl pc,.slice fa fl fc,.pointer y] 151)):=(hb2.alloc hs2 _).alloc ω _;have qz:=Ab hb4;have qf:=Ab (Bz HI.u.own λg hg=>hb4.block g (Bt HI.u.own g hg).1);have qj:(j+1)*72<=140737488355328:=ζ;have z7:j+1<=maxLen:=by unfold maxLen;omega
     clear hit hb2 qv hb4;go_wp2_with (at_builtin;refine wpList_append_own_at _ rfl _ _ 146 rfl w.1.size 151 i0 _ 4 72 underlying146 z5 hz0 z9 hz2 rfl η _ _ _ rfl qf.u ⟨w2.1.size+1,0,none⟩ 1 1 [.string ⟨nm.toArray⟩,.slice pa pl pc,.slice fa fl fc,.pointer y] rfl rfl (Ö (cs:=#[.string ⟨nm.toArray⟩,.slice pa pl pc,.slice fa fl fc,.pointer y]) (t:=151) (fr:=(0,0)) (by have:=Ê (w2.alloc (.cells #[.string ⟨nm.toArray⟩,.slice pa pl pc,.slice fa fl fc,.pointer y] 151)) (.cells #[.string ⟨nm.toArray⟩,.slice pa pl pc,.slice fa fl fc,.pointer y] 151);simp_all)) (by intro u hu;simp at hu;rcases hu with rfl|rfl|rfl|rfl<;>rfl) z7 qj ω ?_;intro v' w5 q8 q6 z8 qm);exact⟨⟨j+1,_,_,ζ,ψ,RdO.next HI.u qr.u (by rw[<-qq.u];exact qd.u) qz.u (z1.u.move (λk hk z6=>⟨(Ä _ _ _ ω).trans (Ä _ _ _ z6),hk⟩) ω) q8 q6 qm⟩,by simp only[intOf];omega⟩
   .have q5:A7 (Ak ds)=.ok ops:=by
     rw[HE.u,HI.u.eq,í (by have:=HN.u;omega)];simp[Ba]
    have HF:=Ab q5;clear q5 q4;go_wp2;go_ret2;refine⟨?_,HI.u.bel⟩;rw[HF.u];exact⟨_,xs,rfl,by rw[HI.u.len];exact HI.u.own,HI.u.rops.move (λk hk _=>⟨rfl,hk.1⟩) (Á _)⟩
 .obtain⟨_,_,_,_,_,_,_,_,_,h,_⟩:=h;exact q0 _ h.c0 rfl rfl
end
section
variable{F:Nat->Prop}{w:AI}{v:AS}{d:pL}
theorem Nj.form{r:Except Nat pL}{e:A3}(h:Nj F r e w'):∃(px:Option Addr) (c:Nat),e=.returned (.tuple #[.pointer px,InB c])/\((∃y,r=.ok y/\c=0/\RO F w' (.pointer px) y)\/(r=.error c/\px=none)):=by
 cases r with
 |ok y=>obtain⟨p,rfl,h⟩:=h;exact⟨p,0,rfl,Å ⟨y,rfl,rfl,h⟩⟩
 |error c=>exact⟨none,c,h,À ⟨rfl,rfl⟩⟩
theorem Se{F':Nat->Prop}{v':AS}{a b:pL}(h:RO F w v a)(h':RO F' w v' b):CB 70 #[v,v'] w (.bool (veq a b)):=by
 obtain⟨f,o,h1,h2,rfl⟩:=h;obtain⟨f',o',q4,q0,rfl⟩:=h';have:=JT (max f f') F F' w v v' o o' (h1.up ζ) (q4.up ζ) (goO.up h2 ζ) (goO.up q0 ζ);rwa [FB f _ o h2 ζ,FB f' _ o' q0 ζ]at this
theorem iJ{p q:List By}{xv:pL}(hv:RO F w v d)(hs:Sz 1000000 d)(ho:OpR F w (k,p,q,xv) nm (.slice pa pl pc) (.slice fa fl fc) y)(hp:∀t∈p,t.length<=1048576)(hq:∀t∈q,t.length<=1048576)(hF:∀k,w.1.size<=k->F k)(qk:k=3 ->∀z,rI 2 .nil d q=.ok z->Sz 1000000 z):
  A2 AT 100 #[v,.agg #[.string ⟨nm.toArray⟩,.slice pa pl pc,.slice fa fl fc,.pointer y]] w λe w'=>Nj F (AK d (k,p,q,xv)) e w'/\Bl w w':=by
 obtain⟨zi,qt,⟨qq,_⟩,⟨qo,_⟩,qu⟩:=ho;simp only at zi qt qq qo qu;obtain⟨vb,rfl,_⟩:=hv.ptr;obtain⟨vp,z6⟩:∃vp:Option Addr,vp=some ⟨vb,0,none⟩:=⟨_,rfl⟩
 unfold PtB at hv |-;rw[<-z6]at hv |-;clear z6;have HV:=Ab (λ(W:AI) (hb:Bl w W)=>hv.bel hb);have HX:=Ab (λ(W:AI) (hb:Bl w W) h=>(qu h).bel hb);have HP:=Ab (λ(W:AI) (hb:Bl w W)=>qq.bel hb);have HQ:=Ab (λ(W:AI) (hb:Bl w W)=>qo.bel hb);have qe:=Ab (λ(W:AI) (hb:Bl w W) j (hj:W.1.size<=j)=>hF j (by have:=hb.size;omega));have HS:=Ab hs;have qf:=Ab hp;have z1:=Ab hq;have HM:=Ab qk;have q6:=Ab qt;have z3:pl=p.length/\fl=q.length:=by
  constructor
  .obtain⟨_,_,_,_,e,_⟩:=qq.cells;injection e
  .obtain⟨_,_,_,_,e,_⟩:=qo.cells;injection e
 have qz:=Ab z3;clear hv hs qq qo qu hp hq hF qk qt z3;go_enter func100,ntmps100;go_wp2_with fail;obtain⟨W1,qn⟩:∃W1,W1=w.alloc (.cells #[.string ⟨nm.toArray⟩,.slice pa pl pc,.slice fa fl fc,.pointer y] 151):=⟨_,rfl⟩
 obtain⟨A,hA⟩:∃A,A=w.1.size:=⟨_,rfl⟩
 have hb1:Bl w W1:=by rw[qn];exact(Â _ _).alloc (Á _) _
 have hB:W1.1[A]?=some (.cells #[.string ⟨nm.toArray⟩,.slice pa pl pc,.slice fa fl fc,.pointer y] 151 (0,0)):=by rw[qn,hA];exact Ax _ _ _ rfl
 have zh:A<W1.1.size:=(È.1 hB).1;rw[<-qn,<-hA];have HA:=Ab hA;have qv:=Ab hb1;have HB:=Ab hB;have qy:=Ab (M3 q z1.u (HV.u W1 hb1) HS.u (HQ.u W1 hb1));clear qn hA hb1 hB;refine qy.u.mono ?_;rintro e w2⟨he,hb2⟩;obtain⟨px,c,rfl,z4⟩:=he.form;have qm:=Ab (qv.u.trans (hb2.mono qv.u.size));have qi:=(hb2.block A zh).trans HB.u;have a1:CeB w2 A 1=some (.slice pa pl pc):=ck qi;have a2:CeB w2 A 2=some (.slice fa fl fc):=ck qi;have zg:=(È.1 qi).1;have z7:=Ab qi;have za:=Ab z4;have qw:=Ab (Re (HQ.u w2 qm.u) (HP.u w2 qm.u));clear he hb2 qi z4 qy;go_wp2_with fail;refine qw.u.mono ?_;rintro e w3⟨rfl,hb3⟩;have q0:=Ab (qm.u.trans (hb3.mono qm.u.size));have B3:=(hb3.block A zg).trans z7.u;have z2:=(È.1 B3).1;have d0:CeB w3 A 0=some (.string ⟨nm.toArray⟩):=ck B3;have d1:CeB w3 A 1=some (.slice pa pl pc):=ck B3;have d2:CeB w3 A 2=some (.slice fa fl fc):=ck B3;have d3:CeB w3 A 3=some (.pointer y):=ck B3;have qh:=Ab (show(∃y,Ag d q=.ok y/\c=0/\RO F w3 (.pointer px) y)\/(Ag d q=.error c/\px=none)from by
  rcases za.u with⟨y,h1,h2,h3⟩|h
  .exact Å ⟨y,h1,h2,h3.bel hb3⟩
  .exact À h)
 clear hb3 B3 qw a1 a2;go_upto_region 4 with(fail)
 rcases(by omega:k=0\/k=1\/k=2\/k=5\/k=4\/k=3)with rfl|rfl|rfl|rfl|rfl|rfl
 .have q8:(nm==[97,100,100])=true:=by rw[q6.u];decide
  have HC:=Ab (Du (F:=F) (k:=1) ζ p qf.u w3 _ _ d xv y (HV.u w3 q0.u) HS.u (HP.u w3 q0.u) (λ_=>HX.u w3 q0.u ζ) (qe.u w3 q0.u));have HE:=Ab (show AK d (0,p,q,xv)=rI 1 xv d p by simp[AK]);go_wp2_with fail;refine HC.u.mono ?_;rintro e w4⟨he,hb4⟩;obtain⟨pz,cz,rfl,_⟩:=he.form;have HR:=Ab he;have q7:=Ab (q0.u.trans (hb4.mono q0.u.size));clear he hb4;go_wp2;go_ret2;exact⟨by rw[HE.u];exact HR.u,q7.u⟩
 .have q8:(nm==[97,100,100])=false:=by rw[q6.u];decide
  have q4:(nm==[114,101,109,111,118,101])=true:=by rw[q6.u];decide
  have HC:=Ab (Du (F:=F) (k:=2) ζ p qf.u w3 _ _ d .nil none (HV.u w3 q0.u) HS.u (HP.u w3 q0.u) (λh=>absurd rfl h) (qe.u w3 q0.u));have HE:=Ab (show AK d (1,p,q,xv)=rI 2 .nil d p by simp[AK]);go_wp2_with fail;refine HC.u.mono ?_;rintro e w4⟨he,hb4⟩;obtain⟨pz,cz,rfl,_⟩:=he.form;have HR:=Ab he;have q7:=Ab (q0.u.trans (hb4.mono q0.u.size));clear he hb4;go_wp2;go_ret2;exact⟨by rw[HE.u];exact HR.u,q7.u⟩
 .have q8:(nm==[97,100,100])=false:=by rw[q6.u];decide
  have q4:(nm==[114,101,109,111,118,101])=false:=by rw[q6.u];decide
  have q5:(nm==[114,101,112,108,97,99,101])=true:=by rw[q6.u];decide
  have HC:=Ab (Du (F:=F) (k:=3) ζ p qf.u w3 _ _ d xv y (HV.u w3 q0.u) HS.u (HP.u w3 q0.u) (λ_=>HX.u w3 q0.u ζ) (qe.u w3 q0.u));have HE:=Ab (show AK d (2,p,q,xv)=rI 3 xv d p by simp[AK]);go_wp2_with fail;refine HC.u.mono ?_;rintro e w4⟨he,hb4⟩;obtain⟨pz,cz,rfl,_⟩:=he.form;have HR:=Ab he;have q7:=Ab (q0.u.trans (hb4.mono q0.u.size));clear he hb4;go_wp2;go_ret2;exact⟨by rw[HE.u];exact HR.u,q7.u⟩
 .have q8:(nm==[97,100,100])=false:=by rw[q6.u];decide
  have q4:(nm==[114,101,109,111,118,101])=false:=by rw[q6.u];decide
  have q5:(nm==[114,101,112,108,97,99,101])=false:=by rw[q6.u];decide
  have q9:(nm==[116,101,115,116])=true:=by rw[q6.u];decide
  have z9:=Ab (M3 p qf.u (HV.u w3 q0.u) HS.u (HP.u w3 q0.u));have zf:=Ab (HX.u w3 q0.u ζ);go_wp2_with fail;refine z9.u.mono ?_;rintro e w4⟨he,hb4⟩;obtain⟨pz,cz,rfl,hz⟩:=he.form;have q7:=Ab (q0.u.trans (hb4.mono q0.u.size));have e3:=(hb4.cell (p:=⟨A,3,none⟩) z2).trans d3;rcases hz with⟨z,hz,rfl,hr⟩|⟨hz,rfl⟩
  .have z0:=Ab (Se hr (zf.u.bel hb4));have HE:=Ab (show AK d (5,p,q,xv)=if veq z xv=true then .ok d else .error 14 by simp[AK,hz]);obtain⟨bb,qb⟩:∃bb,bb=veq z xv:=⟨_,rfl⟩
   rw[<-qb]at z0 HE;clear he hb4 hz hr qb;go_wp2_with fail;refine z0.u.mono ?_;rintro e w5⟨rfl,qj⟩;have qg:=Ab (q7.u.trans (qj.mono q7.u.size));have ze:=Ab (HV.u w5 qg.u);clear qj;cases bb with
   |false=>
    go_wp2;go_ret2;exact⟨by rw[HE.u];rfl,qg.u⟩
   |true=>
    go_wp2;go_ret2;exact⟨by rw[HE.u];exact⟨_,rfl,ze.u⟩,qg.u⟩
  .have HE:=Ab (show AK d (5,p,q,xv)=.error cz by simp[AK,hz]);have hne:((cz:Int)!=0)=true:=by rw[bne_iff_ne];have:=BQ hz;omega
   clear he hb4 hz;go_wp2;go_ret2;exact⟨by rw[HE.u];rfl,q7.u⟩
 .have q8:(nm==[97,100,100])=false:=by rw[q6.u];decide
  have q4:(nm==[114,101,109,111,118,101])=false:=by rw[q6.u];decide
  have q5:(nm==[114,101,112,108,97,99,101])=false:=by rw[q6.u];decide
  have q9:(nm==[116,101,115,116])=false:=by rw[q6.u];decide
  have qd:(nm==[99,111,112,121])=true:=by rw[q6.u];decide
  rcases qh.u with⟨z,hz,rfl,hr⟩|⟨hz,rfl⟩
  .have HC:=Ab (Du (F:=F) (k:=1) ζ p qf.u w3 _ _ d z px (HV.u w3 q0.u) HS.u (HP.u w3 q0.u) (λ_=>hr) (qe.u w3 q0.u));have HE:=Ab (show AK d (4,p,q,xv)=rI 1 z d p by simp[AK,hz]);clear hz hr;go_wp2_with fail;refine HC.u.mono ?_;rintro e w4⟨he,hb4⟩;obtain⟨pz,cz,rfl,_⟩:=he.form;have HR:=Ab he;have q7:=Ab (q0.u.trans (hb4.mono q0.u.size));clear he hb4;go_wp2;go_ret2;exact⟨by rw[HE.u];exact HR.u,q7.u⟩
  .have HE:=Ab (show AK d (4,p,q,xv)=.error c by simp[AK,hz]);have hne:((c:Int)!=0)=true:=by rw[bne_iff_ne];have:=BQ hz;omega
   clear hz;go_wp2;go_ret2;exact⟨by rw[HE.u];rfl,q0.u⟩
 .have q8:(nm==[97,100,100])=false:=by rw[q6.u];decide
  have q4:(nm==[114,101,109,111,118,101])=false:=by rw[q6.u];decide
  have q5:(nm==[114,101,112,108,97,99,101])=false:=by rw[q6.u];decide
  have q9:(nm==[116,101,115,116])=false:=by rw[q6.u];decide
  have qd:(nm==[99,111,112,121])=false:=by rw[q6.u];decide
  rcases qh.u with⟨z,hz,rfl,hr⟩|⟨hz,rfl⟩
  .obtain⟨bb,qb⟩:∃bb,bb=Dk q p:=⟨_,rfl⟩
   rw[<-qb];cases bb with
   |true=>
    by_cases hl:fl<pl
    .have HE:=Ab (show AK d (3,p,q,xv)=.error 13 by have h9:q.length<p.length:=(by have:=qz.u;omega);simp[AK,hz,<-qb,h9]);have e1:decide ((fl:Int)<(pl:Int))=true:=decide_eq_true ζ;clear hz hr qb;go_wp2;go_ret2;exact⟨by rw[HE.u];rfl,q0.u⟩
    .have HE:=Ab (show AK d (3,p,q,xv)=.ok d by have h9:¬q.length<p.length:=(by have:=qz.u;omega);simp[AK,hz,<-qb,h9]);have e1:decide ((fl:Int)<(pl:Int))=false:=decide_eq_false ζ;have zc:=Ab (HV.u w3 q0.u);clear hz hr qb;go_wp2;go_ret2;exact⟨by rw[HE.u];exact⟨_,rfl,zc.u⟩,q0.u⟩
   |false=>
    have HC:=Ab (Du (F:=F) (k:=2) ζ q z1.u w3 _ _ d .nil none (HV.u w3 q0.u) HS.u (HQ.u w3 q0.u) (λh=>absurd rfl h) (qe.u w3 q0.u));have HE:=Ab (show AK d (3,p,q,xv)=match rI 2 .nil d q with
    |.error c=>.error c
    |.ok u=>rI 1 z u p by simp[AK,hz,<-qb];cases rI 2 .nil d q<;>rfl)
    have zb:=Ab hr;clear hz hr qb;go_wp2_with fail;refine HC.u.mono ?_;rintro e w4⟨he,hb4⟩;obtain⟨pz,cz,rfl,zj⟩:=he.form;have q7:=Ab (q0.u.trans (hb4.mono q0.u.size));have f1:=(hb4.cell (p:=⟨A,1,none⟩) z2).trans d1;rcases zj with⟨u,hu,rfl,z5⟩|⟨hu,rfl⟩
    .have z8:=Ab (Du (F:=F) (k:=1) ζ p qf.u w4 _ _ u z px z5 (HM.u (by trivial) u hu) (HP.u w4 q7.u) (λ_=>zb.u.bel hb4) (qe.u w4 q7.u));have qr:=Ab (show AK d (3,p,q,xv)=rI 1 z u p by rw[HE.u,hu]);clear he hb4 hu z5;go_wp2_with fail;refine z8.u.mono ?_;rintro e w5⟨he,qj⟩;obtain⟨py,cy,rfl,_⟩:=he.form;have HR:=Ab he;have qg:=Ab (q7.u.trans (qj.mono q7.u.size));clear he qj;go_wp2;go_ret2;exact⟨by rw[qr.u];exact HR.u,qg.u⟩
    .have qr:=Ab (show AK d (3,p,q,xv)=.error cz by rw[HE.u,hu]);have hne:((cz:Int)!=0)=true:=by rw[bne_iff_ne];have:=Iz hu;omega
     clear he hb4 hu;go_wp2;go_ret2;exact⟨by rw[qr.u];rfl,q7.u⟩
  .have HE:=Ab (show AK d (3,p,q,xv)=.error c by simp[AK,hz]);have hne:((c:Int)!=0)=true:=by rw[bne_iff_ne];have:=BQ hz;omega
   clear hz;go_wp2;go_ret2;exact⟨by rw[HE.u];rfl,q0.u⟩
end
noncomputable def rZ(d most:Int):Nat->pL->List qH->Except (Nat×Nat) pL
 |_,v,[]=>.ok v
 |i,v,o::r=>match AK v o with
  |.error c=>.error (c,i)
  |.ok z=>if d<qD top z then .error (7,i)else if 0<=most/\most<(pP top z).length then .error (4,i)else rZ d most (i+1) z r
def uL(d x most:Int):pL->List qH->Prop
 |_,[]=>True
 |v,o::r=>((∀t∈o.2.1,t.length<=1000000)/\∀t∈o.2.2.1,t.length<=1000000)/\pZ d x 200000 v/\(o.1=3 ->∀z,rI 2 .nil v o.2.2.1=.ok z->Sz 1000000 z)/\∀z,AK v o=.ok z->(∃D,pZ D x 1100000 z)/\(¬d<qD top z ->¬(0<=most/\most<(pP top z).length)->uL d x most z r)
theorem ND{d x:Int}{v z:pL}(hv:pZ d x 200000 v)(ho:tY (d+2) x 200000 o)(hk:o.1<6)(hd:d<=100)(h:AK v o=.ok z):pZ (d+(d+2)) x 1100000 z:=by
 rw[NE hv ho hk]at h;cases hq:sP v o with
 |error c=>rw[hq]at h;cases h
 |ok q=>
  rw[hq]at h;cases h;exact(Gq hv ho hd hq).1
theorem MN{d x:Int}{v z:pL}{q:List By}(hv:pZ d x 200000 v)(hq:sK q)(h:rI 2 .nil v q=.ok z):Sz 1000000 z:=by
 rw[KJ hv.gd]at h;cases hr:B6 v q with
 |error c=>rw[hr]at h;cases h
 |ok r=>
  rw[hr]at h;cases h;have hf:=(FR hv hq hr).1;exact⟨d,x,top,1,hf.gd,Ã hf.sz η⟩
theorem So{d:pL}{k:By}{ks:List By}(h:Sz B d)(hk:AA (Ao d k)=some ks):∀t∈ks,t.length<=B:=by
 unfold AA at hk;split at hk
 .rename_i s hs;cases hm:Ao d k with
  |none=>rw[hm]at hs;cases hs
  |some y=>
   rw[hm]at hs;have hy:=Mc h hm;unfold BO at hs;split at hs
   .rename_i s' e;cases hs;cases e;have h1:=VE hy;intro t ht;exact Ã ((Gx hk).2 t ht) h1
   .cases hs
 .cases hk
theorem ZN{d:pL}(h:Sz B d)(ho:Bf d=some o):(∀t∈o.2.1,t.length<=B)/\∀t∈o.2.2.1,t.length<=B:=by
 unfold Bf at ho;split at ho
 .cases ho
 .rename_i p hp;split at ho
  .cases ho
  .cases ho;refine⟨So h hp,?_⟩;cases hf:AA (Ao d BS)with
   |none=>intro t ht;cases ht
   |some ks=>exact So h hf
theorem Od{B:Nat}:∀{es:List pL}{i:Nat}{l:List qH},(∀e∈es,Sz B e)->Ba i es=.ok l ->∀o∈l,(∀t∈o.2.1,t.length<=B)/\∀t∈o.2.2.1,t.length<=B
 |[],i,l,_,h=>by cases h;intro o ho;cases ho
 |e::es,i,l,hs,h=>by
  unfold Ba at h;split at h
  .cases h
  .rename_i o hi;split at h
   .rename_i m hm;cases h;intro q hq;rcases Ë.1 hq with rfl|hq
    .exact ZN (hs e φ) hi
    .exact Od (λx hx=>hs x (by simp[hx])) hm q hq
   .cases h
theorem JU{p:pL}{l:List qH}(h:Sz B p)(hl:A7 p=.ok l):∀o∈l,(∀t∈o.2.1,t.length<=B)/\∀t∈o.2.2.1,t.length<=B:=by
 unfold A7 at hl;split at hl
 .rename_i es z;refine Od (λe he=>?_) hl;obtain⟨i,hi,rfl⟩:=ù he;exact h.kid (i:=i) (Ô hi)
 .cases hl
def Vg(F:Nat->Prop)(r:Except (Nat×Nat) pL)(e:A3)(w':AI):Prop:=match r with
 |.ok z=>∃p,e=.returned (.tuple #[.pointer p,InB 0,InB 0])/\RO F w' (.pointer p) z
 |.error (c,i)=>e=.returned (.tuple #[.pointer none,InB c,InB i])
noncomputable def uM(d most:Int)(v p:pL):Except (Nat×Nat) pL:=match A7 p with
 |.error i=>.error (10,i)
 |.ok l=>rZ d most 0 v l
def LI(F:Nat->Prop)(d x most:Int)(w1:AI)(v0:pL)(l:List qH)(j:Nat)(vq:Option Addr)(vj:pL)(wr:AI):Prop:=RO F wr (.pointer vq) vj/\uL d x most vj (l.drop j)/\rZ d most 0 v0 l=rZ d most j vj (l.drop j)/\Bl w1 wr
theorem NC{v:pL}{c:Nat}(h:AK v o=.error c):c≠0:=by
 unfold AK at h
 repeat' split at h
 all_goals first
  |exact Iz h
  |(cases h;done)
  |(cases h;first|omega|(rename_i e;exact BQ e)|(rename_i e;exact Iz e))
section
variable{F:Nat->Prop}{w:AI}{pv:AS}{v0 p:pL}{d x most:Int}
theorem LX{vp:Option Addr}(hv:RO F w (.pointer vp) v0)(hp:RO F w pv p)(zc:Sz 8000000000000 p)(z8:(AW p).length<=1000000)(hF:∀k,w.1.size<=k->F k)(hT:Aj w)(hok:∀l,A7 p=.ok l->uL d x most v0 l):
  A2 AT 73 #[.pointer vp,pv,.int .i64 d,.int .i64 most] w λe w'=>Vg F (uM d most v0 p) e w'/\Bl w w':=by
 have z5:=Ab (OJ hp zc z8);have HV:=Ab hv;have z2:=Ab hF;have HT:=Ab hT;have z4:=Ab hok;have HE:=Ab (show uM d most v0 p=match A7 p with
  |.error i=>.error (10,i)
  |.ok l=>rZ d most 0 v0 l from rfl)
 clear hv hp zc z8 hF hT hok;go_enter func73,ntmps73;go_wp2_with fail;refine z5.u.mono ?_;rintro e w1⟨he,hb1⟩;have q8:=Ab hb1;obtain⟨Q,hQ⟩:∃Q,Q=A7 p:=⟨_,rfl⟩
 rw[<-hQ]at he HE z4;clear hQ z5;cases Q with
 |error i=>
  obtain rfl:e=_:=he;clear hb1;have hi:((i:Int)<0)=False:=φ;go_wp2;go_ret3;exact⟨by rw[HE.u];rfl,q8.u⟩
 |ok l=>
  obtain⟨sl,xs,rfl,q7,qj⟩:=he;obtain⟨ao,cap,g,rfl,hc⟩:=F7 q7;obtain⟨n,hn⟩:∃n,n=l.length:=⟨_,rfl⟩
  have zj:(n:Int)<=9223372036854775807:=by
   rcases q7.2 with⟨_,h0⟩|⟨g,cap,cur,_,_,_,h4,h5,_⟩
   .omega
   .unfold maxLen at h5;omega
  have ze:=Ab (λ(h:0<l.length)=>by have:=(hc h).2.1;exact Bt q7 g this);have qu:=Ab qj;have HC:=Ab hc;have HN:=Ab hn;have zf:=Ab (show LI F d x most w1 v0 l 0 vp v0 w1 from⟨HV.u.bel hb1,z4.u l rfl,rfl,Â _ _⟩);rw[<-hn];clear q7 qj hc hn hb1;go_wp2;go_loopw [0,13] (λs0 i wr=>∃(j:Nat) (vq:Option Addr) (vj:pL),j<=n/\s0=.pointer vq/\i=.int .i64 j/\Hid (LI F d x most w1 v0 l j vq vj wr)) (λ_ i _=>n-(intOf i).toNat)
  case atStart=>exact⟨0,vp,v0,ζ,rfl,rfl,zf⟩
  case round=>
   obtain⟨j,vq,vj,hj,rfl,rfl,HI⟩:=hrel;by_cases hlt:j<n
   .have z9:j<l.length:=by have:=HN.u;omega
    have qm:=Û z9;obtain⟨hro,qy,hpe,qe⟩:=HI.u;obtain⟨zg,_,_,q9⟩:=HC.u ζ;subst zg;obtain⟨nm,pa,pl,pc,fa,fl,fc,y,zb,x0,x1,x2,x3⟩:=qu.u j z9;have zh:=(ze.u ζ).1;have qf:∀{k:Nat}{u:AS},xs[k]?=some u->wr.cell? ⟨g,k,none⟩=some u:=λ{k u} hk=>by
     obtain⟨h1,h2⟩:=ß.1 hk;rw[qe.cell (p:=⟨g,k,none⟩) zh];refine(q9 k h1).trans ?_;rw[h2]
    have r0:=qf x0;have r1:=qf x1;have r2:=qf x2;have r3:=qf x3;have qd:=zb.move (w':=wr) (G':=F) (λk h1 h2=>⟨qe.block k h2,h1.elim (λq=>q.1) λq=>z2.u k q⟩) qe.size;rw[qm]at qy;obtain⟨⟨ok,op,oq,ox⟩,ho⟩:∃o:qH,o=l[j]:=⟨_,rfl⟩
    rw[<-ho]at qd qy qm;obtain⟨htk,qb,qi,qw⟩:=qy;have q4:=q8.u.size;have zi:=qe.size;have qz:=Ab (iJ hro ⟨d,x,top,1,qb.gd,Ã qb.sz η⟩ qd (λt ht=>Ã (htk.1 t ht) η) (λt ht=>Ã (htk.2 t ht) η) (λk hk=>z2.u k ζ) qi);have qo:=Ab (λz (hz:AK vj (ok,op,oq,ox)=.ok z)=>(qw z hz).1);have qr:=Ab (λz (hz:AK vj (ok,op,oq,ox)=.ok z)=>(qw z hz).2);have z1:=Ab qm;obtain⟨R,hR⟩:∃R,R=AK vj (ok,op,oq,ox):=⟨_,rfl⟩
    rw[<-hR]at qz qo qr;have qt:=Ab hR;clear hro hpe q9 zb x0 x1 x2 x3 qf htk qd qb qi qw qm ho hR qe;go_wp2_with fail;refine qz.u.mono ?_;rintro e w4⟨he,hb4⟩;have q6:Bl w1 w4:=HI.u.2.2.2.trans (hb4.mono zi);have qk:=Ab q6;cases R with
    |error c=>
     obtain rfl:e=_:=he;have hne:((c:Int)!=0)=true:=by
      rw[bne_iff_ne];have:=NC qt.u.symm;omega
     clear hb4 q6;go_wp2;go_ret3;refine⟨?_,q8.u.trans (qk.u.mono q4)⟩;rw[HE.u];simp only;rw[HI.u.2.2.1,z1.u,rZ,<-qt.u];rfl
    |ok z=>
     obtain⟨pz,rfl,hz⟩:=he;obtain⟨D9,qg⟩:=qo.u z rfl;have z0:=Ab (bE hz qg.gd);have qh:(pP top z).length<=2000000:=by
      have h1:=(Dz qg.gd).1;have h2:=qg.sz;omega
     have z3:=Ab (N8 hz qg.gd qh (HT.u.below ((q8.u.trans (q6.mono q4)).mono HT.u.ng)));have HZ:=Ab hz;have q5:=Ab (qr.u z rfl);have q0:=Ab (show rZ d most 0 v0 l=if d<qD top z then .error (7,j)else if 0<=most/\most<(pP top z).length then .error (4,j)else rZ d most (j+1) z (l.drop (j+1)) by
      rw[HI.u.2.2.1,z1.u,rZ,<-qt.u])
     obtain⟨dz,z7⟩:∃dz,dz=qD top z:=⟨_,rfl⟩
     obtain⟨lz,za⟩:∃lz,lz=(pP top z).length:=⟨_,rfl⟩
     rw[<-z7]at z0 q0 q5;rw[<-za]at z3 q0 q5 qh;clear hb4 hz qg z7 za qo qr q6;go_wp2_with fail;refine z0.u.mono ?_;rintro e w5⟨rfl,rfl⟩;by_cases h7:d<dz
     .have e7:decide (d<dz)=true:=decide_eq_true h7;have HF:=Ab (show rZ d most 0 v0 l=.error (7,j) by rw[q0.u,if_pos h7]);clear h7;go_wp2;go_ret3;exact⟨by rw[HE.u];simp only;rw[HF.u];rfl,q8.u.trans (qk.u.mono q4)⟩
     .have e7:decide (d<dz)=false:=decide_eq_false h7;clear h7;go_wp2_with fail;refine z3.u.mono ?_;rintro e w6⟨rfl,qv⟩;have qn:=Ab (qk.u.trans (qv.mono qk.u.size));have z6:=Ab (HZ.u.bel qv);clear qv;by_cases h0:0<=most
      .have e0:decide ((0:Int)<=most)=true:=decide_eq_true h0;by_cases h4:most<(lz:Int)
       .have e4:decide (most<(lz:Int))=true:=decide_eq_true h4;have HF:=Ab (show rZ d most 0 v0 l=.error (4,j) by rw[q0.u,if_neg (of_decide_eq_false e7),if_pos ⟨h0,h4⟩]);clear h0 h4;go_wp2;go_ret3;exact⟨by rw[HE.u];simp only;rw[HF.u];rfl,q8.u.trans (qn.u.mono q4)⟩
       .have e4:decide (most<(lz:Int))=false:=decide_eq_false h4;have qq:=Ab (show LI F d x most w1 v0 l (j+1) pz z w6 from⟨z6.u,q5.u (Int.not_lt.1 (of_decide_eq_false e7)) (by first|exact λh=>h4 h.2|omega),by rw[q0.u,if_neg (of_decide_eq_false e7),if_neg (λh=>h4 h.2)],qn.u⟩);clear h0 h4;go_wp2;exact⟨⟨j+1,pz,z,ζ,rfl,ψ,qq⟩,by simp only[intOf];omega⟩
      .have e0:decide ((0:Int)<=most)=false:=decide_eq_false h0;have qq:=Ab (show LI F d x most w1 v0 l (j+1) pz z w6 from⟨z6.u,q5.u (Int.not_lt.1 (of_decide_eq_false e7)) (by first|exact λh=>h0 h.1|omega),by rw[q0.u,if_neg (of_decide_eq_false e7),if_neg (λh=>h0 h.1)],qn.u⟩);clear h0;go_wp2;exact⟨⟨j+1,pz,z,ζ,rfl,ψ,qq⟩,by simp only[intOf];omega⟩
   .have HF:=Ab (show rZ d most 0 v0 l=.ok vj by
     rw[HI.u.2.2.1,í (by have:=HN.u;omega),rZ])
    have q4:=q8.u.size;go_wp2;go_ret3;exact⟨by rw[HE.u];simp only;rw[HF.u];exact⟨_,rfl,HI.u.1⟩,q8.u.trans (HI.u.2.2.2.mono q4)⟩
end
theorem Mj:∀{es:List pL}{i:Nat}{l:List qH},Ba i es=.ok l ->∀o∈l,o.1<6
 |[],i,l,h=>by grind [Ba,Bf]
 |e::es,i,l,h=>by
  unfold Ba at h;split at h
  .cases h
  .rename_i o hi;split at h
   .rename_i m hm;cases h;intro q hq;rcases Ë.1 hq with rfl|hq
    .unfold Bf at hi;split at hi
     .cases hi
     .split at hi
      .cases hi
      .rename_i hk;cases hi;exact(GI hk).1
    .exact Mj hm q hq
   .cases h
theorem IW{p:pL}{l:List qH}(h:A7 p=.ok l):∀o∈l,o.1<6:=by
 unfold A7 at h;split at h
 .exact Mj h
 .cases h
theorem IX{d x:Int}(hd:d<=100):∀(l:List qH) (i:Nat) (v:pL) (j0:List pW),pZ d x 200000 v->(∀o∈l,tY (d+2) x 200000 o/\o.1<6/\((∀t∈o.2.1,t.length<=1000000)/\∀t∈o.2.2.1,t.length<=1000000)) ->
  (rZ d 20000 i v l=match Cn d i v j0 l with
   |.ok q=>.ok q.1
   |.error c=>.error c)/\uL d x 20000 v l
 |[],i,v,j0,_,_=>⟨rfl,trivial⟩
 |o::r,i,v,j0,hv,ho=>by
  obtain⟨q0,hk,htk⟩:=ho o â;have hr:=NE hv q0 hk;cases hdo:sP v o with
  |error c=>
   rw[hdo]at hr;refine⟨?_,htk,hv,λh3 z hz=>MN hv (q0.2.1 (Å h3)) hz,λz hz=>?_⟩
   .rw[rZ,hr,Cn,hdo];rfl
   .rw[hr]at hz;cases hz
  |ok q=>
   obtain⟨z,j1⟩:=q;rw[hdo]at hr;replace hr:AK v o=.ok z:=hr;obtain⟨f1,_,_⟩:=Gq hv q0 hd hdo;by_cases hm:Fi d z=0
   .obtain⟨f2,f3⟩:=Ja f1 hd hm;obtain⟨r1,r2⟩:=IX hd r (i+1) z (j0++j1) (f2.mono (Ā _) ζ ζ) λo h=>ho o (Ø _ h);have h7:¬d<qD top z:=by intro h;unfold Fi at hm;rw[if_pos h]at hm;cases hm
    refine⟨?_,htk,hv,λh3 z hz=>MN hv (q0.2.1 (Å h3)) hz,λz' q4=>⟨⟨_,ND hv q0 hk hd q4⟩,λ_ _=>?_⟩⟩
    .rw[rZ,hr,Cn,hdo];simp only[if_pos hm,if_neg h7];rw[if_neg ζ,r1]
    .rw[hr]at q4;injection q4 with q4;subst q4;exact r2
   .have hx:d<qD top z\/20000<(pP top z).length:=by
     grind [rZ,Cn,Fi]
    refine⟨?_,htk,hv,λh3 z hz=>MN hv (q0.2.1 (Å h3)) hz,λz' q4=>⟨⟨_,ND hv q0 hk hd q4⟩,λh7 h4=>?_⟩⟩
    .grind [rZ,Cn,Fi]
    grind
noncomputable def tU(d x:Int)(v:pL)(s:By):rD×Option pL:=match qB s (d+2) x with
 |(c,none)=>((c,0,[]),none)
 |(_,some p)=>match uM d 20000 v p with
  |.error (c,i)=>((c,i,[]),none)
  |.ok z=>((0,0,[]),some z)
theorem X5{d x:Int}{v:pL×rA}{s:By}(hd:d<=100)(hx:x<=400)(hv:pZ d x 200000 v.1):(tU d x v.1 s).1=(tO d x v s).1/\(match(tU d x v.1 s).2 with
  |none=>(tO d x v s).2=v
  |some z=>(tO d x v s).2.1=z):=by
 unfold tU tO;obtain⟨R,hR⟩:∃R,R=qB s (d+2) x:=⟨_,rfl⟩
 rw[<-hR];obtain⟨c,R⟩:=R;cases R with
 |none=>grind
 |some p=>
  have hr:qB s (d+2) x=(0,some p):=by
   unfold qB at hR |-;grind
  have hg:=Fe hr;have q4:=Ge hr top;have hsz:=Hc hr hx;unfold uM;cases hl:A7 p with
  |error i=>grind
  |ok l=>
   have q0:=(IV hg q4 ζ hl).2;have q5:=(IX hd l 0 v.1 [] hv λo ho=>⟨q0 o ho,IW hl o ho,JU ⟨_,_,_,_,hg,ζ⟩ hl o ho⟩).1;grind
theorem X2{d x:Int}{v p:pL}(hv:pZ d x 200000 v)(hp:pU (d+2) x top 1 p)(hs:pV top p<=8000):pU (d+2) x top 1 (qQ top (some v) [] p).1/\(pP top (qQ top (some v) [] p).1).length<=2000000:=by
 have h1:∀u,some v=some u->pU (d+2) x top 1 u:=λu e=>by cases e;exact Dh ζ hv.gd
 have h2:=(PN top 1 (some v) [] p 200000 ζ (λu e=>⟨h1 u e,by cases e;exact hv.sz⟩) hp).1;refine⟨h2,?_⟩;have h3:=Ww top 1 (some v) [] p ζ h1 hp;have h4:=(Dz h2).1;have h5:vK top (some v)=pV top v:=rfl;have:=hv.sz;omega
theorem Ub{E:Nat}{d x n:Int}{p:AS}{w:AI}(s:By)(h:EB w E d x n p q)(hd:1<=d/\d<=20)(hx:0<=x/\x<=400):
  A2 AT 45 #[PtB E,.string ⟨s.toArray⟩,InB 2] w λe w'=>Fa s (d+2) x w e w':=by
 have c0:=h.c0;have c1:=h.c1;have HR:=Ab (λw0=>NI s (d+2) x hx w0);have hw:IntKind.i64.wrap (d+2)=d+2:=by rw[Č];omega
 clear h;go_enter func45,ntmps45;go_wp2_with fail;go_region_with (go_at_call 64;refine(HR.u _).mono ?_;rintro e w2 q0;obtain⟨pp,c,rfl⟩:=q0.form);all_goals (
  replace q0:=q0.from (w0:=w) rfl rfl rfl rfl;have q4:=Ab q0;clear q0;go_wp2;go_ret2;exact q4.u)
def Kr(E:Nat)(d x n:Int)(vp:Option Addr)(q:AS)(r:rD×Option pL)(w:AI)(e:A3)(w':AI):Prop:=e=.returned (Ay r.1)/\Ac E w w'/\match r.2 with
 |none=>EB w' E d x n (.pointer vp) q
 |some z=>∃pz,EB w' E d x n (.pointer pz) (.pointer vp)/\RO (λj=>j≠E) w' (.pointer pz) z
def vX(R:Except (Nat×Nat) pL):rD×Option pL:=match R with
 |.error (c,i)=>((c,i,[]),none)
 |.ok z=>((0,0,[]),some z)
theorem Sw{d most:Int}:∀(l:List qH) (i:Nat) (v:pL){c k:Nat},rZ d most i v l=.error (c,k)->c≠0
 |[],i,v,c,k,h=>by cases h
 |o::r,i,v,c,k,h=>by
  unfold rZ at h;split at h
  .rename_i e;injection h with h;injection h with h _;subst h;exact NC e
  .split at h
   .injection h with h;injection h with h _;omega
   .split at h
    .injection h with h;injection h with h _;omega
    .exact Sw r _ _ h
theorem Y5{d most:Int}{v p:pL}{c:Nat}(h:uM d most v p=.error (c,k)):c≠0:=by
 unfold uM at h;split at h
 .injection h with h;injection h with h _;omega
 .exact Sw _ _ _ h
theorem Vg.form{F:Nat->Prop}{r:Except (Nat×Nat) pL}{e:A3}(h:Vg F r e w'):∃(p:Option Addr) (c i:Nat),e=.returned (.tuple #[.pointer p,InB c,InB i])/\((∃z,r=.ok z/\c=0/\i=0/\RO F w' (.pointer p) z)\/r=.error (c,i)):=by
 cases r with
 |ok z=>obtain⟨p,h1,h2⟩:=h;exact⟨p,0,0,h1,Å ⟨z,rfl,rfl,rfl,h2⟩⟩
 |error q=>exact⟨none,q.1,q.2,h,À rfl⟩
theorem ANA.fz{w:AI}{g:Nat}{a:rD}(h:ANA w g a)(o:Nat):w.frozen? ⟨g,o,none⟩=false:=fk h
theorem Kr.put{E:Nat}{d x n:Int}{vp:Option Addr}{w w3:AI}{R:rD×Option pL}(hE:E<w.1.size)(hk:Ac E w w3)(hr:match R.2 with
  |none=>EB w3 E d x n (.pointer vp) q
  |some z=>∃pz,EB w3 E d x n (.pointer pz) (.pointer vp)/\RO (λj=>j≠E/\j≠w.1.size+1) w3 (.pointer pz) z)(u0 u1 u2:AS):
  Kr E d x n vp q R w (.returned (Ay R.1)) (((w3.setCell ⟨w.1.size+1,0,none⟩ u0).setCell ⟨w.1.size+1,1,none⟩ u1).setCell ⟨w.1.size+1,2,none⟩ u2):=by
 have ho:∀k,k≠w.1.size+1->(((w3.setCell ⟨w.1.size+1,0,none⟩ u0).setCell ⟨w.1.size+1,1,none⟩ u1).setCell ⟨w.1.size+1,2,none⟩ u2).1[k]?=w3.1[k]?:=λk hk=>
  (Æ _ _ _ _ hk).trans ((Æ _ _ _ _ hk).trans (Æ _ _ _ _ hk))
 refine⟨rfl,Ac.setCell_new (Ac.setCell_new (Ac.setCell_new hk (p:=⟨w.1.size+1,0,none⟩) (A1 _) _) (p:=⟨w.1.size+1,1,none⟩) (A1 _) _) (p:=⟨w.1.size+1,2,none⟩) (A1 _) _,?_⟩;have q0:=ho E ζ;cases hR:R.2 with
 |none=>rw[hR]at hr;exact q0.trans hr
 |some z=>
  rw[hR]at hr;obtain⟨pz,h1,h2⟩:=hr;exact⟨pz,q0.trans h1,h2.move λk hk _=>⟨ho k hk.2,hk.1⟩⟩
theorem ON{E:Nat}{d x n:Int}{vp:Option Addr}{w:AI}{v:pL}(s:By)(t:ByteArray)(h:EB w E d x n (.pointer vp) q)(hv:RO (λj=>j≠E) w (.pointer vp) v)(q0:pZ d x 200000 v)(hd:1<=d/\d<=20)(hx:0<=x/\x<=400)(hT:Aj w):
  A2 AT 49 #[PtB E,.agg #[InB 5,.string ⟨s.toArray⟩,.string t]] w λe w'=>Kr E d x n vp q (tU d x v s) w e w':=by
 have qy:=h.lt;obtain⟨w1,qh⟩:∃w1,w1=((w.alloc (.cells #[InB 5,.string ⟨s.toArray⟩,.string t] 49)).alloc (.cells #[InB 0,InB 0,.string ⟨#[]⟩] 46)):=⟨_,rfl⟩
 have hb1:Bl w w1:=by rw[qh];exact((Â _ _).alloc (Á _) _).alloc φ _
 have zl:w1.1.size=w.1.size+2:=by rw[qh];simp
 have z7:w1.1[w.1.size]?=some (.cells #[InB 5,.string ⟨s.toArray⟩,.string t] 49 (0,0)):=by
  rw[qh];show((w.1.push _).push _)[w.1.size]?=_;simp[ŀ]
 have zi:ANA w1 (w.1.size+1) (0,0,[]):=by rw[qh];exact Ax _ _ _ φ
 have o0:w1.cell? ⟨w.1.size,0,none⟩=some (InB 5):=ck z7;have o1:w1.cell? ⟨w.1.size,1,none⟩=some (.string ⟨s.toArray⟩):=ck z7;have zh:=Ab (Ub s (h.low hb1) hd hx);have za:=Ab hb1;have HH:=Ab (ð h hv);have HT:=Ab hT;have zq:=Ab q0;have zg:=Ab (λ(k:Nat) (w:AI)=>Ec k w);have zm:=Ab zi;have zr:=Ab qh;clear h hb1 hv q0 hT qh z7 zi;unfold AC at zg;go_enter func49,ntmps49;go_upto_region 1 with(fail)
 rw[<-zr.u];go_wp2_with fail;refine zh.u.mono ?_;rintro e w2⟨hb2,hcase⟩;have hs2:w.1.size+2<=w2.1.size:=by have:=hb2.size;omega
 have q4:Bl w w2:=za.u.trans (hb2.mono za.u.size);have qz:=zm.u.kept (hb2.block (w.1.size+1) ζ);have zu:=(hb2.cell (p:=⟨w.1.size,0,none⟩) (show w.1.size<w1.1.size from ζ)).trans o0;have q7:=Ab q4;have z9:=Ab qz;rcases hcase with⟨c',hpos,qd,rfl⟩|⟨p',o,qd,rfl,qr,zk⟩
 .have e0:((c':Int)!=0)=true:=by rw[bne_iff_ne];omega
  have HR:=Ab (show tU d x v s=((c',0,[]),none) by unfold tU;rw[qd]);clear hb2 qz q4 qd hpos o0 o1 zl;go_wp2_with fail;refine(zg.u c' _).mono ?_;rintro e w3⟨rfl,hb3⟩;have zw:=hb3.size;have qe:=z9.u.kept (hb3.block (w.1.size+1) ζ);have a0:=qe.c0;have a1:=qe.c1;have a2:=qe.c2;have z0:=qe.fz 0;have z1:=qe.fz 1;have z2:=qe.fz 2;have qj:=Ab hb3;clear hb3 qe;go_wp2_with fail;refine Ì (v:=Ay (c',0,[])) (by simp[results,results49,go_sem,Ay,a0,a1,a2]) rfl ?_;have qo:=q7.u.trans (qj.u.mono q7.u.size);rw[HR.u];exact Kr.put qy (Ac.of_below qo) (HH.u.1.low qo) _ _ _
 .have q9:=Fe qd;have hsz:=Hc qd hx.2;have qb:RO (λj=>j≠E/\j≠w.1.size+1) w2 (.pointer (some p')) (pO top o):=RO.move ⟨top,o,qr,zk,rfl⟩ λk h1 _=>⟨rfl,ζ,ζ⟩
  obtain⟨P,hP⟩:∃P,P=pO top o:=⟨_,rfl⟩
  rw[<-hP]at q9 hsz qb qd;obtain⟨R,hR⟩:∃R,R=uM d 20000 v P:=⟨_,rfl⟩
  have HR:=Ab (show tU d x v s=vX R by unfold tU vX;rw[qd,hR]<;>rfl);have z8:RO (λj=>j≠E/\j≠w.1.size+1) w2 (.pointer vp) v:=HH.u.2.move λk h1 h2=>⟨q4.block k h2,h1,ζ⟩
  have z5:=HH.u.1.low q4;have e3:=z5.c3;have q0:=zq.u;have qq:∀l,A7 P=.ok l->uL d x 20000 v l:=λl hl=>(IX ζ l 0 v [] q0 λo ho=>⟨(IV q9 (by rw[hP];exact hP▸Ge qd top) ζ hl).2 o ho,IW hl o ho,JU ⟨_,_,_,_,q9,Ã hsz η⟩ hl o ho⟩).2;have HM:=Ab (WF (D:=d+2) (x:=x) top _ w2 vp (.pointer (some p')) (some v) P 1 [] (À ⟨v,rfl,z8,d,x,top,1,q0.gd,Ã q0.sz η⟩) qb q9 ⟨_,_,_,_,q9,Ã hsz η⟩ λk hk=>⟨ζ,ζ⟩);have qv:=Ab (X2 q0 q9 hsz);have qm:Aj w2:=HT.u.below (q4.mono HT.u.ng);have HL:=Ab (λ(W:AI) (v':AS) (hW:Bl w2 W) (hm:RO (λj=>j≠E/\j≠w.1.size+1) W v' (qQ top (some v) [] P).1)=>N8 hm qv.u.1 qv.u.2 (qm.below (hW.mono qm.ng)));have qw:=Ab (λ(W:AI) (hW:Bl w2 W)=>LX (z8.bel hW) (qb.bel hW) ⟨_,_,_,_,q9,Ã hsz η⟩ (Ã (Sz.few (B:=8000) ⟨_,_,_,_,q9,hsz⟩) η) (λk hk=>⟨by have:=hW.size;omega,by have:=hW.size;omega⟩) (qm.below (hW.mono qm.ng)) qq);rw[<-hR]at qw;have zc:=Ab z5;have zv:E<w2.1.size:=ζ;clear hb2 qz q4 qd o0 o1 zl q9 hsz qb hP qr zk z8 z5 q0 qq qm;go_wp2_with fail;refine HM.u.mono ?_;rintro e w3⟨⟨pm,rfl,hm⟩,hb3⟩;have zf:=Ab (HL.u w3 _ hb3 hm);have qj:=Ab hb3;clear hb3 hm e3;go_wp2_with fail;refine zf.u.mono ?_;rintro e w4⟨rfl,hb4⟩;have q5:=qj.u.trans (hb4.mono qj.u.size);have qk:=Ab (qw.u w4.drew (bx q5));have z6:=zc.u.low q5;have e0:=z6.c0;have e3:=z6.c3;have o0:=(q5.cell (p:=⟨w.1.size,0,none⟩) (show w.1.size<w2.1.size from ζ)).trans zu;have qi:=Ab q5;obtain⟨nn,hnn⟩:∃nn:Nat,nn=(pP top (qQ top (some v) [] P).1).length:=⟨_,rfl⟩
  rw[<-hnn];clear hb4 q5 z6 hnn;go_upto_region 11 with(fail)
  go_region_with (go_at_call 73;refine qk.u.mono ?_;rintro e w5⟨he,zj⟩;obtain⟨pz,c,i,rfl,hz⟩:=he.form);all_goals (
   have qn:Bl w4 w5:=bx zj;have q6:=qi.u.trans (qn.mono qi.u.size);have qo:=q7.u.trans (q6.mono q7.u.size);have qg:=zc.u.low q6;have q8:=z9.u.kept (q6.block (w.1.size+1) ζ);have zb:=Ab qo;have ze:=Ab qg;have zn:=Ab q8;have zx:w.1.size+2<=w5.1.size:=by have:=q6.size;omega
   clear zj qn q6 qo e0 e3 o0 qw qk HL zf qv HM qj zh;rcases hz with⟨z,rfl,rfl,rfl,hz⟩|rfl
   .have HZ:=Ab hz;have y3:=qg.c3;have y4:=qg.c4;have z3:=qg.fz 3;have z4:=qg.fz 4;clear qg q8 hz;go_upto_region 18 with(fail)
    obtain⟨w6,qu⟩:∃w6,w6=(w5.setCell ⟨E,4,none⟩ (.pointer vp)).setCell ⟨E,3,none⟩ (.pointer pz):=⟨_,rfl⟩
    rw[<-qu];have qt:Ac E w5 w6:=by rw[qu];exact Ac.setCell (p:=⟨E,3,none⟩) (Ac.setCell (p:=⟨E,4,none⟩) (Ac.refl _ _) rfl _) rfl _
    have zo:=Ab (show EB w6 E d x n (.pointer pz) (.pointer vp) by rw[qu];exact(ze.u.set4 _).set3 _);have qf:=zn.u.kept (qt.block (w.1.size+1) ζ ζ);have a0:=qf.c0;have a1:=qf.c1;have a2:=qf.c2;have z0:=qf.fz 0;have z1:=qf.fz 1;have z2:=qf.fz 2;have zt:=Ab (HZ.u.move (w':=w6) λk h1 h2=>⟨qt.block k h2 h1.1,h1⟩);have HK:=Ab ((Ac.of_below (X:=E) zb.u).trans qt);clear qu qt qf y3 y4 z3 z4;go_wp2_with fail;refine Ì (v:=Ay (0,0,[])) (by simp[results,results49,go_sem,Ay,a0,a1,a2]) rfl ?_;rw[HR.u];exact Kr.put (R:=((0,0,[]),some z)) qy HK.u ⟨pz,zo.u,zt.u⟩ _ _ _
   .have hne:((c:Int)!=0)=true:=by rw[bne_iff_ne];have:=Y5 hR.symm;omega
    have a0:=q8.c0;have a1:=q8.c1;have a2:=q8.c2;have z0:=q8.fz 0;have z1:=q8.fz 1;have z2:=q8.fz 2;clear qg q8 hR;go_wp2_with fail;refine Ì (v:=Ay (c,i,[])) (by simp[results,results49,go_sem,Ay,a0,a1,a2]) rfl ?_;rw[HR.u];exact Kr.put (R:=((c,i,[]),none)) qy (Ac.of_below zb.u) ze.u _ _ _)
section
variable{d x most:Int}
theorem VY{f:Nat}{lv:Int}{u v:pL}{i:pW}(hg:pU d x f lv u)(hk:i.1<3)(hb:vD u i v):AK u (tT i)=.ok v:=by
 obtain⟨i',hb⟩:=hb;obtain⟨k,p,y⟩:=i;have e:AK u (tT (k,p,y))=Kc (sP u (tT (k,p,y))):=by
  have q0:k=0\/k=1\/k=2:=ζ;unfold AK sP tT;rcases q0 with rfl|rfl|rfl
  .exact KK hg _ _
  .exact KJ hg _ _
  .exact To hg _ _
 rw[e,hb];rfl
theorem Sx:∀(a b:List qH) (k:Nat) (v:pL),rZ d most k v (a++b)=match rZ d most k v a with
  |.error e=>.error e
  |.ok u=>rZ d most (k+a.length) u b
 |[],b,k,v=>rfl
 |o::a,b,k,v=>by
  rw[Ü,rZ,rZ];cases AK v o with
  |error c=>rfl
  |ok z=>
   simp only;split
   .rfl
   .split
    .rfl
    .rw[Sx a b (k+1) z,show k+1+a.length=k+(o::a).length from ω]
theorem NS:∀(a b:List qH) (k:Nat) (v:pL),uL d x most v a->(∀u,rZ d most k v a=.ok u->uL d x most u b)->uL d x most v (a++b)
 |[],b,k,v,_,h=>h v rfl
 |o::a,b,k,v,⟨h0,h1,h2,h3⟩,h=>by
  refine⟨h0,h1,h2,λz hz=>⟨(h3 z hz).1,λh7 h4=>NS a b (k+1) z ((h3 z hz).2 h7 h4) λu hu=>h u ?_⟩⟩;grind [rZ]
theorem C4.fit:∀{j:List pW}{v w:pL},C4 d x 200000 v j w->pZ d x 200000 w->pZ d x 200000 v
 |[],v,w,h,hw=>by have h':v=w:=h;grind
 |i::j,v,w,⟨h1,_⟩,_=>h1
theorem O6:∀(j:List pW){v w:pL},C4 d x 200000 v j w->pZ d x 200000 w->(∀i∈j,∀t∈i.2.1,t.length<=1000000) ->∀k,rZ d (-1) k w (j.reverse.map tT)=.ok v/\uL d x (-1) w (j.reverse.map tT)
 |[],v,w,h,hw,_,k=>by have h':v=w:=h;subst h';exact⟨rfl,trivial⟩
 |i::j,v,w,⟨h1,h2,u,h3,h4⟩,hw,ht,k=>by
  obtain⟨r1,r2⟩:=O6 j h4 hw (λi hi=>ht i (Ø _ hi)) k;have hu:=h4.fit hw;have hr:=VY hu.gd h2.1 h3;have h7:¬d<qD top v:=by have:=Lk h1.gd;omega
  rw[List.reverse_cons,ă];constructor
  .rw[Sx,r1];simp only[Ð,ÿ];rw[rZ,hr];simp only[if_neg h7];rw[if_neg ζ];rfl
  .refine NS _ _ k w r2 λu' q0=>?_;rw[r1]at q0;injection q0 with q0;subst q0;refine⟨⟨ht i â,λt ht=>by cases ht⟩,hu,λh=>?_,λz hz=>?_⟩
   .have:=h2.1;have h':i.1=3:=h;omega
   .rw[hr]at hz;cases hz;exact⟨⟨d,h1.mono (Ā _) (by have:=h1.dd;omega) ζ⟩,λ_ _=>trivial⟩
theorem Vx{P v w:pL}{j:List pW}(hch:C4 d x 200000 v j w)(hw:pZ d x 200000 w)(ht:∀i∈j,∀t∈i.2.1,t.length<=1000000)(hp:A7 P=.ok (j.reverse.map tT)):uM d (-1) w P=.ok v/\∀l,A7 P=.ok l->uL d x (-1) w l:=by
 obtain⟨h1,h2⟩:=O6 j hch hw ht 0;refine⟨?_,λl hl=>?_⟩
 .unfold uM;rw[hp];exact h1
 .rw[hp]at hl;cases hl;exact h2
end
theorem T9{P:pL}{D x:Int}(hg:pU D x top 1 P)(hx:0<=x/\x<=400)(hD:D<=500){s:By}(hs:s=pP top P)(hl:s.length<=8796093022208)(w:AI):
  A2 AT 64 #[.string ⟨s.toArray⟩,InB D,InB x,InB s.length] w λe w'=>∃p,e=.returned (.tuple #[.pointer (some p),InB 0])/\RO (λk=>w.1.size<=k) w' (.pointer (some p)) P/\Bl w w':=by
 obtain⟨o,h1,h2,h3,h4,h5,h6,h7⟩:=iZ hg hx.1 hx.2 (f:=s.length+600) ζ;have q0:pR s=s:=by
  have h:=(Mp hg).skB (r:=[]);rw[ĉ]at h;rw[hs];exact h
 rw[<-hs]at h1;have hr:tC (s.length+600) s D x=(0,some o):=by
  unfold tC;rw[q0,h1];simp only;rw[if_pos θ,if_neg (by rw[h4];decide),if_neg h5,if_neg (by rw[h6];decide)]
 refine(NH (s.length+600) s D x s.length hx (Ā _) hl ⟨ζ,ζ⟩ (λo' r h=>by rw[q0,h1]at h;injection h with h;injection h with h _;rw[<-h];exact h7) w).mono ?_;rintro e w' ⟨hb,⟨c,hc,h,rfl⟩|⟨p,o',h,rfl,k1,k2⟩⟩
 .rw[hr]at h;injection h with _ h;cases h
 .rw[hr]at h;injection h with _ h;cases h;exact⟨p,rfl,⟨_,o,k1,k2,h2⟩,hb⟩
section
variable{E:Nat}{d x n:Int}{vp qp:Option Addr}{w:AI}{F:Nat->Prop}{u v:pL}{j:List pW}
theorem WI(h:EB w E d x n (.pointer vp) (.pointer qp))(hv:RO F w (.pointer vp) v)(hq:RO F w (.pointer qp) u)(hF:∀k,w.1.size<=k->F k)(hch:C4 d x 200000 u j v)(q6:pZ d x 200000 v)(htk:∀i∈j,∀t∈i.2.1,t.length<=1000000)(hsz:Sz 8000000000000 (Ak (j.reverse.map AH)))(hn:j.length<=1000000)(hl:(Dq j.reverse).length<=8796093022208)(hd:1<=d/\d<=20)(hx:0<=x/\x<=400)(hT:Aj w):
  CB 50 #[PtB E,.string ⟨(Dq j.reverse).toArray⟩,.pointer qp,InB (-1)] w (.bool true):=by
 have qr:=h.lt;have q7:∀i∈j.reverse,Iv d x 200000 i:=λi hi=>hch.iv i (Ĥ.1 hi);have qb:=Wk hd.1 ζ q7;have hpr:A7 (Ak (j.reverse.map AH))=.ok (j.reverse.map tT):=Ml j.reverse 0 λi hi=>⟨(q7 i hi).1,(q7 i hi).2.1⟩
 obtain⟨s,hs⟩:∃s,s=Dq j.reverse:=⟨_,rfl⟩
 obtain⟨P,hP⟩:∃P,P=Ak (j.reverse.map AH):=⟨_,rfl⟩
 have qn:s=pP top P:=by rw[hs,hP];rfl
 have qj:(AW P).length<=1000000:=by rw[hP];show(j.reverse.map AH).length<=1000000;simpa using hn
 rw[<-hP]at qb hpr hsz;rw[<-hs]at hl |-;obtain⟨qm,qk⟩:=Vx hch q6 htk hpr;have hw:IntKind.i64.wrap (d+2)=d+2:=by rw[Č];omega
 have qg:=Ab (λW=>T9 qb hx ζ qn hl W);have q8:=Ab (λ(W:AI) (p:Addr) (hW:Bl w W) (hp:RO F W (.pointer (some p)) P)=>LX (hv.bel hW) hp hsz qj (λk hk=>hF k (Ã hW.size hk)) (hT.below (hW.mono hT.ng)) qk);rw[qm]at q8;have qi:=Ab (λ(W:AI) (z:AS) (hW:Bl w W) (hz:RO F W z u)=>Se hz (hq.bel hW));have qq:=Ab (CS (rfl:u=u));have HF:=Ab hF;have HH:=Ab h;have c0:=h.c0;have c1:=h.c1;clear h hv hq hF hch q6 htk hsz hl hn qj hT q7 qb hpr qn qm qk hs hP;go_enter func50,ntmps50;go_upto_region 1 with(fail)
 go_region_with (go_at_call 64;refine(qg.u _).mono ?_;rintro e w2⟨pp,rfl,hro,hb2⟩);all_goals (
  have q0:Bl w w2:=bx hb2;have q9:=HH.u.low q0;have c0:=q9.c0;have c3:=q9.c3;have qf:=Ab (q8.u w2.drew pp (bx q0) (hro.move λk h1 _=>⟨rfl,HF.u k h1⟩));have qd:=Ab q0;clear hb2 q0 hro q9 q8 qg;go_upto_region 4 with(fail)
  go_region_with (go_at_call 73;refine qf.u.mono ?_;rintro e w3⟨⟨pz,rfl,hz⟩,hb3⟩);all_goals (
   have q5:Bl w2 w3:=bx hb3;have q4:=qd.u.trans (q5.mono qd.u.size);have qh:=Ab (qi.u w3 (.pointer pz) q4 hz);have qe:=Ab q4;rw[qq.u]at qh;clear hb3 q5 q4 hz qi qf c0 c3;go_wp2_with fail;refine qh.u.mono ?_;rintro e w4⟨rfl,hb4⟩;have qo:=Ab hb4;clear hb4;go_wp2;go_ret;exact⟨rfl,qe.u.trans (qo.u.mono qe.u.size)⟩))
end
