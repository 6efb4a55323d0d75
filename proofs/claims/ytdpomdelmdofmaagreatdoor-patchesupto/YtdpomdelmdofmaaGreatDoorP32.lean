import Derived.Test.YtdpomdelmdofmaaGreatDoorP31
open List renaming getElem_cons_succ->AI,getElem_toArray->AT
open Go renaming results->AS,World->A1,Value->A4
open Go.World renaming setCell->A2
open Option renaming getD_none->A3
open Go.Value renaming slice->A5
open Go.Act renaming put->Bs
set_option maxRecDepth 100000
set_option maxHeartbeats 32000000
namespace Go.Proofs.YtdpomdelmdofmaaGreatDoor
open Go.Proofs.Tryz Go.RowKit Go.Maps
def vW(k:Nat):By:=if k=0 then G0 else if k=1 then Df else if k=2 then CK else if k=3 then F8 else if k=4 then uO else F3
def QK(G:Nat->Prop)(w:A1)(v:A4)(l:List By):Prop:=Bk w v l/\(l≠[] ->∀g,v.ownBlock=some g->G g)
structure OpR(G:Nat->Prop)(w:A1)(o:qH)(nm:By)(pl fl:A4)(xa:Option Addr):Prop where
 lt:o.1<6
 nm:nm=vW o.1
 pl:QK G w pl o.2.1
 fl:QK G w fl o.2.2.1
 xv:o.1=0\/o.1=2\/o.1=5->RO G w (.pointer xa) o.2.2.2
theorem Bk.keep{w w':A1}{v:A4}{l:List By}(h:Bk w v l)(hk:l≠[] ->∀g,v.ownBlock=some g->g<w.1.size->w'.1[g]?=w.1[g]?)(hs:w.1.size<=w'.1.size):Bk w' v l:=by
 rcases h with h|⟨hp,g,off,cap,rfl,h1,h2,hg,hc⟩
 .exact Å h
 .exact À ⟨hp,g,off,cap,rfl,h1,h2,ζ,λk q0=>(Ç (w:=w) (hk (List.ne_nil_of_length_pos hp) g rfl hg)).trans (hc k q0)⟩
theorem QK.move{G G':Nat->Prop}{w w':A1}{v:A4}{l:List By}(h:QK G w v l)(hk:∀k,G k->k<w.1.size->w'.1[k]?=w.1[k]?/\G' k)(hs:w.1.size<=w'.1.size):QK G' w' v l:=by
 refine⟨h.1.keep (λhl g hg hlt=>(hk g (h.2 hl g hg) hlt).1) hs,λhl g hg=>(hk g (h.2 hl g hg) ?_).2⟩;rcases h.1 with⟨h1,_⟩|⟨_,g',off,cap,rfl,_,_,hlt,_⟩
 .exact absurd h1 hl
 .cases hg;exact hlt
theorem OpR.move{G G':Nat->Prop}{w w':A1}{o:qH}{nm:By}{pl fl:A4}{xa:Option Addr}(h:OpR G w o nm pl fl xa)(hk:∀k,G k->k<w.1.size->w'.1[k]?=w.1[k]?/\G' k)(hs:w.1.size<=w'.1.size):OpR G' w' o nm pl fl xa:=⟨h.lt,h.nm,h.pl.move hk hs,h.fl.move hk hs,λq=>(h.xv q).move hk⟩
def mW(G:Nat->Prop)(r:Option qH)(e:Ending)(w':A1):Prop:=∃(nm:By) (a1 a2 xa:Option Addr) (n1 c1 n2 c2:Nat) (ok:Bool),e=.returned (.tuple #[.agg #[.string ⟨nm.toArray⟩,.slice a1 n1 c1,.slice a2 n2 c2,.pointer xa],.bool ok])/\
 match r with
 |none=>ok=false
 |some o=>ok=true/\OpR G w' o nm (.slice a1 n1 c1) (.slice a2 n2 c2) xa
section
variable{F:Nat->Prop}{w:A1}{v:A4}{d:pL}
theorem FG.form{lo:Nat}{r:Option (List By)}{e:Ending}{w':A1}(h:FG lo r e w'):∃a n c,e=.returned (.tuple #[.slice a n c,.bool r.isSome])/\(∀ks,r=some ks->Bk w' (.slice a n c) ks)/\(r=none->Bk w' (.slice a n c) [])/\∀g,(A5 a n c).ownBlock=some g->lo<=g:=by
 cases r with
 |none=>exact⟨none,0,0,h,(λ_ q=>by cases q),(λ_=>Å ⟨rfl,none,0,rfl⟩),λg q=>by cases q⟩
 |some ks=>
  obtain⟨v,rfl,h1,h2⟩:=h;rcases h1 with⟨rfl,a,c,rfl⟩|⟨q1,g,off,cap,rfl,q2⟩
  .exact⟨a,0,c,rfl,(λ_ q=>by cases q;exact Å ⟨rfl,a,c,rfl⟩),(λq=>by cases q),h2⟩
  .exact⟨_,_,cap,rfl,(λ_ q=>by cases q;exact À ⟨q1,g,off,cap,rfl,q2⟩),(λq=>by cases q),h2⟩
theorem Fs.form{r:Option pL}{e:Ending}(h:Fs F w r e):∃x:Option Addr,e=.returned (.pointer x)/\x.isSome=r.isSome/\(∀y,r=some y ->∃b,x=some ⟨b,0,none⟩/\b<w.1.size/\RO F w (PtB b) y):=by
 cases r with
 |none=>exact⟨none,h,rfl,λ_ q=>by cases q⟩
 |some y=>
  obtain⟨b,rfl,h1,h2⟩:=h;exact⟨_,rfl,rfl,λ_ q=>by cases q;exact⟨b,rfl,h1,h2⟩⟩
theorem RO.obj(hro:RO F w v d):∃b kd,v=PtB b/\b<w.1.size/\CeB w b 0=some (.string ⟨kd.toArray⟩)/\((kd==[111,98,106,101,99,116])=true\/((kd==[111,98,106,101,99,116])=false/\∀key,Ao d key=none)):=by
 obtain⟨b,rfl,hb,h⟩:=hro.three;rcases h with⟨kd,ng,ds,x,s,h,_,hk,hl⟩|⟨ds,sl,ps,rfl,h,_⟩|⟨f,es,E,rfl,h⟩
 .exact⟨b,kd,rfl,h.lt,h.c0,À ⟨hk,λkey=>by
   unfold Ao;split
   .exact absurd rfl (hl.2 _)
   .rfl⟩⟩
 .exact⟨b,_,rfl,h.lt,h.c0,À ⟨rfl,λ_=>rfl⟩⟩
 .obtain⟨_,_,_,_,_,_,_,_,_,h,_⟩:=h;exact⟨b,_,rfl,h.lt,h.c0,Å rfl⟩
theorem WN{s:By}{hv hf:Bool}{k:Nat}(h:BJ s hv hf=some k):k<6/\s=vW k/\(k=0\/k=2\/k=5->hv=true):=by
 unfold BJ at h
 repeat' split at h
 all_goals first
  |(cases h;done)
  |(cases h;subst_vars;exact⟨η,rfl,κ⟩)
theorem Oa(hv hf:Bool):BJ [] hv hf=none:=by cases hv<;>cases hf<;>rfl
theorem PC(hro:RO F w v d)(hs:Sz 8000000000000 d):
  Calls Tryz.prog 133 #[v] w λe w'=>mW (λk=>(F k/\k<w.1.size)\/w.1.size<=k) (Bf d) e w'/\Bl w w':=by
 have zf:RO (λk=>F k/\k<w.1.size) w v d:=hro.move λk h1 h2=>⟨rfl,h1,h2⟩
 have HG:=Ab (λ(W:A1) (hb:Bl w W) key=>PZ (zf.bel hb) key);have HP:=Ab (λ(W:A1) (hb:Bl w W) key=>Ue (zf.bel hb) hs key);obtain⟨b,kd,rfl,yh,c0,y3⟩:=hro.obj;have HE:=Ab (show Bf d=match AA (Ao d A8)with
  |none=>none
  |some p=>match BJ ((BO (Ao d rS)).getD []) (Ao d AL).isSome (AA (Ao d BS)).isSome with
   |none=>none
   |some k=>some (k,p,(AA (Ao d BS)).getD [],(Ao d AL).getD .nil)from rfl)
 have HK:=Ab y3;clear hro zf hs y3;go_enter func133,ntmps133;go_wp2_with fail;obtain⟨W1,qi⟩:∃W1,W1=(w.alloc (.cells #[.string ⟨#[]⟩,.slice none 0 0,.slice none 0 0,.pointer none] 151)).alloc (.cells #[.string ⟨#[]⟩,.slice none 0 0,.slice none 0 0,.pointer none] 151):=⟨_,rfl⟩
 obtain⟨A,hA⟩:∃A,A=w.1.size:=⟨_,rfl⟩
 have hb1:Bl w W1:=by rw[qi];exact((Â _ _).alloc (Á _) _).alloc φ _
 have yl:W1.1.size=A+2:=by rw[qi,hA];simp
 have zv:W1.1[A]?=some (.cells #[.string ⟨#[]⟩,.slice none 0 0,.slice none 0 0,.pointer none] 151 (0,0)):=by
  rw[qi,hA,Ä _ _ _ φ];exact Ax _ _ _ rfl
 have zw:W1.1[A+1]?=some (.cells #[.string ⟨#[]⟩,.slice none 0 0,.slice none 0 0,.pointer none] 151 (0,0)):=by
  rw[qi,hA];exact Ax _ _ _ φ
 rw[<-qi,<-hA];have qn:A<=w.1.size/\w.1.size<=A:=ζ;clear qi hA;refine(HG.u W1 hb1 rS).mono ?_;rintro e w2⟨he,rfl⟩;obtain⟨xn,rfl,z1,ye⟩:=he.form;have z3:=Ab hb1;have zt:=Ab ye;have zq:=Ab (HP.u _ hb1 A8);clear he ye hb1;go_wp2_with fail;refine zq.u.mono ?_;rintro e w3⟨he,hb3⟩;obtain⟨pa,pn,pc,rfl,y5,y6,y7⟩:=he.form;have B2:=(hb3.block A ζ).trans zv;have B4:=(hb3.block (A+1) ζ).trans zw;have a0:CeB w3 A 0=some (.string ⟨#[]⟩):=ck B2;have a1:CeB w3 A 1=some (.slice none 0 0):=ck B2;have a2:CeB w3 A 2=some (.slice none 0 0):=ck B2;have a3:CeB w3 A 3=some (.pointer none):=ck B2;have z2:∀o,w3.frozen? ⟨A,o,none⟩=false:=λo=>fk B2;have b0:w3.cell? ⟨A+1,0,none⟩=some (.string ⟨#[]⟩):=ck B4;have b1:w3.cell? ⟨A+1,1,none⟩=some (.slice none 0 0):=ck B4;have b2:w3.cell? ⟨A+1,2,none⟩=some (.slice none 0 0):=ck B4;have b3:w3.cell? ⟨A+1,3,none⟩=some (.pointer none):=ck B4;have z4:∀o,w3.frozen? ⟨A+1,o,none⟩=false:=λo=>fk B4;have q8:=Ab (z3.u.trans (hb3.mono z3.u.size));have d0:=(q8.u.cell (p:=⟨b,0,none⟩) yh).trans c0;have zg:A+2<=w3.1.size:=by have:=hb3.size;omega
 have hk5:((kd==[111,98,106,101,99,116])=false/\Bf d=none)\/((kd==[111,98,106,101,99,116])=true/\((xn=none/\Bf d=none)\/(∃bn kn,xn=some ⟨bn,0,none⟩/\CeB w3 bn 0=some (.string ⟨Array.mk kn⟩)/\(((kn==[115,116,114,105,110,103])=false/\Bf d=none)\/((kn==[115,116,114,105,110,103])=true/\((AA (Ao d A8)=none/\Bf d=none)\/
   ∃(s:By) (ks:List By),CeB w3 bn 4=some (.string ⟨s.toArray⟩)/\AA (Ao d A8)=some ks/\Ao d rS=some (Av s))))))):=by
  have hE:=HE.u;rcases HK.u with hk|⟨hk,hno⟩
  .refine À ⟨hk,?_⟩;cases hN:Ao d rS with
   |none=>
    rw[hN]at z1;refine Å ⟨by simpa using z1,?_⟩;rw[hE,hN];cases AA (Ao d A8)with
    |none=>rfl
    |some ks=>simp only[BO,A3,Oa]
   |some y=>
    obtain⟨bn,rfl,zy,hr⟩:=zt.u y hN;obtain⟨b',kn,qf,yi,hc⟩:=hr.str;injection qf with qf;injection qf with qf;injection qf with qf;subst qf;refine À ⟨bn,kn,rfl,(hb3.cell (p:=⟨bn,0,none⟩) zy).trans yi,?_⟩;rcases hc with⟨s,rfl,yj,hk2⟩|⟨hn,hk2⟩
    .refine À ⟨hk2,?_⟩;cases hP:AA (Ao d A8)with
     |none=>exact Å ⟨rfl,by rw[hE,hP]⟩
     |some ks=>exact À ⟨s,ks,(hb3.cell (p:=⟨bn,4,none⟩) zy).trans yj,rfl,rfl⟩
    .refine Å ⟨hk2,?_⟩;rw[hE,hN,hn];cases AA (Ao d A8)with
     |none=>rfl
     |some ks=>simp only[A3,Oa]
  .exact Å ⟨hk,by rw[hE,hno];rfl⟩
 have q9:=Ab (ð y5 (ð y6 (show∀g,(A5 pa pn pc).ownBlock=some g->A+2<=g from λg hg=>by have:=y7 g hg;omega)));have yg:=Ab z1;have zj:=Ab B2;have zk:=Ab B4;clear he hb3 y5 y6 y7 z1 B2 B4 zq zv zw yl c0 HK zt;rcases hk5 with⟨hk,hn⟩|⟨hk,⟨rfl,hn⟩|⟨bn,kn,rfl,n0,⟨hk2,hn⟩|⟨hk2,⟨qm,hn⟩|⟨s,ks,n4,qm,y4⟩⟩⟩⟩
 .have qq:(kd != [111,98,106,101,99,116])=true:=by simpa using hk
  have HN:=Ab hn;clear hn;go_wp2_with fail;refine Ì (v:=.tuple #[.agg #[.string ⟨#[]⟩,.slice none 0 0,.slice none 0 0,.pointer none],.bool false]) (by simp[AS,results133,go_sem,a0,a1,a2,a3]) rfl ⟨?_,?_⟩
  .rw[HN.u];exact⟨[],none,none,none,0,0,0,0,false,rfl,rfl⟩
  .exact C3 q8.u _ qn.2 _ _ _ _
 .have qq:(kd != [111,98,106,101,99,116])=false:=by simpa using hk
  have HN:=Ab hn;clear hn;go_wp2_with fail;refine Ì (v:=.tuple #[.agg #[.string ⟨#[]⟩,.slice none 0 0,.slice none 0 0,.pointer none],.bool false]) (by simp[AS,results133,go_sem,a0,a1,a2,a3]) rfl ⟨?_,?_⟩
  .rw[HN.u];exact⟨[],none,none,none,0,0,0,0,false,rfl,rfl⟩
  .exact C3 q8.u _ qn.2 _ _ _ _
 .have qq:(kd != [111,98,106,101,99,116])=false:=by simpa using hk
  have qg:(kn != [115,116,114,105,110,103])=true:=by simpa using hk2
  have HN:=Ab hn;clear hn;go_wp2_with fail;refine Ì (v:=.tuple #[.agg #[.string ⟨#[]⟩,.slice none 0 0,.slice none 0 0,.pointer none],.bool false]) (by simp[AS,results133,go_sem,a0,a1,a2,a3]) rfl ⟨?_,?_⟩
  .rw[HN.u];exact⟨[],none,none,none,0,0,0,0,false,rfl,rfl⟩
  .exact C3 q8.u _ qn.2 _ _ _ _
 .have qq:(kd != [111,98,106,101,99,116])=false:=by simpa using hk
  have qg:(kn != [115,116,114,105,110,103])=false:=by simpa using hk2
  rw[qm];clear qm;have HN:=Ab hn;clear hn;go_wp2_with fail;refine Ì (v:=.tuple #[.agg #[.string ⟨#[]⟩,.slice none 0 0,.slice none 0 0,.pointer none],.bool false]) (by simp[AS,results133,go_sem,a0,a1,a2,a3]) rfl ⟨?_,?_⟩
  .rw[HN.u];exact⟨[],none,none,none,0,0,0,0,false,rfl,rfl⟩
  .exact C3 q8.u _ qn.2 _ _ _ _
 .have qq:(kd != [111,98,106,101,99,116])=false:=by simpa using hk
  have qg:(kn != [115,116,114,105,110,103])=false:=by simpa using hk2
  rw[qm];have qv:=Ab (ð qm y4);clear qm y4;go_wp2_with fail;obtain⟨W5,qj⟩:∃W5,W5=(w3.setCell ⟨A+1,0,none⟩ (.string ⟨s.toArray⟩)).setCell ⟨A+1,1,none⟩ (.slice pa pn pc):=⟨_,rfl⟩
  have za:Bl w W5:=by rw[qj];exact An (An q8.u _ 0 ζ _) _ 1 ζ _
  have ya:W5.1.size=w3.1.size:=by rw[qj];simp[A2]
  have zc:∀k,k≠A+1->W5.1[k]?=w3.1[k]?:=λk hk=>by rw[qj,Æ _ _ _ _ hk,Æ _ _ _ _ hk]
  have qw:W5.1[A+1]?=some (.cells #[.string ⟨s.toArray⟩,.slice pa pn pc,.slice none 0 0,.pointer none] 151 (0,0)):=by rw[qj];exact(BX (BX zk.u _ _) _ _).trans rfl
  have y8:Bk W5 (.slice pa pn pc) ks:=Bk.keep (q9.u.1 ks qv.u.1) (λ_ g hg _=>zc g (by have:=q9.u.2.2 g hg;omega)) ζ;have e3:W5.cell? ⟨A+1,3,none⟩=some (.pointer none):=ck qw;have z5:W5.frozen? ⟨A+1,3,none⟩=false:=fk qw;rw[<-qj];have qu:=Ab (ð ya zc);have zh:=Ab qw;have zn:=Ab y8;have zl:=Ab (HG.u W5 za AL);have z6:=Ab za;clear qj za ya zc qw y8 a0 a1 a2 a3 b0 b1 b2 b3 z2 z4 d0 n0 n4 HG;refine zl.u.mono ?_;rintro e w6⟨he,rfl⟩;obtain⟨xv,rfl,yd,yc⟩:=he.form;have z9:=Ab (ð yd yc);clear he yd yc zl;go_wp2_with fail;obtain⟨W7,qk⟩:∃W7,W7=w6.setCell ⟨A+1,3,none⟩ (.pointer xv):=⟨_,rfl⟩
  have zb:Bl w W7:=by rw[qk];exact An z6.u _ 3 ζ _
  have z0:W7.1.size=w3.1.size:=by rw[qk];have:=qu.u.1;simp[A2];omega
  have ze:∀k,k≠A+1->W7.1[k]?=w6.1[k]?:=λk hk=>by rw[qk,Æ _ _ _ _ hk]
  have zu:W7.1[A+1]?=some (.cells #[.string ⟨s.toArray⟩,.slice pa pn pc,.slice none 0 0,.pointer xv] 151 (0,0)):=by rw[qk];exact(BX zh.u _ _).trans rfl
  have y9:Bk W7 (.slice pa pn pc) ks:=Bk.keep zn.u (λ_ g hg _=>ze g (by have:=q9.u.2.2 g hg;omega)) (by have:=qu.u.1;omega);rw[<-qk];have z8:=Ab (ð z0 ze);have zi:=Ab zu;have zo:=Ab y9;have zm:=Ab (HP.u W7 zb BS);have z7:=Ab zb;clear qk zb z0 ze zu y9 e3 z5 HP;refine zm.u.mono ?_;rintro e w8⟨he,q7⟩;obtain⟨fa,fn,fc,rfl,qr,qt,qh⟩:=he.form;have ym:=q7.size;have z0:=z8.u.1;have qo:=z7.u.trans (q7.mono z7.u.size);have B4:=(q7.block (A+1) ζ).trans zi.u;have B2:w8.1[A]?=some (.cells #[.string ⟨#[]⟩,.slice none 0 0,.slice none 0 0,.pointer none] 151 (0,0)):=(q7.block A ζ).trans ((z8.u.2 A ζ).trans ((qu.u.2 A ζ).trans zj.u));have c2:w8.cell? ⟨A+1,2,none⟩=some (.slice none 0 0):=ck B4;have c1:w8.cell? ⟨A+1,0,none⟩=some (.string ⟨s.toArray⟩):=ck B4;have f2:w8.frozen? ⟨A+1,2,none⟩=false:=fk B4;have zr:=Ab (ð (ð q7 qo) (ð B2 (ð B4 (ð qr (ð qt qh)))));clear he q7 qr qt qh qo B2 B4;go_upto_region 12 with(fail)
  obtain⟨⟨q7,qo⟩,B2,B4,qr,qt,qh⟩:=zr.u;clear zr c1 c2 f2;obtain⟨W8,qe⟩:∃W8,W8=w8.setCell ⟨A+1,2,none⟩ (.slice fa fn fc):=⟨_,rfl⟩
  rw[<-qe];have b4:W8.1[A+1]?=some (.cells #[.string ⟨s.toArray⟩,.slice pa pn pc,.slice fa fn fc,.pointer xv] 151 (0,0)):=by rw[qe];exact(BX B4 _ _).trans rfl
  have a4:W8.1[A]?=some (.cells #[.string ⟨#[]⟩,.slice none 0 0,.slice none 0 0,.pointer none] 151 (0,0)):=by rw[qe,Æ _ _ _ _ (by show A≠A+1;omega)];exact B2
  have a0:CeB W8 A 0=some (.string ⟨#[]⟩):=ck a4;have a1:CeB W8 A 1=some (.slice none 0 0):=ck a4;have a2:CeB W8 A 2=some (.slice none 0 0):=ck a4;have a3:CeB W8 A 3=some (.pointer none):=ck a4;have z2:∀o,W8.frozen? ⟨A,o,none⟩=false:=λo=>fk a4;have b0:W8.cell? ⟨A+1,0,none⟩=some (.string ⟨s.toArray⟩):=ck b4;have b1:W8.cell? ⟨A+1,1,none⟩=some (.slice pa pn pc):=ck b4;have b2:W8.cell? ⟨A+1,2,none⟩=some (.slice fa fn fc):=ck b4;have b3:W8.cell? ⟨A+1,3,none⟩=some (.pointer xv):=ck b4;have qb:Bl w ((((W8.setCell ⟨A,0,none⟩ (.string ⟨s.toArray⟩)).setCell ⟨A,1,none⟩ (.slice pa pn pc)).setCell ⟨A,2,none⟩ (.slice fa fn fc)).setCell ⟨A,3,none⟩ (.pointer xv)):=by
   rw[qe];exact C3 (An qo _ 2 ζ _) _ qn.2 _ _ _ _
  obtain⟨X,hX⟩:∃X,X=(((W8.setCell ⟨A,0,none⟩ (.string ⟨s.toArray⟩)).setCell ⟨A,1,none⟩ (.slice pa pn pc)).setCell ⟨A,2,none⟩ (.slice fa fn fc)).setCell ⟨A,3,none⟩ (.pointer xv):=⟨_,rfl⟩
  rw[<-hX]at qb;have qd:∀(ok:Bool) (W9:A1),(BJ s (Ao d AL).isSome (AA (Ao d BS)).isSome).isSome=ok->W9.1=X.1->W9.os=X.os->W9.tape=X.tape->W9.output=X.output ->
    mW (λk=>(F k/\k<w.1.size)\/w.1.size<=k) (Bf d) (.returned (.tuple #[.agg #[.string ⟨s.toArray⟩,.slice pa pn pc,.slice fa fn fc,.pointer xv],.bool ok])) W9/\Bl w W9:=λok W9 hok h1 h2 h3 h4=>by
   have zx:Bl w W9:=⟨h2.trans qb.os,h3.trans qb.tape,h4.trans qb.output,by rw[h1];exact qb.size,λk hk=>by rw[h1];exact qb.block k hk⟩
   refine⟨⟨s,pa,fa,xv,pn,pc,fn,fc,ok,rfl,?_⟩,zx⟩;have zz:∀k,k≠A->k≠A+1->W9.1[k]?=w8.1[k]?:=λk g1 g2=>by
    rw[h1,hX,Æ _ _ _ _ g1,Æ _ _ _ _ g1,Æ _ _ _ _ g1,Æ _ _ _ _ g1,qe,Æ _ _ _ _ g2]
   have yb:w8.1.size<=W9.1.size:=by
    rw[h1,hX,qe];simp[A2]
   have hit:Bf d=match BJ s (Ao d AL).isSome (AA (Ao d BS)).isSome with
    |none=>none
    |some k=>some (k,ks,(AA (Ao d BS)).getD [],(Ao d AL).getD .nil):=by rw[HE.u,qv.u.1,qv.u.2];rfl
   cases hkk:BJ s (Ao d AL).isSome (AA (Ao d BS)).isSome with
   |none=>rw[hkk]at hok hit;rw[hit];exact hok.symm
   |some k=>
    rw[hkk]at hok hit;rw[hit];obtain⟨k1,k2,k3⟩:=WN hkk;refine⟨hok.symm,k1,k2,⟨?_,λ_ g hg=>À (by have:=q9.u.2.2 g hg;omega)⟩,⟨?_,λ_ g hg=>À (by have:=qh g hg;omega)⟩,λhk=>?_⟩
    .refine Bk.keep (zo.u.bel q7) (λ_ g hg _=>zz g ?_ ?_) yb
     .have:=q9.u.2.2 g hg;omega
     .have:=q9.u.2.2 g hg;omega
    .have hq:Bk w8 (.slice fa fn fc) ((AA (Ao d BS)).getD []):=by
      cases hR:AA (Ao d BS)with
      |none=>exact qt hR
      |some l=>exact qr l hR
     refine Bk.keep hq (λ_ g hg _=>zz g ?_ ?_) yb
     .have:=qh g hg;omega
     .have:=qh g hg;omega
    .have hv:=k3 hk;obtain⟨y,hy⟩:=Option.isSome_iff_exists.1 hv;obtain⟨bv,rfl,yn,hr⟩:=z9.u.2 y hy;show RO _ W9 _ ((Ao d AL).getD .nil);rw[hy];exact hr.move λk h1 _=>⟨(zx.block k h1.2).trans (z6.u.block k h1.2).symm,Å h1⟩
  rw[hX]at qd;have q0:=Ab qd;clear qd qb hX;obtain⟨hv,qz⟩:∃hv,hv=(Ao d AL).isSome:=⟨_,rfl⟩
  obtain⟨hf,qy⟩:∃hf,hf=(AA (Ao d BS)).isSome:=⟨_,rfl⟩
  rw[<-qy];rw[<-qz,<-qy]at q0;have yo:xv.isSome=hv:=by
   have h9:=z9.u.1;rwa [<-qz]at h9
  have yk:s=G0\/s=CK\/s=F3\/s=F8\/s=uO\/s=Df\/(s≠G0/\s≠CK/\s≠F3/\s≠F8/\s≠uO/\s≠Df):=by
   by_cases h1:s=G0<;>by_cases h2:s=CK<;>by_cases h3:s=F3<;>by_cases h4:s=F8<;>by_cases h5:s=uO<;>by_cases h6:s=Df<;>simp[h1,h2,h3,h4,h5,h6]
  have yf:=Ab (ð qz qy);clear qe a4 b4 q7 qr qt qh ym z0 qo B4 B2 qz qy q9 yg qv zn zo qu z8 zh zi z6 z7 zm q8 zg hk hk2 qq qg HE z3 zj zk z9 yf;rcases yk with hs|hs|hs|hs|hs|hs|⟨s1,s2,s3,s4,s5,s6⟩
  .have q1:(s==[97,100,100])=true:=by rw[hs];decide
   have HK:=Ab (show∀hv hf:Bool,(BJ s hv hf).isSome=hv from λhv hf=>by rw[hs];cases hv<;>cases hf<;>rfl);clear hs;go_wp2_with fail;go_region_law (fail);all_goals (
    go_wp2_with fail;simp only[Bs,AT,AI,ě];refine Ì (v:=.tuple #[.agg #[.string ⟨s.toArray⟩,.slice pa pn pc,.slice fa fn fc,.pointer xv],.bool hv]) (by simp[AS,results133,go_sem,a0,a1,a2,a3]) rfl ?_;exact q0.u hv _ (HK.u _ _) rfl rfl rfl rfl)
  .have q1:(s==[97,100,100])=false:=by rw[hs];decide
   have q2:(s==[114,101,112,108,97,99,101])=true:=by rw[hs];decide
   have HK:=Ab (show∀hv hf:Bool,(BJ s hv hf).isSome=hv from λhv hf=>by rw[hs];cases hv<;>cases hf<;>rfl);clear hs;go_wp2_with fail;go_region_law (fail);all_goals (
    go_wp2_with fail;simp only[Bs,AT,AI,ě];refine Ì (v:=.tuple #[.agg #[.string ⟨s.toArray⟩,.slice pa pn pc,.slice fa fn fc,.pointer xv],.bool hv]) (by simp[AS,results133,go_sem,a0,a1,a2,a3]) rfl ?_;exact q0.u hv _ (HK.u _ _) rfl rfl rfl rfl)
  .have q1:(s==[97,100,100])=false:=by rw[hs];decide
   have q2:(s==[114,101,112,108,97,99,101])=false:=by rw[hs];decide
   have q3:(s==[116,101,115,116])=true:=by rw[hs];decide
   have HK:=Ab (show∀hv hf:Bool,(BJ s hv hf).isSome=hv from λhv hf=>by rw[hs];cases hv<;>cases hf<;>rfl);clear hs;go_wp2_with fail;go_region_law (fail);all_goals (
    go_wp2_with fail;simp only[Bs,AT,AI,ě];refine Ì (v:=.tuple #[.agg #[.string ⟨s.toArray⟩,.slice pa pn pc,.slice fa fn fc,.pointer xv],.bool hv]) (by simp[AS,results133,go_sem,a0,a1,a2,a3]) rfl ?_;exact q0.u hv _ (HK.u _ _) rfl rfl rfl rfl)
  .have q1:(s==[97,100,100])=false:=by rw[hs];decide
   have q2:(s==[114,101,112,108,97,99,101])=false:=by rw[hs];decide
   have q3:(s==[116,101,115,116])=false:=by rw[hs];decide
   have q4:(s==[109,111,118,101])=true:=by rw[hs];decide
   have HK:=Ab (show∀hv hf:Bool,(BJ s hv hf).isSome=hf from λhv hf=>by rw[hs];cases hv<;>cases hf<;>rfl);clear hs;go_wp2_with fail;refine Ì (v:=.tuple #[.agg #[.string ⟨s.toArray⟩,.slice pa pn pc,.slice fa fn fc,.pointer xv],.bool hf]) (by simp[AS,results133,go_sem,a0,a1,a2,a3]) rfl ?_;exact q0.u hf _ (HK.u _ _) rfl rfl rfl rfl
  .have q1:(s==[97,100,100])=false:=by rw[hs];decide
   have q2:(s==[114,101,112,108,97,99,101])=false:=by rw[hs];decide
   have q3:(s==[116,101,115,116])=false:=by rw[hs];decide
   have q4:(s==[109,111,118,101])=false:=by rw[hs];decide
   have q5:(s==[99,111,112,121])=true:=by rw[hs];decide
   have HK:=Ab (show∀hv hf:Bool,(BJ s hv hf).isSome=hf from λhv hf=>by rw[hs];cases hv<;>cases hf<;>rfl);clear hs;go_wp2_with fail;refine Ì (v:=.tuple #[.agg #[.string ⟨s.toArray⟩,.slice pa pn pc,.slice fa fn fc,.pointer xv],.bool hf]) (by simp[AS,results133,go_sem,a0,a1,a2,a3]) rfl ?_;exact q0.u hf _ (HK.u _ _) rfl rfl rfl rfl
  .have q1:(s==[97,100,100])=false:=by rw[hs];decide
   have q2:(s==[114,101,112,108,97,99,101])=false:=by rw[hs];decide
   have q3:(s==[116,101,115,116])=false:=by rw[hs];decide
   have q4:(s==[109,111,118,101])=false:=by rw[hs];decide
   have q5:(s==[99,111,112,121])=false:=by rw[hs];decide
   have q6:(s==[114,101,109,111,118,101])=true:=by rw[hs];decide
   have HK:=Ab (show∀hv hf:Bool,(BJ s hv hf).isSome=true from λhv hf=>by rw[hs];cases hv<;>cases hf<;>rfl);clear hs;go_wp2_with fail;refine Ì (v:=.tuple #[.agg #[.string ⟨s.toArray⟩,.slice pa pn pc,.slice fa fn fc,.pointer xv],.bool true]) (by simp[AS,results133,go_sem,a0,a1,a2,a3]) rfl ?_;exact q0.u true _ (HK.u _ _) rfl rfl rfl rfl
  .have q1:(s==[97,100,100])=false:=by simpa[G0]using s1
   have q2:(s==[114,101,112,108,97,99,101])=false:=by simpa[CK]using s2
   have q3:(s==[116,101,115,116])=false:=by simpa[F3]using s3
   have q4:(s==[109,111,118,101])=false:=by simpa[F8]using s4
   have q5:(s==[99,111,112,121])=false:=by simpa[uO]using s5
   have q6:(s==[114,101,109,111,118,101])=false:=by simpa[Df]using s6
   have HK:=Ab (show∀hv hf:Bool,(BJ s hv hf).isSome=false from λhv hf=>by unfold BJ;simp[s1,s2,s3,s4,s5,s6]);clear s1 s2 s3 s4 s5 s6;go_wp2_with fail;refine Ì (v:=.tuple #[.agg #[.string ⟨s.toArray⟩,.slice pa pn pc,.slice fa fn fc,.pointer xv],.bool false]) (by simp[AS,results133,go_sem,a0,a1,a2,a3]) rfl ?_;exact q0.u false _ (HK.u _ _) rfl rfl rfl rfl
end
