import Derived.Test.YtdpomdelmdofmaaGreatDoorP21
open Go renaming Value->AI
open Go.Value renaming ownBlock->AS,oneCell'->AT
open Go.World renaming setCell->A1
set_option maxRecDepth 100000
set_option maxHeartbeats 16000000
namespace Go.Proofs.YtdpomdelmdofmaaGreatDoor
open Go.Proofs.Tryz Go.RowKit
variable{A g B:Nat}{w0 w w3:World}{ks vs:List AI}{kl sl:AI}{o:Obj}
structure CC(A:Nat)(w0 w:World)(ks vs:List AI)(kl sl:AI):Prop where
 ob:OB w A sC false [] 0 [] kl sl
 ok:w.ownsRow (A+1) 9 1 kl ks.length ks
 ov:w.ownsRow (A+1) 66 1 sl vs.length vs
 dj:∀g,kl.ownBlock=some g->sl.ownBlock≠some g
 bel:Below A w0 w
 sz:A<w.1.size
theorem SA{c:Nat}{al u:AI}(h:CC A w0 w ks vs kl sl)(hg:(w.alloc o).grownBy w3 al.ownBlock)(hal:∀k,al.ownBlock=some k->A+1<=k)(hA:A=w0.1.size)(q0:al.ownBlock=some g\/g=w.1.size+1):
  Below A w0 (w3.setCell ⟨A,c,none⟩ u)/\(∀k,k<w.1.size->al.ownBlock≠some k->k≠A->(w3.setCell ⟨A,c,none⟩ u).1[k]?=w.1[k]?)/\w3.1[A]?=w.1[A]?/\A<(w3.setCell ⟨A,c,none⟩ u).1.size/\A+1<=g:=by
 have hsz:=h.sz;have hs:=hg.size;have q5:(w.alloc o).1.size=w.1.size+1:=φ;have hb:=h.bel;have k0:∀k,k<w.1.size->al.ownBlock≠some k->w3.1[k]?=w.1[k]?:=λk h1 h2=>(hg.block k ζ (λe=>h2 e.symm)).trans (Ä w o k h1);have kk:∀k,k<w.1.size->al.ownBlock≠some k->k≠A->(w3.setCell ⟨A,c,none⟩ u).1[k]?=w.1[k]?:=λk h1 h2 h3=>(Æ _ _ _ _ h3).trans (k0 k h1 h2);have q4:=hb.size;refine⟨⟨hg.os.trans hb.os,hg.tape.trans hb.tape,hg.output.trans hb.output,by grind [A1],λk hk=>(kk k ζ ε ζ).trans (hb.block k hk)⟩,kk,ε,by grind [A1],?_⟩;grind
theorem CC.key{x:AI}{cap:Nat}(h:CC A w0 w ks vs kl sl)(hA:A=w0.1.size)(ho:w3.ownsRow (A+1) 9 1 (SlB g (ks.length+1) cap) (ks.length+1) (ks++[x]))(hg:(w.alloc o).grownBy w3 kl.ownBlock)(q0:kl.ownBlock=some g\/g=w.1.size+1):CC A w0 (w3.setCell ⟨A,5,none⟩ (SlB g (ks.length+1) cap)) (ks++[x]) vs (SlB g (ks.length+1) cap) sl:=by
 obtain⟨h1,h2,h3,h4,h5⟩:=SA (c:=5) (u:=SlB g (ks.length+1) cap) h hg (λk hk=>(Af h.ok k hk).2) hA q0;refine⟨OB.set5 (h.ob.kept h3) _,?_,Am h.ov (λk hk=>h2 k (Af h.ov k hk).1 (λe=>h.dj k e hk) (by have:=(Af h.ov k hk).2;omega)),?_,h1,h4⟩
 .rw[Ñ];exact Am ho (λk hk=>by
   obtain rfl:k=g:=by simpa[AS]using hk.symm
   exact Æ _ _ _ _ (show k≠A from ζ))
 .intro k hk e;obtain rfl:k=g:=by simpa[AS]using hk.symm
  have:=(Af h.ov k e).1;rcases q0 with h6|h6
  .exact h.dj k h6 e
  .omega
theorem CC.val{x:AI}{cap:Nat}(h:CC A w0 w ks vs kl sl)(hA:A=w0.1.size)(ho:w3.ownsRow (A+1) 66 1 (SlB g (vs.length+1) cap) (vs.length+1) (vs++[x]))(hg:(w.alloc o).grownBy w3 sl.ownBlock)(q0:sl.ownBlock=some g\/g=w.1.size+1):CC A w0 (w3.setCell ⟨A,6,none⟩ (SlB g (vs.length+1) cap)) ks (vs++[x]) kl (SlB g (vs.length+1) cap):=by
 obtain⟨h1,h2,h3,h4,h5⟩:=SA (c:=6) (u:=SlB g (vs.length+1) cap) h hg (λk hk=>(Af h.ov k hk).2) hA q0;refine⟨OB.set6 (h.ob.kept h3) _,Am h.ok (λk hk=>h2 k (Af h.ok k hk).1 (λe=>h.dj k hk e) (by have:=(Af h.ok k hk).2;omega)),?_,?_,h1,h4⟩
 .rw[Ñ];exact Am ho (λk hk=>by
   obtain rfl:k=g:=by simpa[AS]using hk.symm
   exact Æ _ _ _ _ (show k≠A from ζ))
 .intro k hk e;obtain rfl:k=g:=by simpa[AS]using e.symm
  have:=(Af h.ok k hk).1;rcases q0 with h6|h6
  .exact h.dj k hk h6
  .omega
theorem PA{e n:Nat}{v:AI}{xs:List AI}(h:w.ownsRow B e 1 v n xs):w.ownsRow 0 e 1 v n xs:=⟨h.1,h.2.imp id λ⟨g,cap,cur,h1,_,h3⟩=>⟨g,cap,cur,h1,Ď _,h3⟩⟩
theorem B0{e n:Nat}{v:AI}{xs:List AI}(h:w.ownsRow B e 1 v n xs):∃(g cap:Nat) (a:Option Addr),v=.slice a n cap/\n<=cap/\cap<=maxLen/\(0<n->a=some ⟨g,0,none⟩/\g<w.1.size)/\∀k (hk:k<xs.length),CeB w g k=some xs[k]:=by
 by_cases h0:0<n
 .obtain⟨g,cap,e,h1,h2,h3,h4⟩:=DS h h0;grind
 .have hx:=h.1;rcases h.2 with⟨e,h1⟩|⟨g,cap,cur,e,_,_,h4,h5,_⟩
  .simp_all
  grind
theorem CC.a5(h:CC A w0 w ks vs kl sl):some A≠kl.ownBlock/\CeB w A 5=some kl/\w.frozen? ⟨A,5,none⟩=false/\(∀o,(w.alloc o).cell? ⟨A,5,none⟩=some kl)/\∀o,(w.alloc o).frozen? ⟨A,5,none⟩=false:=
 ⟨λq=>by have:=(Af h.ok _ q.symm).2;omega,h.ob.c5,h.ob.fz 5,λo=>(Ç (w:=w) (Ä w o A h.sz)).trans h.ob.c5,λo=>(Ĕ (w:=w) (Ä w o A h.sz)).trans (h.ob.fz 5)⟩
theorem CC.a6(h:CC A w0 w ks vs kl sl):some A≠sl.ownBlock/\CeB w A 6=some sl/\w.frozen? ⟨A,6,none⟩=false/\(∀o,(w.alloc o).cell? ⟨A,6,none⟩=some sl)/\∀o,(w.alloc o).frozen? ⟨A,6,none⟩=false:=
 ⟨λq=>by have:=(Af h.ov _ q.symm).2;omega,h.ob.c6,h.ob.fz 6,λo=>(Ç (w:=w) (Ä w o A h.sz)).trans h.ob.c6,λo=>(Ĕ (w:=w) (Ä w o A h.sz)).trans (h.ob.fz 6)⟩
theorem Ez{a:World}(h:Below B a w)(g o:Nat)(hg:g<B){u:AI}(hu:CeB a g o=some u):CeB w g o=some u:=(h.cell (p:=⟨g,o,none⟩) hg).trans hu
def zs(es:Ms)(ps:List AI):List (By×AI):=(es.map (·.1)).zip ps
def DL(k:By)(l:List (By×AI)):List (By×AI):=l.filter λq=>!(q.1==k)
def Fd(k:By)(u:AI)(l:List (By×AI)):List (By×AI):=l.map λq=>if q.1=k then(k,u)else q
theorem cU{es:Ms}{ps:List AI}(hl:ps.length=es.length){j:Nat}(hj:j<es.length):(zs es ps).take (j+1)=(zs es ps).take j++[(es[j].1,ps[j]'ζ)]:=by
 have h:j<(zs es ps).length:=by simp[zs];omega
 rw[Í h];simp[zs]
theorem X7{P:AI->O->Prop}(k:By):∀{es:Ms}{ps:List AI},Al P ps (es.map (·.2))->Al P ((DL k (zs es ps)).map (·.2)) ((Gv es k).map (·.2))/\(DL k (zs es ps)).map (·.1)=(Gv es k).map (·.1)
 |[],ps,h=>by cases ps with
  |nil=>exact⟨trivial,rfl⟩
  |cons=>exact h.elim
 |e::es,[],h=>h.elim
 |e::es,p::ps,h=>by
  obtain⟨i1,i2⟩:=X7 k h.2;unfold DL zs Gv at*;by_cases hk:e.1=k
  .simp_all
  .simp only[Ð,List.zip_cons_cons];simp[hk];exact⟨⟨h.1,i1⟩,ζ⟩
theorem X6{P:AI->O->Prop}{k:By}{u:AI}{y:O}(hu:P u y):∀{es:Ms}{ps:List AI},Al P ps (es.map (·.2))->Al P ((Fd k u (zs es ps)).map (·.2)) ((es.map λp=>if p.1=k then(k,y)else p).map (·.2))/\(Fd k u (zs es ps)).map (·.1)=es.map (·.1)
 |[],ps,h=>by cases ps with
  |nil=>exact⟨trivial,rfl⟩
  |cons=>exact h.elim
 |e::es,[],h=>h.elim
 |e::es,p::ps,h=>by
  obtain⟨i1,i2⟩:=X6 hu h.2;unfold Fd zs at*;by_cases hk:e.1=k
  .simp[hk];exact⟨⟨hu,by simpa using i1⟩,ε⟩
  .simp[hk];exact⟨⟨h.1,ε⟩,ε⟩
theorem Po{f b:Nat}{F:Nat->Prop}{es:Ms}{ps:List AI}(h:OB w b sC false [] 0 [] kl sl)(hk:w.ownsRow 0 9 1 kl es.length (es.map λp=>AG p.1))(hv:w.ownsRow 0 66 1 sl ps.length ps)(hal:Al (Ar f F w) ps (es.map (·.2)))(zc:∀g,kl.ownBlock=some g->F g)(zh:∀g,sl.ownBlock=some g->F g)(hF:∀k,w.1.size<=k->F k)(hn:es.length<=1000000)(key:By):
  Calls Tryz.prog 97 #[.pointer (some ⟨b,0,none⟩),.string ⟨key.toArray⟩] w λe w'=>∃p,e=.returned (.pointer p)/\Ar (f+1) F w' (.pointer p) (qF (Gv es key))/\Bl w w':=by
 obtain⟨i0,z9,hz0,zm,hz2⟩:=ę L7;obtain⟨j0,za,zj,zk,zl⟩:=ę OU;have qk:ps.length=es.length:=by have:=hal.length;grind
 obtain⟨n,hnn⟩:∃n,n=es.length:=⟨_,rfl⟩
 have zq:=h.lt;have qy:=h.c5;have qh:=h.c6;obtain⟨A,hA⟩:∃A,A=w.1.size:=⟨_,rfl⟩
 have qu:CC A w (w.alloc (.cells #[.string ⟨#[111,98,106,101,99,116]⟩,.bool false,.string ⟨#[]⟩,.int .i64 0,.string ⟨#[]⟩,.slice none 0 0,.slice none 0 0] 91)) [] [] AE AE:=by
  subst hA;exact⟨Ax _ _ _ rfl,å _ _ _ _,å _ _ _ _,(λg hg=>by cases hg),(Â _ _).alloc (Á _) _,φ⟩
 have qf:Hid (∀W q7 sl' p,CC A w W (((DL key (zs es ps)).map (·.1)).map AG) ((DL key (zs es ps)).map (·.2)) q7 sl'->p=some ⟨A,0,none⟩->Ar (f+1) F W (.pointer p) (qF (Gv es key))):=by
  intro W q7 sl' p hI hp;subst hp;obtain⟨h1,h2⟩:=X7 key hal;have ze:(((DL key (zs es ps)).map (·.1)).map AG)=(Gv es key).map λp=>AG p.1:=κ;have hok:=hI.ok;rw[ze]at hok;refine⟨A,rfl,hF _ ζ,À (À (À (À ⟨_,q7,sl',_,rfl,hI.ob,?_,?_,PA hI.ov,?_,h1.mono λ_ _ q=>Ar.move (λk q1 q2=>⟨hI.bel.block k ζ,q1⟩) q⟩)))⟩
  .have:=PA hok;grind
  .intro g hg;exact hF g (by have:=(Af hI.ok g hg).2;omega)
  .intro g hg;exact hF g (by have:=(Af hI.ov g hg).2;omega)
 obtain⟨g1,p1,a1,rfl,zf,zw,qi,qv⟩:=B0 hk;obtain⟨g2,p2,a2,rfl,zg,zx,hg2,qw⟩:=B0 hv;rw[<-hnn]at qy zf;rw[qk,<-hnn]at qh zg;have HP:=Ab (show∀p∈ps,∃x,p=.pointer x from λp hp=>by
  obtain⟨k,hk,rfl⟩:=ù hp;obtain⟨b',e,_⟩:=(hal.get k hk ε).ptr;grind)
 have HN:=Ab hnn;have qg:=Ab qk;have z8:=Ab qu;have z4:=Ab qi;have z7:=Ab hg2;have z3:=Ab qv;have qo:=Ab qw;have HA:=Ab hA;have zu:n<=1000000:=ζ;clear h hk hv hal zc zh hF qu qi hg2 qv qw hnn qk hn hA;go_enter func97,ntmps97;go_wp2_with fail;rw[<-HA.u];go_loopw [6] (λi wr=>∃(j:Nat) (q7 sl':AI),j<=n/\i=.int .i64 j/\CC A w wr (((DL key ((zs es ps).take j)).map (·.1)).map AG) ((DL key ((zs es ps).take j)).map (·.2)) q7 sl') (λi _=>n-(intOf i).toNat)
 case atStart=>exact⟨0,_,_,ζ,rfl,z8.u⟩
 case round=>
  obtain⟨j,q7,sl',hj,rfl,hI⟩:=hrel;have HI:=Ab hI;have zv:=hI.sz;have r5:=Ez hI.bel b 5 (by have:=HA.u;omega) qy;have r6:=Ez hI.bel b 6 (by have:=HA.u;omega) qh;clear hI;by_cases hlt:j<n
  .have zb:j<es.length:=by have:=HN.u;omega
   have qj:j<ps.length:=by have:=qg.u;omega
   obtain⟨rfl,qi⟩:=z4.u ζ;obtain⟨rfl,hg2⟩:=z7.u ζ;have s1:=Ez HI.u.bel g1 j (by have:=HA.u;omega) (z3.u j ε);have s2:=Ez HI.u.bel g2 j (by have:=HA.u;omega) (qo.u j qj);rw[é]at s1;unfold AG at s1;have HZ:=Ab (cU qg.u zb);have qr:=Ab (qo.u j qj);obtain⟨kj,qz⟩:∃kj,kj=es[j].1:=⟨_,rfl⟩
   obtain⟨pj,qn⟩:∃pj,pj=ps[j]:=⟨_,rfl⟩
   rw[<-qz]at s1 HZ;rw[<-qn]at s2 HZ qr;obtain⟨xj,rfl⟩:∃xj,pj=.pointer xj:=by rw[qn];exact HP.u _ (Ó qj)
   clear qz qn;obtain⟨ks,qd⟩:∃ks,ks=((DL key ((zs es ps).take j)).map (·.1)).map AG:=⟨_,rfl⟩
   obtain⟨vs,qe⟩:∃vs,vs=(DL key ((zs es ps).take j)).map (·.2):=⟨_,rfl⟩
   rw[<-qd,<-qe]at HI;have zt:ks.length<=j/\vs.length<=j:=by
    have:=ņ (λq:By×AI=>!(q.1==key)) ((zs es ps).take j);have h2:((zs es ps).take j).length<=j:=ω;subst qd qe;unfold DL;simp only[æ];omega
   have qq:=Ab qd;have qt:=Ab qe;clear qd qe;by_cases q8:kj=key
   .have e1:(kj != key)=false:=ε;have e2:(kj==key)=true:=ε;have HE:=Ab (show DL key ((zs es ps).take (j+1))=DL key ((zs es ps).take j) by rw[HZ.u];unfold DL;simp[q8]);clear q8;go_wp2;exact⟨⟨j+1,q7,sl',ζ,ψ,by rw[HE.u,<-qq.u,<-qt.u];exact HI.u⟩,by simp only[intOf];omega⟩
   .have HE:=Ab (show DL key ((zs es ps).take (j+1))=DL key ((zs es ps).take j)++[(kj,.pointer xj)] by rw[HZ.u];unfold DL;simp[q8]);have e1:(kj != key)=true:=ε;have e2:(kj==key)=false:=ε;clear q8;have qb:=HI.u.ok;obtain⟨n5,q5,z5,z1,z2⟩:=HI.u.a5;go_wp2_with fail;go_region_law ((refine ġ _ θ _ _ _ θ (A+1) 9 j0 _ 1 16 underlying59 za zj zk zl rfl η q7 ks.length ks θ ((qb.alloc _).drew) ⟨wr.1.size,0,none⟩ 1 1 [.string ⟨kj.toArray⟩] θ θ (Ö (cs:=#[.string ⟨kj.toArray⟩]) (t:=9) (fr:=(0,0)) (Ê wr _)) (by simp[AT]) η ζ ζ ω (wr.1.size+1) φ ?_;intro g cap w3 q4 q0 q9 hlt;have zz:w3.frozen? ⟨A,5,none⟩=false:=(q0.frozen_far ⟨A,5,none⟩ ω n5).trans (z2 _);have yy:w3.cell? ⟨A,5,none⟩=some q7:=(q0.cell_far ⟨A,5,none⟩ ω n5).trans (z1 _)));all_goals (
     have hK:=CC.key (x:=.string ⟨kj.toArray⟩) HI.u HA.u q4 (Ł q0.os q0.tape q0.output q0.size q0.block) q9;obtain⟨w4,z0⟩:∃w4,w4=w3.setCell ⟨A,5,none⟩ (.slice (some ⟨g,0,none⟩) (ks.length+1) cap):=⟨_,rfl⟩
     rw[<-z0]at hK |-;have HK:=Ab hK;have zi:=hK.sz;clear q4 q0 q9 hlt zz yy z1 z2 q5 z5 r5 r6 s1 s2 n5 qb z0 e1 e2;have r6:=Ez hK.bel b 6 (by have:=HA.u;omega) qh;have s2:=Ez hK.bel g2 j (by have:=HA.u;omega) qr.u;have qm:=hK.ov;obtain⟨n6,q6,z6,zn,zo⟩:=hK.a6;clear hK;go_wp2_with fail;go_region_law ((refine ġ _ θ _ _ _ θ (A+1) 66 i0 _ 1 8 underlying89 z9 hz0 zm hz2 rfl η sl' vs.length vs θ ((qm.alloc _).drew) ⟨w4.1.size,0,none⟩ 1 1 [.pointer xj] θ θ (Ö (cs:=#[.pointer xj]) (t:=66) (fr:=(0,0)) (Ê w4 _)) (by simp[AT]) η ζ ζ ω (w4.1.size+1) φ ?_;intro g cap w3 q4 q0 q9 hlt;have zz:w3.frozen? ⟨A,6,none⟩=false:=(q0.frozen_far ⟨A,6,none⟩ ω n6).trans (zo _);have yy:w3.cell? ⟨A,6,none⟩=some sl':=(q0.cell_far ⟨A,6,none⟩ ω n6).trans (zn _)));all_goals (
      have hV:=CC.val (x:=.pointer xj) HK.u HA.u q4 (Ł q0.os q0.tape q0.output q0.size q0.block) q9;have HV:=Ab hV;clear hV q4 q0 q9 hlt zz yy;go_wp2;exact⟨⟨j+1,_,_,ζ,ψ,by rw[HE.u,ă,ă,ă,<-qq.u,<-qt.u];exact HV.u⟩,by simp only[intOf];omega⟩))
  .go_wp2;go_ret;refine⟨_,rfl,qf.u _ q7 sl' _ ?_ rfl,by have:=HI.u.bel;rwa [HA.u]at this⟩;have zr:(zs es ps).take j=zs es ps:=Ï (by have:=HN.u;have:=qg.u;simp[zs];omega);have:=HI.u;simp_all
