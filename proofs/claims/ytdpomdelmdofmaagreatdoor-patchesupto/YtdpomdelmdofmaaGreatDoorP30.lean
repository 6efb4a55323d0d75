import Derived.Test.YtdpomdelmdofmaaGreatDoorP29
set_option maxRecDepth 100000
set_option maxHeartbeats 32000000
namespace Go.Proofs.YtdpomdelmdofmaaGreatDoor
open Go.Proofs.Tryz Go.RowKit Go.Maps
variable{s:List By}{P E:List (Lit×pL)}{r:Option pL}
theorem Zu(k:Lit)(es:List (Lit×pL)):(qY k es).length<=es.length:=ņ _ _
def Ld(m:Option pL->List By->pL->pL×List pW)(s:List By)(E0 P:List (Lit×pL))(ks:List By)(k:By):Option pL:=if k∈ks then H8 m s E0 P k else Aq E0 (.string k)
def IZ(vo:Option pL):List (Lit×pL):=match vo with
 |some (.map es)=>es
 |_=>[]
theorem fU{g:Nat}{vo:Option pL}(hP:AQ P)(h0:AQ (IZ vo))(hE:AQ E)(h:∀k:By,Aq E (.string k)=H8 (qQ g) s (IZ vo) P k):(qQ (g+1) vo s (.map P)).1=.map E:=by
 have q0:(Dg (qQ g) s P (IZ vo)).1=E:=by
  obtain⟨h1,h2⟩:=PR (m:=qQ g) (s:=s) hP h0;exact Do h1 hE λk=>by rw[h2,h]
 by_cases hv:∃es,vo=some (.map es)
 .obtain⟨es,rfl⟩:=hv;rw[fV];exact congrArg DataW.map q0
 .have hl:∀v,vo=some v->Eh v=false:=λv e=>by
   subst e;cases v<;>first|rfl|exact absurd ⟨_,rfl⟩ hv
  rw[Lc (Å hl)];have q4:IZ vo=[]:=by
   unfold IZ;split
   .exact absurd ⟨_,rfl⟩ hv
   .rfl
  show DataW.map (uB g P)=_;obtain⟨h1,h2⟩:=V9 (f:=g) hP;congr 1;refine Do h1 hE λk=>?_;rw[h2,h,q4];unfold H8;cases hg:Aq P (.string k)with
  |none=>exact(B9 λp hp=>by cases hp).symm
  |some q=>
   simp only;rw[show Aq ([]:List (Lit×pL)) (.string k)=none from B9 λp hp=>by cases hp];split
   .rfl
   .cases g with
    |zero=>rfl
    |succ g=>exact congrArg some (Lc (Å λv e=>by cases e)).symm
def mY(D x:Int)(g:Nat):Prop:=∀(F:Nat->Prop) (w:World) (vv:Option Addr) (pv:Value) (vo:Option pL) (p:pL) (lv:Int) (s:List By),
 ((vo=none/\vv=none)\/∃v,vo=some v/\RO F w (.pointer vv) v/\Sz 400000 v)->RO F w pv p->pU D x g lv p->Sz 400000 p->(∀k,w.1.size<=k->F k) ->
 Calls Tryz.prog 71 #[.pointer vv,pv] w λe w'=>Lw F (qQ g vo s p).1 e w'/\Bl w w'
section
variable{F:Nat->Prop}{w:World}{v:Value}{d:pL}{D x:Int}{g:Nat}
theorem fB{A:Nat}(h:OB w A sC false [] 0 [] AE AE):ROb F w A 0 [] []:=⟨rfl,⟨Ī,φ⟩,rfl,List.nodup_nil,φ,λk=>by rw[B9 λp hp=>by cases hp];rfl,AE,AE,[],h,å _ _ _ _,(λg hg=>by cases hg),å _ _ _ _,(λg hg=>by cases hg),trivial⟩
theorem RO.null(hro:RO F w v d):∃b kd,v=PtB b/\b<w.1.size/\CeB w b 0=some (.string ⟨kd.toArray⟩)/\(kd==[110,117,108,108])=tJ d:=by
 obtain⟨b,rfl,hb,h⟩:=hro.cases;rcases h with⟨k,hk,rfl,h⟩|⟨n,rfl,_,h⟩|⟨s,rfl,h⟩|⟨ds,sl,ps,rfl,h,_⟩|⟨f,es,E,rfl,h⟩
 .exact⟨b,_,rfl,h.lt,h.c0,by match k,hk with
   |0,_=>rfl
   |1,_=>rfl
   |2,_=>rfl⟩
 .exact⟨b,_,rfl,h.lt,h.c0,rfl⟩
 .exact⟨b,_,rfl,h.lt,h.c0,rfl⟩
 .exact⟨b,_,rfl,h.lt,h.c0,rfl⟩
 .obtain⟨_,_,_,_,_,_,_,_,_,h,_⟩:=h;exact⟨b,_,rfl,h.lt,h.c0,rfl⟩
theorem Fs.bel{w':World}{e:Ending}(h:Fs F w r e)(hb:Bl w w'):Fs F w' r e:=by
 cases r with
 |none=>exact h
 |some y=>obtain⟨b,h1,h2,h3⟩:=h;exact⟨b,h1,Õ h2 hb.size,h3.bel hb⟩
theorem Fs.opt{e:Ending}(h:Fs F w r e):∃pa,e=.returned (.pointer pa)/\Fs F w r (.returned (.pointer pa)):=by
 cases r with
 |none=>exact⟨none,h,rfl⟩
 |some y=>obtain⟨b,rfl,h2,h3⟩:=h;exact⟨_,rfl,b,rfl,h2,h3⟩
theorem Fs.two{pa:Option Addr}(h:Fs F w r (.returned (.pointer pa))):(r=none/\pa=none)\/∃y,r=some y/\RO F w (.pointer pa) y:=by
 cases r with
 |none=>refine Å ⟨rfl,?_⟩;injection h with h;injection h
 |some y=>obtain⟨b,h1,h2,h3⟩:=h;injection h1 with h1;exact À ⟨y,rfl,h1▸h3⟩
theorem gB{vv:Option Addr}{kd:By}{b:Nat}(c0:CeB w b 0=some (.string ⟨kd.toArray⟩))(hk:(kd==[111,98,106,101,99,116])=false):
  Calls Tryz.prog 71 #[.pointer vv,PtB b] w λe w'=>e=.returned (PtB b)/\w'=w:=by
 have hk2:(kd != [111,98,106,101,99,116])=true:=by simpa using hk
 go_enter func71,ntmps71;go_wp2;go_ret;exact⟨rfl,rfl⟩
theorem lH{es:Ms}(hnd:(es.map (·.1)).Nodup){j:Nat}(hj:j<es.length):qU es[j].1 es=some es[j].2:=by
 cases hm:qU es[j].1 es with
 |none=>exact absurd rfl (GE hm es[j] (Ó hj))
 |some y=>
  obtain⟨i,hi,e⟩:=ù (Cf hm);have h1:(es.map (·.1))[i]'(by simpa using hi)=(es.map (·.1))[j]'(by simpa using hj):=by simp[e]
  have h2:=(List.getElem_inj hnd).1 h1;subst h2;rw[e]
theorem SH{m:Option pL->List By->pL->pL×List pW}{E0 E':List (Lit×pL)}{ks:List By}{j:Nat}{kj:By}{c:Option pL}(hj:j<ks.length)(hk:ks[j]=kj)(h:∀k:By,Aq E (.string k)=Ld m s E0 P (ks.take j) k)(h':∀k:By,Aq E' (.string k)=if k=kj then c else Aq E (.string k))(hc:c=H8 m s E0 P kj):∀k:By,Aq E' (.string k)=Ld m s E0 P (ks.take (j+1)) k:=λk=>by
 rw[h',h];unfold Ld;rw[Í hj,hk];by_cases e:k=kj
 .subst e;simp[hc]
 .simp[e]
theorem RO.robj(h:RO F w v (.map E)):∃b f es,v=PtB b/\ROb F w b f es E:=by
 obtain⟨b,rfl,_,h3⟩:=h.three;rcases h3 with⟨kd,ng,ds,x,s,_,_,_,hl⟩|⟨ds,sl,ps,e,_⟩|⟨f,es,E',e,hob⟩
 .exact absurd rfl (hl.2 _)
 .cases e
 .cases e;exact⟨b,f,es,rfl,hob⟩
def MI(F:Nat->Prop)(m:Option pL->List By->pL->pL×List pW)(s:List By)(E0 P:List (Lit×pL))(ks:List By)(w wr:World)(po:Option Addr)(E:List (Lit×pL))(j:Nat):Prop:=
 RO F wr (.pointer po) (.map E)/\AQ E/\(∀k,Aq E (.string k)=Ld m s E0 P (ks.take j) k)/\E.length<=E0.length+j/\Bl w wr
theorem lI(ih:mY D x g){vv:Option Addr}{vo:Option pL}{lv:Int}{b fp:Nat}{q7:Ms}(zx:(vo=none/\vv=none)\/∃v,vo=some v/\RO F w (.pointer vv) v/\Sz 400000 v)(h:ROb F w b fp q7 P)(hg:pU D x (g+1) lv (.map P))(hs:Sz 400000 (.map P))(hF:∀k,w.1.size<=k->F k):
  Calls Tryz.prog 71 #[.pointer vv,.pointer (some ⟨b,0,none⟩)] w λe w'=>Lw F (qQ (g+1) vo s (.map P)).1 e w'/\Bl w w':=by
 obtain⟨h1,h2,h3,h4,h5,h6,kl,sl,ps,a1,a2,a3,a4,a5,a6⟩:=h;obtain⟨W1,z4⟩:∃W1,W1=w.alloc (.cells #[.string ⟨#[111,98,106,101,99,116]⟩,.bool false,.string ⟨#[]⟩,.int .i64 0,.string ⟨#[]⟩,.slice none 0 0,.slice none 0 0] 91):=⟨_,rfl⟩
 have hb1:Bl w W1:=by rw[z4];exact(Â _ _).alloc (Á _) _
 have z0:OB W1 w.1.size sC false [] 0 [] AE AE:=by rw[z4];exact Ax _ _ _ rfl
 have qe:RO F W1 (.pointer (some ⟨w.1.size,0,none⟩)) (.map []):=(fB z0).ro (hF _ (Á _));have zu:ps.length=q7.length:=by have:=a6.length;simpa using this
 have zv:P.length<=400000:=by have:=hs.few;simpa[AW]using this
 obtain⟨n,hn⟩:∃n,n=q7.length:=⟨_,rfl⟩
 obtain⟨gk,ck,ak,rfl,j0,jf,yf,yd⟩:=B0 a2;obtain⟨gv,cv,av,rfl,j3,jg,yg,ye⟩:=B0 a4;have c0:=a1.c0;rw[J8]at c0;have c5:=a1.c5;have c6:=a1.c6;rw[<-hn]at c5 j0;rw[zu,<-hn]at c6 j3;have z5:=a1.lt;obtain⟨po,E0,bb,zm,z3,qk,hl0,qo,qf⟩:∃(po:Option Addr) (E0:List (Lit×pL)) (bb:Bool),E0=IZ vo/\RO F W1 (.pointer po) (.map E0)/\AQ E0/\E0.length<=400000/\
   ((bb=false/\po=some ⟨w.1.size,0,none⟩)\/(bb=true/\po=vv))/\((vv=none/\bb=false)\/∃bv kd,vv=some ⟨bv,0,none⟩/\W1.cell? ⟨bv,0,none⟩=some (.string ⟨Array.mk kd⟩)/\(kd==[111,98,106,101,99,116])=bb):=by
  rcases zx with⟨rfl,rfl⟩|⟨v,rfl,hv,zw⟩
  .exact⟨_,[],_,rfl,qe,⟨Ī,φ⟩,φ,Å ⟨rfl,rfl⟩,Å ⟨rfl,rfl⟩⟩
  .obtain⟨bv,zq,ja,j5⟩:=hv.three;injection zq with zq;subst zq;rcases j5 with⟨kd,ng,ds,x,s,hob,_,hk,hl⟩|⟨ds,sl,ps,rfl,hob,_⟩|⟨f,es,E,rfl,hob⟩
   .have e:IZ (some v)=[]:=by
     unfold IZ;split
     .rename_i e;injection e with e;exact absurd e (hl.2 _)
     .rfl
    exact⟨_,[],_,e.symm,qe,⟨Ī,φ⟩,φ,Å ⟨rfl,rfl⟩,À ⟨bv,kd,rfl,(hb1.cell (p:=⟨bv,0,none⟩) hob.lt).trans hob.c0,hk⟩⟩
   .exact⟨_,[],_,rfl,qe,⟨Ī,φ⟩,φ,Å ⟨rfl,rfl⟩,À ⟨bv,_,rfl,(hb1.cell (p:=⟨bv,0,none⟩) hob.lt).trans hob.c0,rfl⟩⟩
   .have zr:=zw.few;obtain⟨q1,q2,q3,q4,q5,q6,jj,jl,jk,ob,_⟩:=id hob;exact⟨_,E,_,rfl,hv.bel hb1,q2,by simpa[AW]using zr,À ⟨rfl,rfl⟩,À ⟨bv,_,rfl,(hb1.cell (p:=⟨bv,0,none⟩) ob.lt).trans ob.c0,rfl⟩⟩
 have yw:Hid (∀(k:By) y,Aq E0 (.string k)=some y->Sz 400000 y):=Ab λk y h=>by
  rw[zm]at h;rcases zx with⟨rfl,_⟩|⟨v,rfl,_,zw⟩
  .cases h
  .unfold IZ at h;split at h
   .rename_i es e;injection e with e;subst e;exact Mc (key:=k) zw h
   .cases h
 have HF:=Ab hF;have yt:=Ab ih;have yj:=Ab a6;have y4:=Ab h4;have yn:=Ab h5;have zz:=Ab h6;have zb:=Ab (ð hn (ð zu h3));have yp:=Ab yf;have yq:=Ab yg;have yk:=Ab yd;have yl:=Ab ye;have yo:=Ab hg;have yx:=Ab hs;have j8:=Ab hb1;have y3:=Ab (ð zm (ð qk hl0));have jh:n<=400000:=ζ;have yr:=Ab (show MI F (qQ g) s E0 P (q7.map (·.1)) w W1 po E0 0 from⟨z3,qk,λk=>by unfold Ld;simp,ζ,hb1⟩);have d0:=(hb1.cell (p:=⟨b,0,none⟩) z5).trans c0;have yv:=Ab (ð h1 h2);clear h1 h2 h3 h4 h5 h6 a1 a2 a3 a4 a5 a6 qe z0 zu zv hn yf yg yd ye hg hs zx hF ih hb1 zm qk hl0 z3;have yy:=Ab z4;clear z4;go_enter func71,ntmps71;go_upto_region 4 with(fail)
 rw[<-yy.u];go_cut [24] (λj7 wx=>j7=.bool bb/\wx=W1)
 case first=>
  rcases qf with⟨rfl,rfl⟩|⟨bv,kd,rfl,k0,hk⟩
  .go_wp2;go_meet;exact⟨rfl,rfl⟩
  .go_wp2;go_meet;exact⟨rfl,rfl⟩
 case rest=>
 obtain⟨rfl,rfl⟩:=hcut;go_upto_if 24 with(fail)
 go_cut [5] (λs5 wx=>s5=.pointer po/\wx=wc)
 case first=>
  rcases qo with⟨rfl,rfl⟩|⟨rfl,rfl⟩
  .go_wp2;go_meet;exact⟨rfl,rfl⟩
  .go_wp2;go_meet;exact⟨rfl,rfl⟩
 case rest=>
 obtain⟨rfl,rfl⟩:=hcut;clear qo qf;go_wp2;go_loopw [5,6] (λso i wr=>∃(j:Nat) (pj:Option Addr) (E:List (Lit×pL)),j<=n/\so=.pointer pj/\i=.int .i64 j/\Hid (MI F (qQ g) s E0 P (q7.map (·.1)) w wr pj E j)) (λ_ i _=>n-(intOf i).toNat)
 case atStart=>exact⟨0,_,_,ζ,rfl,rfl,yr⟩
 case round=>
  obtain⟨j,pj,E,hj,rfl,rfl,HI⟩:=hrel;obtain⟨hro,qg,qb,q8,q9⟩:=HI.u;have r5:=(q9.cell (p:=⟨b,5,none⟩) z5).trans c5;have r6:=(q9.cell (p:=⟨b,6,none⟩) z5).trans c6;by_cases hlt:j<n
  .have qw:j<q7.length:=by have:=zb.u.1;omega
   have yi:j<ps.length:=by have:=zb.u.2.1;omega
   obtain⟨rfl,qt⟩:=yp.u ζ;obtain⟨rfl,qv⟩:=yq.u ζ;have s5:=(q9.cell (p:=⟨gk,j,none⟩) qt).trans (yk.u j (by simpa using qw));have s6:=(q9.cell (p:=⟨gv,j,none⟩) qv).trans (yl.u j yi);rw[é]at s5;unfold AG at s5;have qd:RO F wr ps[j] (pO fp q7[j].2):=⟨fp,q7[j].2,(yj.u.get j yi (by simpa using qw) |> λq=>by simpa using q.below q9),yn.u _ (Ó qw),rfl⟩
   obtain⟨bo,fo,j9,qo,hob⟩:=hro.robj;injection qo with qo;subst qo;obtain⟨kj,qy⟩:∃kj,kj=q7[j].1:=⟨_,rfl⟩
   obtain⟨qj,z7⟩:∃qj,qj=pO fp q7[j].2:=⟨_,rfl⟩
   have z6:j<(q7.map (·.1)).length:=by simpa using qw
   have hkk:(q7.map (·.1))[j]=kj:=by simp[qy]
   have qh:Aq P (.string kj)=some qj:=by rw[zz.u,qy,z7,lH y4.u qw];rfl
   have qq:Aq E (.string kj)=Aq E0 (.string kj):=by
    rw[qb];unfold Ld;rw[if_neg];intro hm;obtain⟨i,hi,e⟩:=ù hm;rw[List.getElem_take,<-hkk]at e;have:=(List.getElem_inj y4.u).1 e;simp at hi;omega
   have zn:E.length<=1000000:=by have:=y3.u.2.2;omega
   rw[<-qy]at s5;rw[<-z7]at qd;obtain⟨bk,kdk,hpk,jb,ji,z1⟩:=qd.null;obtain⟨pk,qi⟩:∃pk,pk=ps[j]:=⟨_,rfl⟩
   rw[<-qi]at hpk s6 qd;subst hpk;have qr:∀k,wr.1.size<=k->F k:=λk hk=>HF.u k (by have:=q9.size;omega);cases hnn:tJ qj with
   |true=>
    rw[hnn]at z1;have HW:=Ab (LG hob qr zn kj);have zc:=Ab (SH z6 hkk qb (λk=>ET qg kj k) (c:=none) (by unfold H8;rw[qh];simp only[hnn,if_true]));have ze:=Ab (DT (k:=.string kj) qg);have za:=Ab (Ã (Zu (.string kj) E) q8);have qm:=Ab q9;clear hro qg qb q8 q9 qd hob qy z7 z6 hkk qh qq hnn qr qi;go_wp2_with fail;refine HW.u.mono ?_;rintro e w4⟨⟨p4,rfl,z2⟩,hb4⟩;have z9:=Ab (show MI F (qQ g) s E0 P (q7.map (·.1)) w w4 p4 _ (j+1)from⟨z2,ze.u,zc.u,Nat.le_succ_of_le za.u,qm.u.trans (hb4.mono qm.u.size)⟩);clear z2 hb4;go_wp2;exact⟨⟨j+1,p4,_,ζ,rfl,ψ,z9⟩,by simp only[intOf];omega⟩
   |false=>
    rw[hnn]at z1;have zc:=Ab (λz (hz:z=(qQ g (Aq E (.string kj)) (s++[kj]) qj).1)=>SH z6 hkk qb (λk=>CO qg kj k z) (c:=some z) (by unfold H8;rw[qh,hz,qq];simp only[hnn];rfl));have ze:=Ab (λz=>BP (k:=kj) (c:=z) qg);have za:=Ab (λz=>Ã (Zr (.string kj) z E) (ŏ q8));have ym:=Ab (ð zn qq);have qm:=Ab q9;have y5:=Ab (ð hro (ð hob qd));have yu:=Ab (ð qh qr);have HZ:Hid (∀w1 pa,Bl wr w1->Fs F w1 (Aq E (.string kj)) (.returned (.pointer pa))->Calls Tryz.prog 71 #[.pointer pa,.pointer (some ⟨bk,0,none⟩)] w1 λe w'=>Lw F (qQ g (Aq E (.string kj)) (s++[kj]) qj).1 e w'/\Bl w1 w'):=Ab λw1 pa hb hg=>by
     obtain⟨je,qz⟩:=GO yo.u;refine yt.u F w1 pa _ _ qj (lv+1) _ ?_ (qd.bel hb) (qz.2 _ (MZ qz.skey qh)).2 (Mc (key:=kj) yx.u qh) λk hk=>qr k (by have:=hb.size;omega);rcases hg.two with h|⟨y,h1,h2⟩
     .exact Å h
     .exact À ⟨y,h1,h2,yw.u kj y (qq.symm.trans h1)⟩
    have zo:b<wr.1.size:=Õ z5 q9.size;have qu:gk<wr.1.size:=Õ qt q9.size;have zt:gv<wr.1.size:=Õ qv q9.size;clear hro qg qb q8 q9 qd hob qy z7 z6 hkk qh qq hnn qr qi zn;go_upto_region 11 with(fail)
    refine wp_region_any δ ?_;refine Vn 8 16 18 (λL x y=>{tmps:=#[.pointer vv,.pointer (some ⟨b,0,none⟩),undef,undef,.pointer none,.pointer (some ⟨bo,0,none⟩),.int .i64 ↑j,cond (L 17) (y) u7,u8,u9,u10,u11,u12,u13,u14,u15,u16,u17,u18,u19,u20,u21,u22,u23,u24,u25,.int .i64 ↑j,.pointer (some ⟨b,0,none⟩),.pointer (some ⟨b,0,none⟩),.pointer (some ⟨b,5,none⟩),.slice (some ⟨gk,0,none⟩) n ck,.int .i64 ↑n,.bool true,u33,u34,.pointer (some ⟨b,0,none⟩),.pointer (some ⟨b,0,none⟩),.pointer (some ⟨b,6,none⟩),.slice (some ⟨gv,0,none⟩) n cv,.int .i64 ↑j,.pointer (some ⟨gv,j,none⟩),.pointer (some ⟨bk,0,none⟩),.pointer (some ⟨bk,0,none⟩),.pointer (some ⟨bk,0,none⟩),.string ⟨kdk.toArray⟩,.bool false,u46,u47,u48,u49,u50,u51,u52,u53,u54,cond (L 0) (.pointer (some ⟨bo,0,none⟩)) u55,cond (L 1) (.pointer (some ⟨b,0,none⟩)) u56,cond (L 2) (.pointer (some ⟨b,0,none⟩)) u57,cond (L 3) (.pointer (some ⟨b,5,none⟩)) u58,cond (L 4) (.slice (some ⟨gk,0,none⟩) n ck) u59,cond (L 5) (.int .i64 j) u60,cond (L 6) (.pointer (some ⟨gk,j,none⟩)) u61,cond (L 7) (.string ⟨kj.toArray⟩) u62,cond (L 8) (x) u63,cond (L 9) (.pointer (some ⟨b,0,none⟩)) u64,cond (L 10) (.pointer (some ⟨b,0,none⟩)) u65,cond (L 11) (.pointer (some ⟨b,6,none⟩)) u66,cond (L 12) (.slice (some ⟨gv,0,none⟩) n cv) u67,cond (L 13) (.int .i64 j) u68,cond (L 14) (.pointer (some ⟨gv,j,none⟩)) u69,cond (L 15) (.pointer (some ⟨bk,0,none⟩)) u70,cond (L 16) (y) u71,u72,u73,u74,u75,u76,u77,u78,u79,u80,u81,u82],defers:=[] }) (λx w=>∃pa,x=.pointer pa/\Fs F w (Aq E (.string kj)) (.returned (.pointer pa))) (λy w=>∃pz,y=.pointer pz/\RO F w (.pointer pz) (qQ g (Aq E (.string kj)) (s++[kj]) qj).1/\Bl wr w) wr θ η δ ?hR ?hp ?hb ?hz ?he undef undef _ ⟨rfl,rfl,rfl,Á _,λ_ _=>rfl⟩
    case hR=>
     rintro x w w' ⟨pa,rfl,h⟩hb;exact⟨pa,rfl,h.bel hb⟩
    case hp=>
     intro L x y w1 i o hi jc jd ⟨ho,hno,haft,hcl⟩ hI K hK;have hcase:i=0\/i=1\/i=2\/i=3\/i=4\/i=5\/i=6\/i=7\/i=9\/i=10\/i=11\/i=12\/i=13\/i=14\/i=15\/i=17:=ζ;rcases hcase with rfl|rfl|rfl|rfl|rfl|rfl|rfl|rfl|rfl|rfl|rfl|rfl|rfl|rfl|rfl|rfl;all_goals obtain rfl:=Î ho
     .refine ç rfl λK' q0=>?_;simp(decide:=true)only[upd,hno,cond_true,cond_false,if_true,if_false]at hK |-;go_simp;exact q0 _ _ (hK _ (λ_=>Â _ _) λ_=>rfl)
     .refine ç rfl λK' q0=>?_;simp(decide:=true)only[upd,hno,cond_true,cond_false,if_true,if_false]at hK |-;go_simp;exact q0 _ _ (hK _ (λ_=>Â _ _) λ_=>rfl)
     .have a1:=haft ⟨1,.data⟩ φ rfl;refine ç rfl λK' q0=>?_;simp(decide:=true)only[upd,a1,hno,cond_true,cond_false,if_true,if_false]at hK |-;go_simp;exact q0 _ _ (hK _ (λ_=>Â _ _) λ_=>rfl)
     .have a2:=haft ⟨2,.data⟩ φ rfl;refine ç rfl λK' q0=>?_;simp(decide:=true)only[upd,a2,hno,cond_true,cond_false,if_true,if_false]at hK |-;go_simp;exact q0 _ _ (hK _ (λ_=>Â _ _) λ_=>rfl)
     .have a3:=haft ⟨3,.data⟩ φ rfl;have nl:L 16=false:=by
       cases h:L 16
       .rfl
       .have h0:=hcl 16 _ rfl h ⟨8,.data⟩ φ rfl;have h1:=hcl 8 _ rfl h0 ⟨7,.data⟩ φ rfl;have h2:=hcl 7 _ rfl h1 ⟨6,.data⟩ φ rfl;have h3:=hcl 6 _ rfl h2 ⟨4,.data⟩ φ rfl;exact absurd (h3.symm.trans hno) η
      have hb:=(hI.1 nl).1;have v1:=(hb.cell (p:=⟨b,5,none⟩) zo).trans r5;refine ç rfl λK' q0=>?_;simp(decide:=true)only[upd,a3,hno,nl,cond_true,cond_false,if_true,if_false]at hK |-;go_simp;exact q0 _ _ (hK _ (λ_=>Â _ _) λ_=>rfl)
     .refine ç rfl λK' q0=>?_;simp(decide:=true)only[upd,hno,cond_true,cond_false,if_true,if_false]at hK |-;go_simp;exact q0 _ _ (hK _ (λ_=>Â _ _) λ_=>rfl)
     .have a4:=haft ⟨4,.data⟩ φ rfl;have a5:=haft ⟨5,.data⟩ φ rfl;refine ç rfl λK' q0=>?_;simp(decide:=true)only[upd,a4,a5,hno,cond_true,cond_false,if_true,if_false]at hK |-;go_simp;exact q0 _ _ (hK _ (λ_=>Â _ _) λ_=>rfl)
     .have a6:=haft ⟨6,.data⟩ φ rfl;have nl:L 16=false:=by
       cases h:L 16
       .rfl
       .have h0:=hcl 16 _ rfl h ⟨8,.data⟩ φ rfl;have h1:=hcl 8 _ rfl h0 ⟨7,.data⟩ φ rfl;exact absurd (h1.symm.trans hno) η
      have hb:=(hI.1 nl).1;have v2:=(hb.cell (p:=⟨gk,j,none⟩) qu).trans s5;refine ç rfl λK' q0=>?_;simp(decide:=true)only[upd,a6,hno,nl,cond_true,cond_false,if_true,if_false]at hK |-;go_simp;exact q0 _ _ (hK _ (λ_=>Â _ _) λ_=>rfl)
     .refine ç rfl λK' q0=>?_;simp(decide:=true)only[upd,hno,cond_true,cond_false,if_true,if_false]at hK |-;go_simp;exact q0 _ _ (hK _ (λ_=>Â _ _) λ_=>rfl)
     .have a9:=haft ⟨9,.data⟩ φ rfl;refine ç rfl λK' q0=>?_;simp(decide:=true)only[upd,a9,hno,cond_true,cond_false,if_true,if_false]at hK |-;go_simp;exact q0 _ _ (hK _ (λ_=>Â _ _) λ_=>rfl)
     .have zf:=haft ⟨10,.data⟩ φ rfl;refine ç rfl λK' q0=>?_;simp(decide:=true)only[upd,zf,hno,cond_true,cond_false,if_true,if_false]at hK |-;go_simp;exact q0 _ _ (hK _ (λ_=>Â _ _) λ_=>rfl)
     .have zg:=haft ⟨11,.data⟩ φ rfl;have nl:L 16=false:=by
       cases h:L 16
       .rfl
       .have h0:=hcl 16 _ rfl h ⟨15,.data⟩ φ rfl;have h1:=hcl 15 _ rfl h0 ⟨14,.data⟩ φ rfl;have h2:=hcl 14 _ rfl h1 ⟨12,.data⟩ φ rfl;exact absurd (h2.symm.trans hno) η
      have hb:=(hI.1 nl).1;have v3:=(hb.cell (p:=⟨b,6,none⟩) zo).trans r6;refine ç rfl λK' q0=>?_;simp(decide:=true)only[upd,zg,hno,nl,cond_true,cond_false,if_true,if_false]at hK |-;go_simp;exact q0 _ _ (hK _ (λ_=>Â _ _) λ_=>rfl)
     .refine ç rfl λK' q0=>?_;simp(decide:=true)only[upd,hno,cond_true,cond_false,if_true,if_false]at hK |-;go_simp;exact q0 _ _ (hK _ (λ_=>Â _ _) λ_=>rfl)
     .have zh:=haft ⟨12,.data⟩ φ rfl;have zi:=haft ⟨13,.data⟩ φ rfl;refine ç rfl λK' q0=>?_;simp(decide:=true)only[upd,zh,zi,hno,cond_true,cond_false,if_true,if_false]at hK |-;go_simp;exact q0 _ _ (hK _ (λ_=>Â _ _) λ_=>rfl)
     .have zj:=haft ⟨14,.data⟩ φ rfl;have nl:L 16=false:=by
       cases h:L 16
       .rfl
       .have h0:=hcl 16 _ rfl h ⟨15,.data⟩ φ rfl;exact absurd (h0.symm.trans hno) η
      have hb:=(hI.1 nl).1;have v4:=(hb.cell (p:=⟨gv,j,none⟩) zt).trans s6;refine ç rfl λK' q0=>?_;simp(decide:=true)only[upd,zj,hno,nl,cond_true,cond_false,if_true,if_false]at hK |-;go_simp;exact q0 _ _ (hK _ (λ_=>Â _ _) λ_=>rfl)
     .have a0:=haft ⟨0,.phase⟩ φ rfl;have a1:=haft ⟨1,.phase⟩ φ rfl;have a2:=haft ⟨2,.phase⟩ φ rfl;have a3:=haft ⟨3,.phase⟩ φ rfl;have a4:=haft ⟨4,.phase⟩ φ rfl;have a5:=haft ⟨5,.phase⟩ φ rfl;have a6:=haft ⟨6,.phase⟩ φ rfl;have a7:=haft ⟨7,.phase⟩ φ rfl;have a8:=haft ⟨8,.phase⟩ φ rfl;have a9:=haft ⟨9,.phase⟩ φ rfl;have zf:=haft ⟨10,.phase⟩ φ rfl;have zg:=haft ⟨11,.phase⟩ φ rfl;have zh:=haft ⟨12,.phase⟩ φ rfl;have zi:=haft ⟨13,.phase⟩ φ rfl;have zj:=haft ⟨14,.phase⟩ φ rfl;have zk:=haft ⟨15,.phase⟩ φ rfl;have yz:=haft ⟨16,.data⟩ φ rfl;refine ç rfl λK' q0=>?_;simp(decide:=true)only[upd,a0,a1,a2,a3,a4,a5,a6,a7,a8,a9,zf,zg,zh,zi,zj,zk,yz,hno,cond_true,cond_false,if_true,if_false]at hK |-;go_simp;exact q0 _ _ (hK _ (λ_=>Â _ _) λ_=>rfl)
    case hb=>
     intro L x y w1 o ⟨ho,hno,haft,hcl⟩ hI K hK;obtain rfl:=Î ho;have a0:=haft ⟨0,.data⟩ φ rfl;have a7:=haft ⟨7,.data⟩ φ rfl;have nl:L 16=false:=by
      cases h:L 16
      .rfl
      .have h0:=hcl 16 _ rfl h ⟨8,.data⟩ φ rfl;exact absurd (h0.symm.trans hno) η
     have hb:=(hI.1 nl).1;refine ç rfl λK' q0=>?_;simp(decide:=true)only[upd,a0,a7,hno,nl,cond_true,cond_false,if_true,if_false]at hK |-;go_simp;refine(PZ (y5.u.1.bel hb) kj).mono ?_;rintro e wn⟨j4,rfl⟩;obtain⟨pa,rfl,hg⟩:=j4.opt;show K' _ _;exact q0 _ _ (hK _ _ (λ_=>⟨Â _ _,⟨pa,rfl,hg⟩⟩) λh=>by first|exact h.elim|(rw[nl]at h;cases h))
    case hz=>
     intro L x y w1 o ⟨ho,hno,haft,hcl⟩ hI K hK;obtain rfl:=Î ho;have a8:=haft ⟨8,.data⟩ φ rfl;have zk:=haft ⟨15,.data⟩ φ rfl;have hb:=(hI.1 hno).1;have hx:=(hI.1 hno).2 a8;have j6:L 17=false:=by
      cases h:L 17
      .rfl
      .exact absurd ((hcl 17 _ rfl h ⟨16,.data⟩ φ rfl).symm.trans hno) η
     obtain⟨pa,rfl,hg⟩:=hx;refine ç rfl λK' q0=>?_;simp(decide:=true)only[upd,a8,zk,hno,j6,cond_true,cond_false,if_true,if_false]at hK |-;go_simp;refine(HZ.u w1 pa hb hg).mono ?_;rintro e wn⟨⟨pz,rfl,hz⟩,hb2⟩;show K' _ _;exact q0 _ _ (hK _ _ ⟨pz,rfl,hz,hb.trans (hb2.mono hb.size)⟩)
    case he=>
     intro L x y w1 hL hI;have h0:=hL 0 η;have h1:=hL 1 η;have h2:=hL 2 η;have h3:=hL 3 η;have h4:=hL 4 η;have h5:=hL 5 η;have h6:=hL 6 η;have h7:=hL 7 η;have h8:=hL 8 η;have h9:=hL 9 η;have y6:=hL 10 η;have y7:=hL 11 η;have y8:=hL 12 η;have y9:=hL 13 η;have ya:=hL 14 η;have yb:=hL 15 η;have zl:=hL 16 η;have yc:=hL 17 η;have hy:=hI.2 zl;simp only[h0,h1,h2,h3,h4,h5,h6,h7,h8,h9,y6,y7,y8,y9,ya,yb,zl,yc,cond_true];clear hL hI h0 h1 h2 h3 h4 h5 h6 h7 h8 h9 y6 y7 y8 y9 ya yb zl yc;obtain⟨pz,rfl,hz,qn⟩:=hy;have HW:=Ab (MJ (y5.u.2.1.bel qn) hz (λk hk=>yu.u.2 k (by have:=qn.size;omega)) ym.u.1 kj);have zy:=Ab qn;have t5:=(qn.cell (p:=⟨b,5,none⟩) zo).trans r5;have t6:=(qn.cell (p:=⟨gk,j,none⟩) qu).trans s5;clear hz qn;go_wp2_with fail;refine HW.u.mono ?_;rintro e w4⟨⟨p4,rfl,z2⟩,hb4⟩;have z9:=Ab (show MI F (qQ g) s E0 P (q7.map (·.1)) w w4 p4 _ (j+1)from⟨z2,ze.u _,zc.u _ rfl,za.u _,(qm.u.trans (zy.u.mono qm.u.size)).trans (hb4.mono (Ã qm.u.size zy.u.size))⟩);clear z2 hb4;go_wp2;exact⟨⟨j+1,p4,_,ζ,rfl,ψ,z9⟩,by simp only[intOf];omega⟩
  .have yh:(q7.map (·.1)).take j=q7.map (·.1):=Ï (by have:=zb.u.1;simp;omega);have z8:=Ab (show(qQ (g+1) vo s (.map P)).1=.map E from by
    have h0:=y3.u;refine fU yv.u.2 (h0.1▸h0.2.1) qg λk=>?_;rw[qb,yh,<-h0.1];unfold Ld;by_cases hk:k∈q7.map (·.1)
    .rw[if_pos hk]
    .rw[if_neg hk];have hno:Aq P (.string k)=none:=by
      rw[zz.u];cases hm:qU k q7 with
      |none=>rfl
      |some y=>exact absurd (Ò.2 ⟨_,Cf hm,rfl⟩) hk
     unfold H8;rw[hno])
   have HR:=Ab (ð hro q9);clear hro qg qb q8 q9 yh;go_wp2;go_ret;exact⟨⟨_,rfl,by rw[z8.u];exact HR.u.1⟩,HR.u.2⟩
theorem WF:∀g:Nat,mY D x g
 |0=>λ_ _ _ _ _ _ _ _ _ _ hg=>hg.elim
 |g+1=>λF w vv pv vo p lv s q4 hp hg hs hF=>by
  obtain⟨b,rfl,q5,h3⟩:=hp.three;have q0:∀kd:By,CeB w b 0=some (.string ⟨kd.toArray⟩)->(kd==[111,98,106,101,99,116])=false->Eh p=false->Calls Tryz.prog 71 #[.pointer vv,PtB b] w λe w'=>Lw F (qQ (g+1) vo s p).1 e w'/\Bl w w':=λkd hc hk ho=>by
   refine(gB hc hk).mono ?_;rintro e w2⟨rfl,rfl⟩;refine⟨⟨_,rfl,?_⟩,Â _ _⟩;rw[Lc (À ho)];cases p with
   |map es=>cases ho
   |_=>exact hp
  rcases h3 with⟨kd,ng,ds,x,s,hob,_,hk,hl⟩|⟨ds,sl,ps,rfl,hob,_⟩|⟨f,es,E,rfl,hob⟩
  .refine q0 kd hob.c0 hk ?_;cases p with
   |map es=>exact absurd rfl (hl.2 es)
   |_=>rfl
  .exact q0 _ hob.c0 rfl rfl
  .exact lI (WF g) q4 hob hg hs hF
end
