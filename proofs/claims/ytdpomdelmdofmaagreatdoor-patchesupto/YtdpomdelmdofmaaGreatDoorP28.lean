import Derived.Test.YtdpomdelmdofmaaGreatDoorP24
open Go.Value renaming oneCell'->AI
set_option maxRecDepth 100000
set_option maxHeartbeats 32000000
namespace Go.Proofs.YtdpomdelmdofmaaGreatDoor
open Go.Proofs.Tryz Go.RowKit
theorem YB{es:Ms}{j:Nat}(hj:j<es.length)(k:By):(es.take (j+1)).any (λp=>p.1==k)=((es.take j).any (λp=>p.1==k) || es[j].1==k):=by
 rw[Í hj,List.any_append];simp
theorem VZ{f b:Nat}{F:Nat->Prop}{w:World}{kl sl u:Value}{es:Ms}{ps:List Value}{y:O}(h:OB w b sC false [] 0 [] kl sl)(hk:w.ownsRow 0 9 1 kl es.length (es.map λp=>AG p.1))(hv:w.ownsRow 0 66 1 sl ps.length ps)(hal:Al (Ar f F w) ps (es.map (·.2)))
  (hF:∀k,w.1.size<=k->F k) (hn:es.length<=1000000) (key:By) (hu:Ar f F w u y):
  Calls Tryz.prog 98 #[.pointer (some ⟨b,0,none⟩),.string ⟨key.toArray⟩,u] w λe w'=>∃p,e=.returned (.pointer p)/\Ar (f+1) F w' (.pointer p) (qF (uC es key y))/\Bl w w':=by
 obtain⟨i0,qy,hz0,z3,hz2⟩:=ę L7;obtain⟨j0,zc,zj,zk,zl⟩:=ę OU;have z1:ps.length=es.length:=by have:=hal.length;grind
 obtain⟨n,hnn⟩:∃n,n=es.length:=⟨_,rfl⟩
 have y3:=h.lt;have qv:=h.c5;have zb:=h.c6;obtain⟨A,hA⟩:∃A,A=w.1.size:=⟨_,rfl⟩
 have z8:CC A w (w.alloc (.cells #[.string ⟨#[111,98,106,101,99,116]⟩,.bool false,.string ⟨#[]⟩,.int .i64 0,.string ⟨#[]⟩,.slice none 0 0,.slice none 0 0] 91)) [] [] AE AE:=by
  subst hA;exact⟨Ax _ _ _ rfl,å _ _ _ _,å _ _ _ _,(λg hg=>by cases hg),(Â _ _).alloc (Á _) _,φ⟩
 obtain⟨bu,rfl,_⟩:=hu.ptr;obtain⟨xu,zi⟩:∃xu:Option Addr,xu=some ⟨bu,0,none⟩:=⟨_,rfl⟩
 unfold PtB at hu |-;rw[<-zi]at hu |-;clear zi;have qd:Hid (∀W qb sl' (tb:Bool) p,tb=es.any (λp=>p.1==key)->CC A w W ((es.map λp=>AG p.1)++cond tb [] [AG key]) ((Fd key (.pointer xu) (zs es ps)).map (·.2)++cond tb [] [.pointer xu]) qb sl'->p=some ⟨A,0,none⟩->Ar (f+1) F W (.pointer p) (qF (uC es key y))):=by
  intro W qb sl' tb p zh hI hp;subst hp;obtain⟨h1,h2⟩:=X6 (k:=key) hu hal;have hm:∀{v o},Ar f F w v o->Ar f F W v o:=λq=>Ar.move (λk q1 q2=>⟨hI.bel.block k ζ,q1⟩) q;have zu:((es.map λp=>AG p.1)++cond tb [] [AG key])=(uC es key y).map λp=>AG p.1:=by
   unfold uC;rw[ă,Ý,<-zh];congr 1
   .refine ä λp _=>?_;grind
   grind
  have hok:=hI.ok;rw[zu]at hok;refine⟨A,rfl,hF _ ζ,À (À (À (À ⟨_,qb,sl',_,rfl,hI.ob,?_,?_,PA hI.ov,?_,?_⟩)))⟩
  .have:=PA hok;grind
  .intro g hg;exact hF g (by have:=(Af hI.ok g hg).2;omega)
  .intro g hg;exact hF g (by have:=(Af hI.ov g hg).2;omega)
  .unfold uC;rw[<-zh,ă];cases tb with
   |true=>simpa using h1.mono λ_ _ q=>hm q
   |false=>exact Al.snoc (hm hu) (h1.mono λ_ _ q=>hm q)
 obtain⟨g1,p1,a1,rfl,zw,y6,qw,z9⟩:=B0 hk;obtain⟨g2,p2,a2,rfl,zx,y7,hg2,za⟩:=B0 hv;rw[<-hnn]at qv zw;rw[z1,<-hnn]at zb zx;have HP:=Ab (show∀p∈ps,∃x,p=.pointer x from λp hp=>by
  obtain⟨k,hk,rfl⟩:=ù hp;obtain⟨b',e,_⟩:=(hal.get k hk ε).ptr;grind)
 have HN:=Ab hnn;have qq:=Ab z1;have zr:=Ab z8;have zo:=Ab qw;have zq:=Ab hg2;have zm:=Ab z9;have zn:=Ab za;have HA:=Ab hA;have y4:n<=1000000:=ζ;clear h hk hv hal hu hF z8 qw hg2 z9 za hnn z1 hn hA;go_enter func98,ntmps98;go_wp2_with fail;rw[<-HA.u];go_loopw [8,9] (λth i wr=>∃(j:Nat) (qb sl':Value),j<=n/\i=.int .i64 j/\th=.bool ((es.take j).any λp=>p.1==key)/\CC A w wr ((es.take j).map λp=>AG p.1) ((Fd key (.pointer xu) ((zs es ps).take j)).map (·.2)) qb sl') (λ_ i _=>n-(intOf i).toNat)
 case atStart=>exact⟨0,_,_,ζ,rfl,rfl,zr.u⟩
 case round=>
  obtain⟨j,qb,sl',hj,rfl,rfl,hI⟩:=hrel;have HI:=Ab hI;have y5:=hI.sz;have r5:=Ez hI.bel b 5 (by have:=HA.u;omega) qv;clear hI;by_cases hlt:j<n
  .have qz:j<es.length:=by have:=HN.u;omega
   have ze:j<ps.length:=by have:=qq.u;omega
   obtain⟨rfl,qw⟩:=zo.u ζ;obtain⟨rfl,hg2⟩:=zq.u ζ;have qh:=Ab (zm.u j ε);have z4:=Ab (zn.u j ze);rw[é]at qh;unfold AG at qh;have HZ:=Ab (cU qq.u qz);have qr:=Ab (YB qz key);have qt:=Ab (show(es.take (j+1)).map (λp=>AG p.1)=(es.take j).map (λp=>AG p.1)++[AG es[j].1] by rw[Í qz,ă];rfl);obtain⟨kj,zg⟩:∃kj,kj=es[j].1:=⟨_,rfl⟩
   obtain⟨pj,z2⟩:∃pj,pj=ps[j]:=⟨_,rfl⟩
   rw[<-zg]at qh HZ qr qt;rw[<-z2]at z4 HZ;obtain⟨xj,rfl⟩:∃xj,pj=.pointer xj:=by rw[z2];exact HP.u _ (Ó ze)
   clear zg z2;obtain⟨ks,qf⟩:∃ks,ks=(es.take j).map λp=>AG p.1:=⟨_,rfl⟩
   obtain⟨vs,qg⟩:∃vs,vs=(Fd key (.pointer xu) ((zs es ps).take j)).map (·.2):=⟨_,rfl⟩
   obtain⟨tj,qi⟩:∃tj,tj=(es.take j).any λp=>p.1==key:=⟨_,rfl⟩
   rw[<-qf,<-qg]at HI;rw[<-qi]at qr |-;rw[<-qf]at qt;have zv:ks.length<=j/\vs.length<=j:=by
    subst qf qg;unfold Fd;simp;omega
   have z7:=Ab qg;clear qf qg qi;have s1:=Ez HI.u.bel g1 j (by have:=HA.u;omega) qh.u;have q8:=HI.u.ok;obtain⟨n5,q5,z5,qk,qn⟩:=HI.u.a5;go_wp2_with fail;go_region_law ((refine ġ _ θ _ _ _ θ (A+1) 9 j0 _ 1 16 underlying59 zc zj zk zl rfl η qb ks.length ks θ ((q8.alloc _).drew) ⟨wr.1.size,0,none⟩ 1 1 [.string ⟨kj.toArray⟩] θ θ (Ö (cs:=#[.string ⟨kj.toArray⟩]) (t:=9) (fr:=(0,0)) (Ê wr _)) (by simp[AI]) η ζ ζ ω (wr.1.size+1) φ ?_;intro g cap w3 q4 q0 q7 hlt;have zz:w3.frozen? ⟨A,5,none⟩=false:=(q0.frozen_far ⟨A,5,none⟩ ω n5).trans (qn _);have yy:w3.cell? ⟨A,5,none⟩=some qb:=(q0.cell_far ⟨A,5,none⟩ ω n5).trans (qk _)));all_goals (
    have hK:=CC.key (x:=.string ⟨kj.toArray⟩) HI.u HA.u q4 (Ł q0.os q0.tape q0.output q0.size q0.block) q7;obtain⟨w4,qj⟩:∃w4,w4=w3.setCell ⟨A,5,none⟩ (.slice (some ⟨g,0,none⟩) (ks.length+1) cap):=⟨_,rfl⟩
    rw[<-qj]at hK |-;have HK:=Ab hK;have zy:=hK.sz;clear q4 q0 q7 hlt zz yy qk qn q5 z5 r5 s1 n5 q8 qj;have r5:=Ez hK.bel b 5 (by have:=HA.u;omega) qv;have r6:=Ez hK.bel b 6 (by have:=HA.u;omega) zb;have s1:=Ez hK.bel g1 j (by have:=HA.u;omega) qh.u;have s2:=Ez hK.bel g2 j (by have:=HA.u;omega) z4.u;have q9:=hK.ov;obtain⟨n6,q6,z6,qm,qo⟩:=hK.a6;clear hK;by_cases qe:kj=key
    .have e1:(kj==key)=true:=κ;have HE:=Ab (show(Fd key (.pointer xu) ((zs es ps).take (j+1))).map (·.2)=vs++[.pointer xu] by rw[HZ.u,z7.u];unfold Fd;simp[qe]);have qu:=Ab (show(es.take (j+1)).any (λp=>p.1==key)=true by rw[qr.u,e1];simp);clear qe;go_wp2_with (at_builtin;refine õ _ rfl _ _ _ rfl (A+1) 66 i0 _ 1 8 underlying89 qy hz0 z3 hz2 rfl η sl' vs.length vs rfl (q9.alloc _) ⟨w4.1.size,0,none⟩ 1 1 [.pointer xu] rfl rfl (Ö (cs:=#[.pointer xu]) (t:=66) (fr:=(0,0)) (Ê w4 _)) (by simp[AI]) η ζ ζ ω (w4.1.size+1) φ ?_;intro g cap w3 q4 q0 q7 hlt;have zz:w3.frozen? ⟨A,6,none⟩=false:=(q0.frozen_far ⟨A,6,none⟩ ω n6).trans (qo _);have yy:w3.cell? ⟨A,6,none⟩=some sl':=(q0.cell_far ⟨A,6,none⟩ ω n6).trans (qm _));have HV:=Ab (CC.val (x:=.pointer xu) HK.u HA.u q4 q0 q7);clear q4 q0 q7 hlt zz yy;go_wp2_with fail;exact⟨⟨j+1,_,_,ζ,ψ,by rw[qu.u],by rw[qt.u,HE.u];exact HV.u⟩,by simp only[intOf];omega⟩
    .have e1:(kj==key)=false:=κ;have HE:=Ab (show(Fd key (.pointer xu) ((zs es ps).take (j+1))).map (·.2)=vs++[.pointer xj] by rw[HZ.u,z7.u];unfold Fd;simp[qe]);have qu:=Ab (show(es.take (j+1)).any (λp=>p.1==key)=tj by rw[qr.u,e1];simp);clear qe;go_wp2_with fail;go_region_law ((refine ġ _ θ _ _ _ θ (A+1) 66 i0 _ 1 8 underlying89 qy hz0 z3 hz2 rfl η sl' vs.length vs θ ((q9.alloc _).drew) ⟨w4.1.size,0,none⟩ 1 1 [.pointer xj] θ θ (Ö (cs:=#[.pointer xj]) (t:=66) (fr:=(0,0)) (Ê w4 _)) (by simp[AI]) η ζ ζ ω (w4.1.size+1) φ ?_;intro g cap w3 q4 q0 q7 hlt;have zz:w3.frozen? ⟨A,6,none⟩=false:=(q0.frozen_far ⟨A,6,none⟩ ω n6).trans (qo _);have yy:w3.cell? ⟨A,6,none⟩=some sl':=(q0.cell_far ⟨A,6,none⟩ ω n6).trans (qm _)));all_goals (
      have HV:=Ab (CC.val (x:=.pointer xj) HK.u HA.u q4 (Ł q0.os q0.tape q0.output q0.size q0.block) q7);clear q4 q0 q7 hlt zz yy;go_wp2_with fail;exact⟨⟨j+1,_,_,ζ,ψ,by rw[qu.u],by rw[qt.u,HE.u];exact HV.u⟩,by simp only[intOf];omega⟩))
  .have z0:es.take j=es:=Ï (by have:=HN.u;omega);have zf:(zs es ps).take j=zs es ps:=Ï (by have:=HN.u;have:=qq.u;simp[zs];omega);rw[z0,zf]at HI;rw[z0];obtain⟨ks,qf⟩:∃ks,ks=es.map λp=>AG p.1:=⟨_,rfl⟩
   obtain⟨vs,qg⟩:∃vs,vs=(Fd key (.pointer xu) (zs es ps)).map (·.2):=⟨_,rfl⟩
   have zv:ks.length<=n/\vs.length<=n:=by
    have:=HN.u;have:=qq.u;subst qf qg;unfold Fd zs;simp;omega
   rw[<-qf,<-qg]at HI qd;obtain⟨tj,qi⟩:∃tj,tj=es.any λp=>p.1==key:=⟨_,rfl⟩
   rw[<-qi]at qd |-;clear z0 zf qf qg qi;cases tj with
   |true=>
    go_wp2_with fail;go_ret;exact⟨_,rfl,qd.u _ qb sl' true _ rfl (by simpa using HI.u) rfl,by have:=HI.u.bel;rwa [HA.u]at this⟩
   |false=>
    have q8:=HI.u.ok;obtain⟨n5,q5,z5,qk,qn⟩:=HI.u.a5;go_upto_region 12 with(fail)
    go_upto_region 13 with(at_builtin;refine õ _ rfl _ _ _ rfl (A+1) 9 j0 _ 1 16 underlying59 zc zj zk zl rfl η qb ks.length ks rfl (q8.alloc _) ⟨wr.1.size,0,none⟩ 1 1 [.string ⟨key.toArray⟩] rfl rfl (Ö (cs:=#[.string ⟨key.toArray⟩]) (t:=9) (fr:=(0,0)) (Ê wr _)) (by simp[AI]) η (by unfold maxLen;omega) ζ ω (wr.1.size+1) φ ?_;intro g cap w3 q4 q0 q7 hlt;have zz:w3.frozen? ⟨A,5,none⟩=false:=(q0.frozen_far ⟨A,5,none⟩ ω n5).trans (qn _);have yy:w3.cell? ⟨A,5,none⟩=some qb:=(q0.cell_far ⟨A,5,none⟩ ω n5).trans (qk _))
    have hK:=CC.key (x:=.string ⟨key.toArray⟩) HI.u HA.u q4 q0 q7;obtain⟨w4,qj⟩:∃w4,w4=w3.setCell ⟨A,5,none⟩ (.slice (some ⟨g,0,none⟩) (ks.length+1) cap):=⟨_,rfl⟩
    rw[<-qj]at hK |-;clear qj q4 q0 q7 hlt zz yy qk qn q5 z5 n5 q8 r5 HI;have HK:=Ab hK;have q9:=hK.ov;have hsz:=hK.sz;obtain⟨n6,q6,z6,qm,qo⟩:=hK.a6;clear hK;go_wp2_with (at_builtin;refine õ _ rfl _ _ _ rfl (A+1) 66 i0 _ 1 8 underlying89 qy hz0 z3 hz2 rfl η sl' vs.length vs rfl (q9.alloc _) ⟨w4.1.size,0,none⟩ 1 1 [.pointer xu] rfl rfl (Ö (cs:=#[.pointer xu]) (t:=66) (fr:=(0,0)) (Ê w4 _)) (by simp[AI]) η (by unfold maxLen;omega) ζ ω (w4.1.size+1) φ ?_;intro g' zt w5 q4 q0 q7 hlt;have zz:w5.frozen? ⟨A,6,none⟩=false:=(q0.frozen_far ⟨A,6,none⟩ ω n6).trans (qo _);have yy:w5.cell? ⟨A,6,none⟩=some sl':=(q0.cell_far ⟨A,6,none⟩ ω n6).trans (qm _));have HV:=Ab (CC.val (x:=.pointer xu) HK.u HA.u q4 q0 q7);clear q4 q0 q7 hlt zz yy HK n6 q6 z6 qm qo q9 hsz;go_wp2_with fail;go_ret;exact⟨_,rfl,qd.u _ _ _ false _ rfl HV.u rfl,Eq.subst (motive:=λz=>Below z w _) HA.u HV.u.bel⟩
