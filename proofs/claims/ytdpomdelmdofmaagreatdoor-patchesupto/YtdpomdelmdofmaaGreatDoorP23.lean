import Derived.Test.YtdpomdelmdofmaaGreatDoorP22
set_option maxRecDepth 100000
set_option maxHeartbeats 32000000
namespace Go.Proofs.YtdpomdelmdofmaaGreatDoor
open Go.Proofs.Tryz Go.RowKit
variable{f:Nat}{es es':List O}
section
variable{w:World}{b b' n n' c c':Nat}{kd ds s:By}{ng:Bool}{x:Int}{ks ks':Value}{a a':Option Addr}
theorem FI{q0:By}{q4:Bool}{q5:By}{x':Int}{s':By}(h:OB w b kd ng ds x s ks (.slice a n c))(h':OB w b' q0 q4 q5 x' s' ks' (.slice a' n' c'))(hk:¬(kd=q0/\ng=q4/\ds=q5/\x=x'/\s=s'/\n=n')):
  CB 70 #[PtB b,.pointer (some ⟨b',0,none⟩)] w (.bool false):=by
 have c0:=h.c0;have c1:=h.c1;have c2:=h.c2;have c3:=h.c3;have c4:=h.c4;have c6:=h.c6;have d0:=h'.c0;have d1:=h'.c1;have d2:=h'.c2;have d3:=h'.c3;have d4:=h'.c4;have d6:=h'.c6;clear h h';have hk:kd≠q0\/(kd=q0/\ng≠q4)\/(kd=q0/\ng=q4/\ds≠q5)\/(kd=q0/\ng=q4/\ds=q5/\x≠x')\/(kd=q0/\ng=q4/\ds=q5/\x=x'/\s≠s')\/(kd=q0/\ng=q4/\ds=q5/\x=x'/\s=s'/\(n:Int)≠n'):=ε;rcases hk with h|⟨rfl,h⟩|⟨rfl,rfl,h⟩|⟨rfl,rfl,rfl,h⟩|⟨rfl,rfl,rfl,rfl,h⟩|⟨rfl,rfl,rfl,rfl,rfl,h⟩;all_goals (
  have e0:=beq_eq_false_iff_ne.2 h;have e1:=bne_iff_ne.2 h;clear h;go_enter func70,ntmps70;go_wp2_with fail
  try simp only[List.append]
  go_quiet(fail);go_wp2;go_ret;exact⟨rfl,Bj⟩)
theorem Ij(h:OB w b kd ng ds x s ks (.slice a 0 c))(h':OB w b' kd ng ds x s ks' (.slice a' 0 c')):
  CB 70 #[PtB b,.pointer (some ⟨b',0,none⟩)] w (.bool true):=by
 have c0:=h.c0;have c1:=h.c1;have c2:=h.c2;have c3:=h.c3;have c4:=h.c4;have c6:=h.c6;have d0:=h'.c0;have d1:=h'.c1;have d2:=h'.c2;have d3:=h'.c3;have d4:=h'.c4;have d6:=h'.c6;clear h h';go_enter func70,ntmps70;go_wp2_with fail;simp only[List.append];go_quiet(fail);go_wp2_with fail;refine ø 1 ?_;rw[ď];go_wp2;go_ret;exact⟨rfl,Bj⟩
end
def cK(f:Nat):Prop:=∀(F F':Nat->Prop) (w:World) (v v':Value) (a b:O),Ar f F w v a->Ar f F' w v' b->qM f a->qM f b ->
 CB 70 #[v,v'] w (.bool (veq (pO f a) (pO f b)))
theorem mO(h:es.map (pO f)=es'.map (pO f)):pO (f+1) (rK es)=pO (f+1) (rK es'):=by
 show Ak _=Ak _;rw[h]
theorem X0(h:es.map (pO f)≠es'.map (pO f)):pO (f+1) (rK es)≠pO (f+1) (rK es'):=by
 intro e;have e2:Ak (es.map (pO f))=Ak (es'.map (pO f)):=e;unfold Ak at e2;injection e2 with e2;exact h e2
section
variable{w:World}{b b':Nat}{F F':Nat->Prop}
theorem kB(hS:cK f){sl sl':Value}{ps q5:List Value}(h:OB w b sW false [] 0 [] AE sl)(h':OB w b' sW false [] 0 [] AE sl')(ho:w.ownsRow 0 66 1 sl ps.length ps)(ho':w.ownsRow 0 66 1 sl' q5.length q5)(hal:Al (Ar f F w) ps es)(q4:Al (Ar f F' w) q5 es')(hg:∀e∈es,qM f e)(qf:∀e∈es',qM f e):
  CB 70 #[.pointer (some ⟨b,0,none⟩),.pointer (some ⟨b',0,none⟩)] w (.bool (veq (pO (f+1) (rK es)) (pO (f+1) (rK es')))):=by
 have hl:=hal.length;have qn:=q4.length;by_cases hn:ps.length=q5.length;rotate_left
 .obtain⟨a,c,rfl⟩:=BK ho;obtain⟨a',c',rfl⟩:=BK ho';rw[BU (X0 (λe=>hn (by have:=congrArg List.length e;simp at this;omega)))];exact FI h h' λe=>hn e.2.2.2.2.2
 by_cases h0:ps.length=0
 .have e1:es=[]:=ê ζ;have e2:es'=[]:=ê ζ;subst e1;subst e2;rw[CS rfl];obtain⟨a,c,rfl⟩:=DP ho h0;obtain⟨a',c',rfl⟩:=DP ho' ζ;exact Ij h h'
 obtain⟨g,cap,rfl,a1,a2,a3,hc⟩:=AP ho ζ;obtain⟨g',qk,rfl,b1,b2,b3,qe⟩:=AP ho' ζ;obtain⟨N,hN⟩:∃N,N=ps.length:=⟨_,rfl⟩
 have qb:N=q5.length:=ζ;rw[<-hN]at a1 h;rw[<-qb]at b1 h';obtain⟨R,hR⟩:∃R,R=veq (pO (f+1) (rK es)) (pO (f+1) (rK es')):=⟨_,rfl⟩
 rw[<-hR];have qo:(N:Int)<=9223372036854775807:=by unfold maxLen at a2;omega
 have qd:=h.lt;have q7:=h'.lt;have qh:=Ab (show∀k,k<N ->∃(u u':Nat) (o o':O),es[k]?=some o/\es'[k]?=some o'/\w.cell? ⟨g,k,none⟩=some (.pointer (some ⟨u,0,none⟩))/\w.cell? ⟨g',k,none⟩=some (.pointer (some ⟨u',0,none⟩))/\
   ∀W,Bl w W->CB 70 #[.pointer (some ⟨u,0,none⟩),.pointer (some ⟨u',0,none⟩)] W (.bool (veq (pO f o) (pO f o')))from λk hk=>by
  have r1:=hal.get k ζ ζ;have r2:=q4.get k ζ ζ;obtain⟨u,hu,_⟩:=r1.ptr;obtain⟨u',qg,_⟩:=r2.ptr;refine⟨u,u',es[k]'ζ,es'[k]'ζ,Ô _,Ô _,(hc k ζ).trans (by rw[hu]),(qe k ζ).trans (by rw[qg]),λW hW=>?_⟩;show CB 70 #[PtB u,PtB u'] W _;rw[<-hu,<-qg];exact hS F F' W _ _ _ _ (r1.below hW) (r2.below hW) (hg _ (Ó _)) (qf _ (Ó _)))
 have q6:=Ab (show(∀k,k<N ->∃o o',es[k]?=some o/\es'[k]?=some o'/\pO f o=pO f o')->R=true from λhk=>by
  rw[hR,CS];refine mO (List.ext_getElem? λk=>?_);rw[Þ,Þ];by_cases qm:k<N
  .obtain⟨o,o',e1,e2,e3⟩:=hk k qm;rw[e1,e2,Ċ,Ċ,e3]
  .rw[ĳ ζ,ĳ ζ])
 have qi:=Ab (show∀(k:Nat) (o o':O),es[k]?=some o->es'[k]?=some o'->pO f o≠pO f o'->R=false from λk o o' e1 e2 e3=>by
  rw[hR,BU];refine X0 λe=>e3 ?_;have:=congrArg (λl:List pL=>l[k]?) e;simp only[Þ,e1,e2,Ċ]at this;exact Î this)
 have c0:=h.c0;have c1:=h.c1;have c2:=h.c2;have c3:=h.c3;have c4:=h.c4;have c6:=h.c6;have d0:=h'.c0;have d1:=h'.c1;have d2:=h'.c2;have d3:=h'.c3;have d4:=h'.c4;have d6:=h'.c6;rw[show sW=[97,114,114,97,121]from rfl]at c0 d0;have C0:=Ab c0;have C6:=Ab c6;have D6:=Ab d6;clear h h' hS ho ho' hal q4 hg qf hl qn hn h0 hc qe hR hN qb;go_enter func70,ntmps70;go_wp2_with fail;simp only[List.append];go_quiet(fail);go_wp2_with fail;clear c0 c1 c2 c3 c4 c6 d0 d1 d2 d3 d4 d6;go_loopw [5] (λi wr=>∃k:Nat,k<=N/\i=.int .i64 k/\Hid (Bl w wr)/\Hid (∀j,j<k ->∃o o',es[j]?=some o/\es'[j]?=some o'/\pO f o=pO f o')) (λi _=>N-(intOf i).toNat)
 case atStart=>exact⟨0,ζ,rfl,Bj,λj hj=>ζ⟩
 case round=>
  obtain⟨k,hk,rfl,HB,HQ⟩:=hrel;have x0:=As HB.u _ _ qd C0.u;have x6:=As HB.u _ _ qd C6.u;have y6:=As HB.u _ _ q7 D6.u;by_cases hlt:k<N
  .obtain⟨u,u',o,o',e1,e2,q1,q2,q0⟩:=qh.u k hlt;have z1:=As HB.u _ _ a3 q1;have z2:=As HB.u _ _ b3 q2;have HC:=Ab q0;have HE:=Ab (ð e1 e2);have q8:(k:Int)<(N:Int):=ζ;clear q1 q2 q0 e1 e2;go_wp2_with fail;refine(HC.u _ (BZ HB.u)).mono ?_;rintro e w2⟨rfl,hb2⟩;have q9:=Ab ((BZ HB.u).trans (hb2.mono (BZ HB.u).size));clear hb2 x0 x6 y6 z1 z2;cases hq:veq (pO f o) (pO f o')with
   |false=>
    have HF:=Ab (qi.u k o o' HE.u.1 HE.u.2 (λe=>by rw[CS e]at hq;cases hq));clear hq;go_wp2;go_ret;exact⟨by rw[HF.u];rfl,q9.u⟩
   |true=>
    have qj:=Ab (show∀j,j<k+1 ->∃o o',es[j]?=some o/\es'[j]?=some o'/\pO f o=pO f o' from λj hj=>by
     by_cases h:j<k
     .exact HQ.u j h
     .obtain rfl:j=k:=ζ;refine⟨o,o',HE.u.1,HE.u.2,?_⟩;rcases Classical.em (pO f o=pO f o')with h|h
      .exact h
      .rw[BU h]at hq;cases hq)
    clear hq;go_wp2;exact⟨⟨k+1,ζ,ψ,q9,qj⟩,by simp only[intOf];omega⟩
  .obtain rfl:k=N:=ζ;have HT:=Ab (q6.u HQ.u);have q8:¬(k:Int)<(k:Int):=ζ;go_wp2;go_ret;exact⟨by rw[HT.u];rfl,BZ HB.u⟩
end
section
variable{w:World}{b b':Nat}{F F':Nat->Prop}
theorem kA(hS:cK f){kl qz sl sl':Value}{ps q7:List Value}{es es':Ms}(h:OB w b sC false [] 0 [] kl sl)(h':OB w b' sC false [] 0 [] qz sl')(hk:w.ownsRow 0 9 1 kl es.length (es.map λp=>AG p.1))(qj:w.ownsRow 0 9 1 qz es'.length (es'.map λp=>AG p.1))(ho:w.ownsRow 0 66 1 sl ps.length ps)(ho':w.ownsRow 0 66 1 sl' q7.length q7)(hal:Al (Ar f F w) ps (es.map (·.2)))(q9:Al (Ar f F' w) q7 (es'.map (·.2)))(hnd:(es.map (·.1)).Nodup)(q5:(es'.map (·.1)).Nodup)(hg:∀p∈es,qM f p.2)(qu:∀p∈es',qM f p.2):
  CB 70 #[.pointer (some ⟨b,0,none⟩),.pointer (some ⟨b',0,none⟩)] w (.bool (veq (pO (f+1) (qF es)) (pO (f+1) (qF es')))):=by
 have hl:ps.length=es.length:=by have:=hal.length;simpa using this
 have qy:q7.length=es'.length:=by have:=q9.length;simpa using this
 by_cases hn:ps.length=q7.length;rotate_left
 .obtain⟨a,c,rfl⟩:=BK ho;obtain⟨a',c',rfl⟩:=BK ho';rw[BU (Y9 hnd q5 ζ)];exact FI h h' λe=>hn e.2.2.2.2.2
 by_cases h0:ps.length=0
 .have e1:es=[]:=ê ζ;have e2:es'=[]:=ê ζ;subst e1;subst e2;rw[CS rfl];obtain⟨a,c,rfl⟩:=DP ho h0;obtain⟨a',c',rfl⟩:=DP ho' ζ;exact Ij h h'
 obtain⟨g,cap,rfl,a1,a2,a3,hc⟩:=AP ho ζ;obtain⟨g',z5,rfl,b1,b2,b3,qr⟩:=AP ho' ζ;obtain⟨gk,z6,rfl,k1,k2,k3,qt⟩:=AP hk ζ;obtain⟨N,hN⟩:∃N,N=ps.length:=⟨_,rfl⟩
 have qo:N=q7.length:=ζ;have qq:N=es.length:=ζ;obtain⟨R,hR⟩:∃R,R=veq (pO (f+1) (qF es)) (pO (f+1) (qF es')):=⟨_,rfl⟩
 rw[<-hR];have z7:(N:Int)<=9223372036854775807:=by unfold maxLen at a2;omega
 have qi:=h.lt;have qb:=h'.lt;have z3:=Ab (show∀k,k<N ->∃(u:Nat) (u':Value) (p:By×O) (fo:Value),es[k]?=some p/\w.cell? ⟨gk,k,none⟩=some (.string ⟨p.1.toArray⟩)/\w.cell? ⟨g,k,none⟩=some (.pointer (some ⟨u,0,none⟩))/\w.cell? ⟨g',k,none⟩=some u'/\
   (∀W,Bl w W->Calls Tryz.prog 95 #[.pointer (some ⟨b',0,none⟩),.string ⟨p.1.toArray⟩] W λe w'=>e=.returned fo/\w'=W)/\
   ((∃(y:O) (u2:Nat),qU p.1 es'=some y/\fo=.pointer (some ⟨u2,0,none⟩)/\∀W,Bl w W->CB 70 #[.pointer (some ⟨u,0,none⟩),.pointer (some ⟨u2,0,none⟩)] W (.bool (veq (pO f p.2) (pO f y))))\/
    (qU p.1 es'=none/\fo=.pointer none))from λk z8=>by
  have qw:k<es.length:=ζ;have r1:=hal.get k ζ (by simpa using qw);rw[é]at r1;obtain⟨u,hu,_⟩:=r1.ptr;have qv:=qt k (by simpa using qw);rw[é]at qv;refine⟨u,q7[k]'ζ,es[k],tS es[k].1 (es'.map (·.1)) q7,Ô _,qv,(hc k ζ).trans (by rw[hu]),qr k ζ,λW hW=>?_,?_⟩
  .exact IO (h'.kept (hW.block b' qb)) (ks:=es'.map (·.1)) (B1:=0) (by rw[æ,Ý];exact Am qj λg hg=>hW.block g (Af qj g hg).1) (Am ho' λg hg=>hW.block g (Af ho' g hg).1) (by simpa using qy) es[k].1
  .rcases KC (k:=es[k].1) q9 with⟨y,hy,qe⟩|⟨hy,qg⟩
   .obtain⟨u2,qg,_⟩:=qe.ptr;refine Å ⟨y,u2,hy,qg,λW hW=>?_⟩;show CB 70 #[PtB u,PtB u2] W _;rw[<-hu,<-qg];exact hS F F' W _ _ _ _ (r1.below hW) (qe.below hW) (hg _ (Ó _)) (qu _ (Cf hy))
   .exact À ⟨hy,qg⟩)
 have qh:=Ab (show(∀k,k<N ->∃p y,es[k]?=some p/\qU p.1 es'=some y/\pO f p.2=pO f y)->R=true from λhq=>by
  rw[hR,CS];refine Wm hnd q5 ζ λp hp=>?_;obtain⟨k,hk,e⟩:=Ĺ.1 hp;obtain⟨q,y,e1,e2,e3⟩:=hq k ζ;rw[Ô hk]at e1;obtain rfl:q=p:=by rw[<-e];exact(Î e1).symm
  exact⟨y,e2,e3⟩)
 have qn:=Ab (show∀(k:Nat) (p:By×O),es[k]?=some p->(∀y,qU p.1 es'=some y->pO f p.2≠pO f y)->R=false from λk p e1 e2=>by
  rw[hR,BU];exact Wn hnd q5 (ñ e1) e2)
 rw[<-hN]at a1 h;rw[<-qo]at b1 h';rw[<-qq]at k1 h;have c0:=h.c0;have c1:=h.c1;have c2:=h.c2;have c3:=h.c3;have c4:=h.c4;have c5:=h.c5;have c6:=h.c6;have d0:=h'.c0;have d1:=h'.c1;have d2:=h'.c2;have d3:=h'.c3;have d4:=h'.c4;have d6:=h'.c6;rw[show sC=[111,98,106,101,99,116]from rfl]at c0 d0;have C0:=Ab c0;have C5:=Ab c5;have C6:=Ab c6;have D6:=Ab d6;clear h h' hS ho ho' hk qj hal q9 hg qu hl qy hn h0 hc qr qt hR hN qo qq hnd q5;go_enter func70,ntmps70;go_wp2_with fail;simp only[List.append];go_quiet(fail);go_wp2_with fail;clear c0 c1 c2 c3 c4 c5 c6 d0 d1 d2 d3 d4 d6;go_loopw [5] (λi wr=>∃k:Nat,k<=N/\i=.int .i64 k/\Hid (Bl w wr)/\Hid (∀j,j<k ->∃p y,es[j]?=some p/\qU p.1 es'=some y/\pO f p.2=pO f y)) (λi _=>N-(intOf i).toNat)
 case atStart=>exact⟨0,ζ,rfl,Bj,λj hj=>ζ⟩
 case round=>
  obtain⟨k,hk,rfl,HB,HQ⟩:=hrel;have x0:=As HB.u _ _ qi C0.u;have x5:=As HB.u _ _ qi C5.u;have x6:=As HB.u _ _ qi C6.u;have y6:=As HB.u _ _ qb D6.u;by_cases hlt:k<N
  .obtain⟨u,u',p,fo,e1,q0,q1,q2,qd,hcase⟩:=z3.u k hlt;have z0:=As HB.u _ _ k3 q0;have z1:=As HB.u _ _ a3 q1;have z2:=As HB.u _ _ b3 q2;have q8:=Ab qd;have HE:=Ab e1;have q4:=Ab hcase;have qk:(k:Int)<(N:Int):=ζ;clear q0 q1 q2 qd e1 hcase;go_wp2_with fail;refine(q8.u _ (BZ HB.u)).mono ?_;rintro e w2⟨rfl,rfl⟩;rcases q4.u with⟨y,u2,hy,rfl,q6⟩|⟨hy,rfl⟩
   .have HC:=Ab q6;have HY:=Ab hy;clear q6 hy q4 q8;go_wp2_with fail;refine(HC.u _ (BZ HB.u)).mono ?_;rintro e w2⟨rfl,hb2⟩;have qm:=Ab ((BZ HB.u).trans (hb2.mono (BZ HB.u).size));clear hb2 x0 x5 x6 y6 z0 z1 z2;cases hq:veq (pO f p.2) (pO f y)with
    |false=>
     have HF:=Ab (qn.u k p HE.u (λy2 qf e=>by
      rw[HY.u]at qf;obtain rfl:=Î qf;rw[CS e]at hq;cases hq))
     clear hq;go_wp2;go_ret;exact⟨by rw[HF.u];rfl,qm.u⟩
    |true=>
     have z4:=Ab (show∀j,j<k+1 ->∃p y,es[j]?=some p/\qU p.1 es'=some y/\pO f p.2=pO f y from λj hj=>by
      by_cases h:j<k
      .exact HQ.u j h
      .obtain rfl:j=k:=ζ;refine⟨p,y,HE.u,HY.u,?_⟩;rcases Classical.em (pO f p.2=pO f y)with h|h
       .exact h
       .rw[BU h]at hq;cases hq)
     clear hq;go_wp2;exact⟨⟨k+1,ζ,ψ,qm,z4⟩,by simp only[intOf];omega⟩
   .have HF:=Ab (qn.u k p HE.u (λy2 qf=>by rw[hy]at qf;cases qf));clear hy q4 q8;go_wp2;go_ret;exact⟨by rw[HF.u];rfl,BZ HB.u⟩
  .obtain rfl:k=N:=ζ;have HT:=Ab (qh.u HQ.u);have qk:¬(k:Int)<(k:Int):=ζ;go_wp2;go_ret;exact⟨by rw[HT.u];rfl,BZ HB.u⟩
end
theorem Wp{k k':Nat}(h:tL k=tL k'):k=k':=by
 unfold tL at h;injection h with h;injection h with _ h;omega
theorem cZ:∀k:Fin 3,rE.getD k.val []≠vC/\rE.getD k.val []≠vJ/\rE.getD k.val []≠sW/\rE.getD k.val []≠sC:=η
theorem nW:∀k k':Fin 3,k≠k'->rE.getD k.val []≠rE.getD k'.val []:=η
def tg(d:pL):Nat:=match d with
 |.lit (.int _ _)=>0
 |.agg _=>1
 |.lit (.string _)=>2
 |.slice _ _=>3
 |.map _=>4
 |_=>5
theorem tgW(f k:Nat):tg (pO (f+1) (tL k))=0:=rfl
theorem tgN(f:Nat)(n:Nm)(x:Int):tg (pO (f+1) (tB n x))=1:=rfl
theorem tgS(f:Nat)(s:By):tg (pO (f+1) (uA s))=2:=rfl
theorem tgA(f:Nat)(es:List O):tg (pO (f+1) (rK es))=3:=rfl
theorem jV(f:Nat)(es:Ms):tg (pO (f+1) (qF es))=4:=by
 obtain⟨E,hE⟩:=YY ((qK es).map λp=>(p.1,pO f p.2)) (Ap []) ⟨[],rfl⟩;show tg (sZ (Ap []) ((qK es).map λp=>(p.1,pO f p.2)))=4;rw[hE];rfl
theorem JT:∀f,cK f
 |0=>λ_ _ _ _ _ _ _ h=>h.elim
 |f+1=>by
  have hS:=JT f;intro F F' w v v' a b ha hb q7 q8;obtain⟨p,rfl,_,ha⟩:=ha;obtain⟨p',rfl,_,hb⟩:=hb;rcases ha with⟨k,hk,rfl,h⟩|⟨n,x,rfl,h⟩|⟨s,rfl,h⟩|⟨es,sl,ps,rfl,h,ho,_,hal⟩|⟨es,kl,sl,ps,rfl,h,hok,_,ho,_,hal⟩ <;>
   rcases hb with⟨k',qd,rfl,h'⟩|⟨n',x',rfl,h'⟩|⟨s',rfl,h'⟩|⟨es',sl',qe,rfl,h',ho',_,q5⟩|⟨es',qf,sl',qe,rfl,h',q9,_,ho',_,q5⟩
  case inl.inl=>
   by_cases e:k=k'
   .subst e;rw[CS rfl];exact Ij h h'
   .rw[show veq (pO (f+1) (tL k)) (pO (f+1) (tL k'))=false from BU λe1=>e (Wp e1)];exact FI h h' λq=>nW ⟨k,hk⟩ ⟨k',qd⟩ (λe1=>e (by injection e1)) q.1
  case inr.inl.inr.inl=>
   obtain⟨rfl,_⟩:=Hm q7;obtain⟨rfl,_⟩:=Hm q8;obtain⟨ng,ds,ex⟩:=n;obtain⟨qb,q6,q0⟩:=n';by_cases e1:ng=qb
   .subst e1;by_cases e2:ds=q6
    .subst e2;by_cases e3:ex=q0
     .subst e3;rw[CS rfl];exact Ij h h'
     .rw[show veq (pO (f+1) (tB (ng,ds,ex) _)) (pO (f+1) (tB (ng,ds,q0) _))=false from BU λe=>e3 (congrArg (λn:Nm=>n.2.2) (ID (show Bm (ng,ds,ex)=Bm (ng,ds,q0)from e)))];exact FI h h' λq=>e3 q.2.2.2.1
    .rw[show veq (pO (f+1) (tB (ng,ds,ex) _)) (pO (f+1) (tB (ng,q6,q0) _))=false from BU λe=>e2 (congrArg (λn:Nm=>n.2.1) (ID (show Bm (ng,ds,ex)=Bm (ng,q6,q0)from e)))];exact FI h h' λq=>e2 q.2.2.1
   .rw[show veq (pO (f+1) (tB (ng,ds,ex) _)) (pO (f+1) (tB (qb,q6,q0) _))=false from BU λe=>e1 (congrArg (λn:Nm=>n.1) (ID (show Bm (ng,ds,ex)=Bm (qb,q6,q0)from e)))];exact FI h h' λq=>e1 q.2.1
  case inr.inr.inl.inr.inr.inl=>
   by_cases e:s=s'
   .subst e;rw[CS rfl];exact Ij h h'
   .rw[BU (λe1=>e (by
     have e2:Av s=Av s':=e1;unfold Av at e2;injection e2 with e2;injection e2))]
    exact FI h h' λq=>e q.2.2.2.2.1
  case inr.inr.inr.inl.inr.inr.inr.inl=>exact kB hS h h' ho ho' hal q5 (ES q7) (ES q8)
  case inr.inr.inr.inr.inr.inr.inr.inr=>
   obtain⟨q1,q2⟩:=ER q7;obtain⟨q3,q4⟩:=ER q8;exact kA hS h h' hok q9 ho ho' hal q5 q1 q3 q2 q4
  all_goals (
   first
    |(obtain⟨_,_,rfl⟩:=BK ho)
    |skip
   first
    |(obtain⟨_,_,rfl⟩:=BK ho')
    |skip
   rw[BU (λe=>by
    have e2:=congrArg tg e;simp only[tgW,tgN,tgS,tgA,jV]at e2;omega)]
   refine FI h h' λq=>?_;replace q:=q.1;first
    |exact absurd q η
    |(obtain⟨z1,z2,z3,z4⟩:=cZ ⟨k,hk⟩;first|exact z1 q|exact z2 q|exact z3 q|exact z4 q)
    |(obtain⟨z1,z2,z3,z4⟩:=cZ ⟨k',qd⟩;first|exact z1 q.symm|exact z2 q.symm|exact z3 q.symm|exact z4 q.symm))
