import Derived.Test.YtdpomdelmdofmaaGreatDoorRea40
open Nat renaming le_trans->AI
open List renaming mem_cons_self->AS,mem_reverse->AT,mem_cons_of_mem->A1,drop_eq_getElem_cons->A3,mem_filter->A6
open Go renaming World->A2,Value->A5
open Option renaming map_eq_some_iff->A4
open Go.RowKit.Below renaming refl->Bs
open Go.RowKit renaming Below->BY
open List.Pairwise renaming nil->CD
open Go.DataW renaming map->CH
set_option maxRecDepth 100000
set_option maxHeartbeats 4000000
namespace Go.Proofs.YtdpomdelmdofmaaGreatDoor
open Go.Proofs.Tryz Go.RowKit Go.Maps
variable{G:Nat->Prop}{xs:List A5}{ops:List fO}
theorem XK{d e n:Int}(hc:fH d e n=true):1<=d/\d<=20/\0<=e/\e<=400:=by
 grind [fH,gN]
section
variable{d x:Int}
theorem QD:∀f:Nat,XO d x f
 | 0=>fun g _ _ _ _ _ _ _ _ h=>by omega
 | f+1=>fun g lv F F' w v v' a b q6 ha q5 q4 hb q0 hgb hsb=>by
  obtain rfl:f=g:=by omega
  cases hob:fI b with
  | false=>exact Wk ha hb hob
  | true=>
   obtain⟨bs,rfl⟩:∃bs,b=.map bs:=by
    cases b with
    | map bs=>grind
    | _=>cases hob
   obtain⟨tb,rfl,_,h⟩:=hb;have h2:dT (f+1) (.map bs)=2+Ak f bs:=CN f bs;rcases h with⟨k,_,e,_⟩|⟨n,e,_⟩|⟨s,e,_⟩|⟨es',sl,ps,e,_⟩|⟨es',m,n,D,e,hv,_,ho,hp⟩
   ·cases e
   ·cases e
   ·cases e
   ·cases e
   ·injection e with e;subst e;exact YO (QD f) ha q5 q4 hv ho hp (Bt hgb).2 (by omega) q0
def cT(d x:Int)(f:Nat):Prop:=∀ (lv:Int) (a b z:To) (C:Nat),dY d x f lv b->(∀g,f=g+1->fA d x g lv (AD a)/\Ak g (AD a)<=C)->fW f a b=some z->dY d x f lv z/\dT f z<=(2*C+1)*dT f b
theorem LF{f C:Nat}{lv:Int}{m:To->To->Option To}{xs:List (Lit×To)}:∀ {l out q0:List (Lit×To)},D9 m xs l out=some q0->fA d x f lv l->fA d x f lv out ->
  (∀q∈l,∀z,gQ m xs q.1 q.2=some (some z)->dY d x f (lv+1) z/\dT f z<=(2*C+1)*dT f q.2)->fA d x f lv q0/\Ak f q0<=Ak f out+(2*C+1)*Ak f l
 | [],out,q0,e,_,ho,_=>by
  have e':some out=some q0:=e
  grind
 | (jl,y)::r,out,q0,e,hl,ho,hz=>by
  obtain⟨⟨j,ej,q6⟩,_⟩:=hl.2 _ AS;simp only at ej;subst ej;have q4:fA d x f lv r:=⟨(List.pairwise_cons.1 hl.1).2,fun p hp=>hl.2 p (A1 _ hp)⟩
  have q5:=fun q (hq:q∈r)=>hz q (A1 _ hq);have hc:Ak f ((Lit.string j,y)::r)=(Ag j).length+2+dT f y+Ak f r:=BG _ _ _;rw[Gj] at e;rw[hc,Nat.mul_add];cases hm:gQ m xs (.string j) y with
  | none=>grind
  | some o=>
   rw[hm] at e;cases o with
   | none=>
    obtain⟨h1,h2⟩:=LF e q4 ho q5
    grind
   | some z=>
    obtain⟨g1,g2⟩:=hz _ AS z hm;simp only at g2;obtain⟨h1,h2⟩:=LF (out:=eE (.string j) z out) e q4 (ho.mput q6 g1) q5;refine⟨h1,?_⟩;rw[DH] at h2;have h3:Ak f (eR (.string j) out)<=Ak f out:=BF f (fun p=>!p.1.sameKey (.string j)) out
    grind
theorem Y1{f:Nat}{lv:Int}{xs bs:List (Lit×To)}(h:fA d x f lv xs):fA d x f lv (Do xs bs)/\Ak f (Do xs bs)<=2*Ak f xs:=by
 have q0:∀p∈xs,dY d x f (lv+1) (AF 0)/\dT f (AF 0)=4:=fun p hp=>by
  have h1:=(h.2 p hp).2;cases f with
  | zero=>exact h1.elim
  | succ f=>exact⟨⟨Fv h1,by grind⟩,rfl⟩
 constructor
 ·refine⟨(Gm (bs:=bs) h.skey).1,fun p hp=>?_⟩;unfold Do at hp;obtain⟨q,hq,rfl⟩:=List.mem_map.1 hp;have q4:=(A6.1 hq).1;exact⟨(h.2 q q4).1,(q0 q q4).1⟩
 ·have key:∀l:List (Lit×To),(∀p∈l,p∈xs)->Ak f (l.map fun p=>(p.1,AF 0))<=2*Ak f l:=by
   intro l;induction l with
   | nil=>grind
   | cons a l ih=>
    intro hl;have h1:=ih fun p hp=>hl p (A1 _ hp);have h2:=(q0 a (hl a AS)).2;obtain⟨⟨s,es,_⟩,_⟩:=h.2 a (hl a AS);rw[List.map_cons,BG,BG];simp only;rw[h2];have h3:2<=(Ag (strOf a.1)).length:=by simp[Ag]
    omega
  have h1:=key (xs.filter fun p=>!Maps.has (.map bs:To) p.1) fun p hp=>(A6.1 hp).1;have h2:=BF f (fun p=>!Maps.has (.map bs:To) p.1) xs;exact AI h1 (by omega)
theorem Ow:∀f:Nat,cT d x f
 | 0=>fun _ _ _ _ _ h=>h.elim
 | f+1=>fun lv a b z C hb ha e=>by
  cases hob:fI b with
  | false=>
   have e1:fW (f+1) a b=some b:=by cases b<;>first|rfl|cases hob
   grind
  | true=>
   obtain⟨bs,rfl⟩:∃bs,b=.map bs:=by
    cases b with
    | map bs=>grind
    | _=>cases hob
   obtain⟨hlv,q6⟩:=Bt hb;obtain⟨q0,q7⟩:=ha f rfl;obtain⟨g1,g2⟩:=Y1 (bs:=bs) q0;have e1:(D9 (fW f) (AD a) bs (Do (AD a) bs)).map CH=some z:=e;cases hm:D9 (fW f) (AD a) bs (Do (AD a) bs) with
   | none=>grind
   | some out=>
    rw[hm] at e1;have e2:some (CH out)=some z:=e1;injection e2 with e2;subst e2;obtain⟨h1,h2⟩:=LF (C:=C) hm q6 g1 fun q hq z hz=>by
     have q5:=(q6.2 q hq).2;unfold gQ at hz;cases hg:Aj (AD a) q.1 with
     | none=>
      rw[hg] at hz;simp only at hz;split at hz
      ·cases hz
      ·obtain⟨z',q4,e3⟩:=A4.1 hz;injection e3 with e3;subst e3;exact Ow f (lv+1) (.map []) q.2 z' C q5 (fun g _=>⟨⟨CD,fun p hp=>by cases hp⟩,Nat.zero_le _⟩) q4
     | some y=>
      rw[hg] at hz;simp only at hz;split at hz
      ·cases hz
      ·split at hz
       ·cases hz
       ·obtain⟨z',q4,e3⟩:=A4.1 hz;injection e3 with e3;subst e3;obtain⟨s,hs⟩:=Uo q0.skey hg;have hgy:=(q0.2 _ hs).2;have q8:dT f y<=Ak f (AD a):=Gi hs;refine Ow f (lv+1) y q.2 z' C q5 (fun g hg=>?_) q4;subst hg;exact⟨(GN hgy).1,AI (GN hgy).2 (AI q8 q7)⟩
    refine⟨h1.gd hlv,?_⟩;show 2+Ak f out<=(2*C+1)*(2+Ak f bs)
    grind
end
def Dx(w:A2)(G:Nat->Prop)(xs:List A5)(ops:List fO):Prop:=∀i (h:i<ops.length),∃pa pl pc fa fl fc y,H8 w G ops[i] pa pl pc fa fl fc y/\xs[i*4]? = some (.int .i64 ops[i].1)/\xs[i*4+1]? = some (.slice pa pl pc)/\xs[i*4+2]? = some (.slice fa fl fc)/\xs[i*4+3]? = some (.pointer y)
theorem Dx.move{w w':A2}{G':Nat->Prop}(h:Dx w G xs ops)(hk:∀k,G k->k<w.heap.size->w'.heap[k]? = w.heap[k]? /\ G' k):Dx w' G' xs ops:=fun i hi=>by
 obtain⟨pa,pl,pc,fa,fl,fc,y,h1,h2⟩:=h i hi;exact⟨pa,pl,pc,fa,fl,fc,y,h1.move hk,h2⟩
theorem Dx.snoc{w:A2}{o:fO}{pa fa y:Option Addr}{pl pc fl fc:Nat}(h:Dx w G xs ops)(hl:xs.length=ops.length*4)(ho:H8 w G o pa pl pc fa fl fc y):
  Dx w G (xs++[.int .i64 o.1,.slice pa pl pc,.slice fa fl fc,.pointer y]) (ops++[o]):=fun i hi=>by
 by_cases hlt:i<ops.length
 ·obtain⟨pa,pl,pc,fa,fl,fc,y,h1,h2,h3,h4,h5⟩:=h i hlt
  grind
 grind
theorem Hh{w:A2}{B e n:Nat}{v:A5}(h:w.ownsRow B e 4 v n xs):∃ao cap g,v=.slice ao n cap/\(0<n->ao=some ⟨g,0,none⟩/\v.ownBlock=some g/\B<=g /\ ∀k (hk:k<xs.length),w.cell? ⟨g,k,none⟩=some xs[k]):=by
 obtain⟨q4,h⟩:=h;rcases h with⟨h1,h0⟩|⟨g,cap,cur,h1,hB,h3,h4,h5,h6,h7⟩
 ·simp_all
 ·refine⟨_,cap,g,h1,fun _=>⟨rfl,by rw[h1];rfl,hB,fun k hk=>?_⟩⟩;have h8:cur.toList[k]? = some xs[k]:=by
   grind
  have q0:cur[k]? = some xs[k]:=by grind
  simp[World.cell?,h3,q0]
theorem Dx.mem{w:A2}(h:Dx w G xs ops){g:Nat}(hc:0<ops.length -> ∀k (hk:k<xs.length),w.cell? ⟨g,k,none⟩=some xs[k]):Lh w G g ops:=fun i hi=>by
 obtain⟨pa,pl,pc,fa,fl,fc,y,h1,h2,h3,h4,h5⟩:=h i hi
 grind
def Dm(F:Nat->Prop)(d:To)(w:A2)(e:Ending)(w':A2):Prop:=match DA d with
 | .error i=>e=.returned (.tuple #[.slice none 0 0,.int .i64 i,.bool false])
 | .ok l=>∃ao g cap,e=.returned (.tuple #[.slice ao l.length cap,.int .i64 0,.bool true])/\(0<l.length->ao=some ⟨g,0,none⟩/\w.heap.size<=g)/\Lh w' (fun k=>(F k/\k<w.heap.size)\/w.heap.size<=k) g l
structure RdI(F:Nat->Prop)(w1:A2)(es:List To)(k:Nat)(pv:A5)(xs:List A5)(ops:List fO)(W:A2):Prop where
 len:ops.length=k
 own:W.ownsRow w1.heap.size 178 4 pv k xs
 bel:BY w1.heap.size w1 W
 rops:Dx W (fun q=>((F q/\q<w1.heap.size)\/w1.heap.size<=q)/\pv.ownBlock≠some q) xs ops
 eq:Cy 0 es=match Cy k (es.drop k) with
  | .ok l=>.ok (ops++l)
  | .error c=>.error c
theorem RdI.next{F:Nat->Prop}{w1:A2}{es:List To}{k:Nat}{pv q4:A5}{W W4 W5:A2}{o:fO}{pa fa y:Option Addr}{pl pc fl fc:Nat}(h:RdI F w1 es k pv xs ops W)(hk:k<es.length)(ho:CK es[k]=some o)(hb:BY W.heap.size W W4)(q6:H8 W4 (fun q=>((F q/\q<w1.heap.size)/\q<W.heap.size)\/W.heap.size<q) o pa pl pc fa fl fc y)(q5:W5.ownsRow w1.heap.size 178 4 q4 (k+1) (xs++[.int .i64 o.1,.slice pa pl pc,.slice fa fl fc,.pointer y]))(hg:W4.grownBy W5 pv.ownBlock)(q8:q4.ownBlock=pv.ownBlock\/q4.ownBlock=some W4.heap.size):
  RdI F w1 es (k+1) q4 (xs++[.int .i64 o.1,.slice pa pl pc,.slice fa fl fc,.pointer y]) (ops++[o]) W5:=by
 have hsz:=h.bel.size;have q7:∀g,pv.ownBlock=some g->g<W.heap.size/\w1.heap.size<=g:=fun g hg=>AA h.own g hg;have hne:∀q,q<W4.heap.size->pv.ownBlock≠some q->q4.ownBlock≠some q:=by grind
 refine⟨by simp[h.len],q5,(h.bel.trans (hb.mono hsz)).grown hg (AI hsz hb.size) (by grind),?_,?_⟩
 ·refine Dx.snoc ((h.rops.move (w':=W4) (G':=fun q=>(((F q/\q<w1.heap.size)\/w1.heap.size<=q)/\pv.ownBlock≠some q)) fun q hq q0=>⟨hb.block q q0,hq⟩).move fun q hq q0=>⟨hg.block q q0 fun e=>hq.2 e.symm,hq.1,hne q q0 hq.2⟩) (by rw[h.own.1,h.len]) ?_;refine q6.move fun q hq q0=>?_;have hr:pv.ownBlock≠some q:=by grind
  refine⟨hg.block q q0 fun e=>hr e.symm,?_,hne q q0 hr⟩
  grind
 ·rw[h.eq,A3 hk,Cy,ho]
  grind
theorem bE(w:A2)(o:Obj):(w.alloc o).heap.size=w.heap.size+1:=by simp
section
variable{f:Nat}{F:Nat->Prop}{w:A2}{v:A5}{d:To}
theorem RC(h:Rep (f+2) F w v d)(hf:f<=top)(hs:∀es y,d=.slice es y->es.length<=400000000 /\ ∀x∈es,∀k s,Cd (AH x k)=some s->s.length<=1048576)(hT:Ai w)(hO:H9 w):
  Calls Tryz.prog 83 #[v] w fun e w'=>Dm F d w e w'/\BY w.heap.size w w':=by
 obtain⟨b,rfl,hb,h⟩:=h;have hK:=Ab (Uf hO);by_cases qb:∃es,d=Af es
 ·obtain⟨es,rfl⟩:=qb;obtain⟨sl,ps,hv,ho,hF,ha⟩:∃sl ps,VB w b 5 n0 [] sl (.map none)/\w.ownsRow 0 80 1 sl ps.length ps/\(∀g,sl.ownBlock=some g->F g)/\Al (Rep (f+1) F w) ps es:=by
   rcases h with⟨k,_,e,h⟩|⟨n,e,h,_⟩|⟨s,e,h⟩|⟨es',sl,ps,e,h1,h2,h3,h4⟩|⟨es',m,n,D,e,_⟩
   ·cases e
   ·cases e
   ·cases e
   ·grind [Cy,DA,Af]
   ·cases e
  obtain⟨zt,qi⟩:=hs es [] rfl;have hal:=ha.length;have c0:=hv.c0;have c5:=hv.c5;have zg:=hv.lt;obtain⟨N,hN⟩:∃N,N=ps.length:=⟨_,rfl⟩
  obtain⟨ao,cap,g,rfl,qh⟩:∃ao cap g,sl=.slice ao ps.length cap/\(0<ps.length->ao=some ⟨g,0,none⟩/\g<w.heap.size/\ps.length<=cap /\ ∀k (hk:k<ps.length),w.cell? ⟨g,k,none⟩=some ps[k]):=by
   rcases ho.2 with⟨h1,h0⟩|⟨g',cap,cur,h1,_⟩
   ·grind
   ·refine⟨some ⟨g',0,none⟩,cap,g',h1,fun hp=>?_⟩;obtain⟨g2,cap2,e,a1,a2,a3,a4⟩:=Bm ho hp
    grind
  rw[<- hN] at c5 hal;obtain⟨i0,z0,hi,hz,y6,hz2,hz3⟩:=JP;have HT:=Ab hT;have HA:=Ab ha;have qq:=Ab qh;have qr:=Ab qi;have za:=Ab hN;have z8:=Ab hal;have zm:=Ab zg;have zo:=Ab c5;have ya:(N:Int)<=400000000:=by omega
  obtain⟨Q,hQ⟩:∃Q,Q=Dm F (Af es) w:=⟨_,rfl⟩
  rw[<- hQ];have HQ:=Ab hQ;clear h hb hs hT hO hv ho hF ha zt qi hal zg hN qh hQ c5
  go_enter func83,ntmps83
  go_wp2_with (fail);refine (Aa hK).mono ?_
  rintro e w1 ⟨m,rfl,y3,hm,hb1⟩;have c51:=(hb1.cell (p:=⟨b,5,none⟩) (Aa zm)).trans (Aa zo);have q4:=Ab hb1;have HM:=Ab hm;have zj:m<w1.heap.size:=by obtain⟨es,zc,hb,_⟩:=hm;grind
  have zr:=Ab zj;have H0:=Ab (show RdI F w1 es 0 (.slice none 0 0) [] [] w1 from⟨rfl,⟨rfl,Or.inl ⟨rfl,rfl⟩⟩,Bs _ _,fun i hi=>absurd hi (by simp),by grind⟩);clear hK y3 hm hb1 zj
  go_wp2_with (fail)
  go_loopw [2,21] (fun pv i wr=>∃ (k:Nat) (xs:List A5) (ops:List fO),k<=N/\i=.int .i64 k/\Hid (RdI F w1 es k pv xs ops wr)) (fun _ i _=>N-(intOf i).toNat)
  case atStart=>grind
  case round=>
   obtain⟨k,xs,ops,hk,rfl,HI⟩:=hrel;by_cases hlt:k<N
   ·have qk:k<ps.length:=by have:=Aa za;omega
    have zi:k<es.length:=by have:=Aa z8;omega
    obtain⟨zu,zx,zw,q6⟩:=Aa qq (by omega);subst zu;have qj:BY w.heap.size w wr:=(Aa q4).trans ((Aa HI).bel.mono (Aa q4).size);have ck:=(qj.cell (p:=⟨g,k,none⟩) zx).trans (q6 k qk);obtain⟨ek,qu⟩:∃ek,ek=es[k]:=⟨_,rfl⟩
    have qg:Rep (f+1) (fun q=>F q/\q<w1.heap.size) wr ps[k] ek:=qu▸((Aa HA).get k qk zi).move fun j hj qe=>⟨qj.block j qe,hj,Nat.lt_of_lt_of_le qe (Aa q4).size⟩
    have ze:Ai wr:=(Aa HT).below (qj.mono (Aa HT).ng);have q5:=Ab (WG qg hf (Aa qr ek (by grind)) (IO (Aa HM) ((Aa HI).bel.block m (Aa zr))) ze);have yb:(N:Int)<=(cap:Int):=by have:=Aa za;omega
    have qx:(k:Int)<(N:Int):=by omega
    have zz:(k:Int)<(cap:Int):=by omega
    obtain⟨pk,hpk⟩:∃pk,pk=ps[k]:=⟨_,rfl⟩
    rw[<- hpk] at ck q5;have y7:=Ab qk;have z7:=Ab zi;have z6:=Ab qu;clear qj q6 qg ze qk hpk qu
    go_wp2_with (fail);refine (Aa q5).mono ?_
    rintro e W2 ⟨q0,hb2⟩;have qz:=Ab hb2;unfold FF at q0;cases hit:CK ek with
    | none=>
     rw[hit] at q0;subst q0;have qm:=Ab (show DA (Af es)=.error k by
      show Cy 0 es=_;rw[(Aa HI).eq,A3 (Aa z7),Cy,<- Aa z6,hit])
     clear hit hb2;unfold opV
     go_wp2_with (fail)
     go_ret3
     refine⟨?_,(((Aa q4).trans (((Aa HI).bel.trans ((Aa qz).mono (Aa HI).bel.size)).mono (Aa q4).size)).alloc (AI (Aa q4).size (AI (Aa HI).bel.size (Aa qz).size)) _)⟩;rw[Aa HQ,Dm,Aa qm];rfl
    | some o=>
     rw[hit] at q0;obtain⟨pa,pl,pc,fa,fl,fc,y,rfl,zk⟩:=q0;obtain⟨ok,qy⟩:∃ok:Nat,ok=o.1:=⟨_,rfl⟩
     have zs:=Ab zk;have zq:=Ab hit;have zb:=Ab qy;unfold opV;rw[<- qy];have hs2:=hb2.size;have y5:=(Aa HI).bel.size;have q9:BY wr.heap.size wr ((W2.alloc (.cells #[.int .i64 ok,.slice pa pl pc,.slice fa fl fc,.pointer y] 178)).alloc (.cells #[.int .i64 ok,.slice pa pl pc,.slice fa fl fc,.pointer y] 178)):=(hb2.alloc hs2 _).alloc (by simp;omega) _;have zl:=Ab q9;have qp:=Ab ((Aa HI).own.kept ⟨q9.os,q9.tape,q9.output,q9.size,fun j hj _=>q9.block j hj⟩ (row:=none) (Classical.em _));have y8:=Ab hs2;have y9:=Ab y5;have qv:((k:Nat)+1)*64<=140737488355328:=by omega
     have zy:k+1<=maxLen:=by unfold maxLen;omega
     clear hit hb2 zk qy q9
     go_wp2_with (first
      | (at_builtin;refine wpList_append_own_at _ rfl _ _ 113 rfl w1.heap.size 178 i0 z0 4 64 underlying113 hi hz hz2 hz3 y6 (by decide) _ _ _ rfl (Aa qp) ⟨W2.heap.size+1,0,none⟩ 1 1 [.int .i64 ok,.slice pa pl pc,.slice fa fl fc,.pointer y] rfl rfl (World.news_of_block (cs:=#[.int .i64 ok,.slice pa pl pc,.slice fa fl fc,.pointer y]) (t:=178) (fr:=(0,0)) (by have:=heap_alloc_new (W2.alloc (.cells #[.int .i64 ok,.slice pa pl pc,.slice fa fl fc,.pointer y] 178)) (.cells #[.int .i64 ok,.slice pa pl pc,.slice fa fl fc,.pointer y] 178);simp_all)) (by intro u hu;simp at hu;rcases hu with rfl|rfl|rfl|rfl<;>rfl) zy qv (by simp;omega) ?_;intro v' w5 q8 q7 y4 qf))
     have zv:=Bs W2.heap.size W2;have zf:=(zv.alloc (Nat.le_refl _) (.cells #[.int .i64 ok,.slice pa pl pc,.slice fa fl fc,.pointer y] 178)).alloc (by simp) (.cells #[.int .i64 ok,.slice pa pl pc,.slice fa fl fc,.pointer y] 178);rw[Aa zb] at q8 q7 zf qf;have z1:=Aa zl;rw[Aa zb] at z1;exact⟨⟨k+1,_,_,by omega,by go_num,RdI.next (Aa HI) (Aa z7) (by rw[<- Aa z6];exact Aa zq) z1 ((Aa zs).move fun j hj qe=>⟨zf.block j qe,hj⟩) q8 q7 qf⟩,by simp[intOf];omega⟩
   ·obtain rfl:k=N:=by omega
    have hI:=Aa HI;have qw:k=es.length:=by have:=Aa z8;omega
    have zh:DA (Af es)=.ok ops:=by
     show Cy 0 es=_;rw[hI.eq,List.drop_eq_nil_of_le (by omega)];simp[Cy]
    obtain⟨ao2,cap2,g2,rfl,qt⟩:=Hh hI.own;have qd:Q (.returned (.tuple #[.slice ao2 k cap2,.int .i64 0,.bool true])) wr:=by
     rw[Aa HQ,Dm,zh];refine⟨ao2,g2,cap2,by rw[hI.len],fun hp=>?_,?_⟩
     ·obtain⟨a1,a2,a3,a4⟩:=qt (by rw[<- hI.len];exact hp);exact⟨a1,AI (Aa q4).size a3⟩
     ·refine Dx.mem (hI.rops.move fun j hj qe=>⟨rfl,?_⟩) fun hp=>(qt (by rw[<- hI.len];exact hp)).2.2.2;rcases hj.1 with⟨h1,h2⟩|h1
      ·grind
      ·exact Or.inr (AI (Aa q4).size h1)
    have qn:=Ab qd;have zn:=Ab ((Aa q4).trans (hI.bel.mono (Aa q4).size));have qx:¬ (k:Int)<(k:Int):=by omega
    clear hI qw zh qt qd
    go_wp2_with (fail)
    go_ret3
    exact⟨Aa qn,Aa zn⟩
 ·obtain⟨x,n,s,sl,mv,hv,hx⟩:∃ (x:Nat) (n:Nm) (s:By) (sl mv:A5),VB w b x n s sl mv/\x≠5:=by
   rcases h with⟨k,hk,rfl,h⟩|⟨n,rfl,h,_⟩|⟨s,rfl,h⟩|⟨es,sl,ps,rfl,h,_⟩|⟨es,m,n,D,rfl,h,_⟩
   ·grind
   ·exact⟨3,_,_,_,_,h,by omega⟩
   ·exact⟨4,_,_,_,_,h,by omega⟩
   ·grind
   ·exact⟨6,_,_,_,_,h,by omega⟩
  have hpr:DA d=.error 0:=by
   unfold DA;split
   ·rename_i es y
    exfalso
    rcases h with⟨k,_,e,h⟩|⟨n,e,h,_⟩|⟨s,e,h⟩|⟨es',sl,ps,e,_⟩|⟨es',m,n,D,e,_⟩
    ·cases e
    ·cases e
    ·cases e
    ·grind
    ·cases e
   ·rfl
  have c0:=hv.c0;have e1:((x:Int) != 5)=true:=by grind
  have qo:=Ab (show Dm F d w (.returned (.tuple #[.slice none 0 0,.int .i64 0,.bool false])) w by unfold Dm;grind);clear h hb qb hv hpr hs hT hO hK hx
  go_enter func83,ntmps83
  go_wp2_with (fail)
  go_ret3
  exact⟨Aa qo,Bs _ _⟩
end
def Vo(F:Nat->Prop)(w W0:A2)(D:Nat)(d e:Int)(v:To×eL)(l:List fO)(x:Ending)(w3:A2):Prop:=∃ (c i:Nat) (v':To×eL),x=.returned (.tuple #[.int .i64 i,.int .i64 c])/\w3.heap[w.heap.size]? = W0.heap[w.heap.size]? /\ Av F w w3 /\
 Bl w3 (FN F (w.heap.size+1)) (.pointer (some ⟨D,0,none⟩)) d e (some v')/\(match Cc d 0 v.1 [] l with
  | .error (c',i')=>c=c'/\i=i'/\v'=v
  | .ok (y,j)=>c=0/\i=0/\v'=(y,some j.reverse))
theorem RA{w W0 w9:A2}{F:Nat->Prop}{D R:Nat}{wp:A5}{d e:Int}{v:To×eL}{l:List fO}{ao:Option Addr}{g cap:Nat}(hd:Eg w F D R wp d e v)(hF:∀k,F k->NG<=k/\k<w.heap.size)(hW:BY w.heap.size w W0)(qh:W0.heap.size=w.heap.size+1)(hb:BY W0.heap.size W0 w9)(hT:Ai w9)(q6:Lh w9 (fun k=>W0.heap.size<=k) g l)(hg:0<l.length->ao=some ⟨g,0,none⟩/\W0.heap.size<=g)(qf:∀o∈l,jA (d+2) e 200000 o)(hn:l.length<=80000)(qj:d<=20):
  Calls Tryz.prog 84 #[.pointer (some ⟨D,0,none⟩),.slice ao l.length cap,.int .i64 d] w9 (Vo F w W0 D d e v l):=by
 obtain⟨T,a,iv,h1,h2,h3⟩:=hd.ex;have fD:=hd.fD;have q5:=hd.len;have q8:=hd.gd;have q9:CX W0 D R wp (.slice none 0 0) iv v.2.isSome T a v.1:=h1.move (hW.block D h1.db.lt) fun k hk=>hW.block k (h1.tr.lt k hk);have qe:GF W0 (fun k=>F k/\k≠D/\k ∉ fp (top+1) T) iv v.2:=h3.move fun k hk qd=>⟨hW.block k qd,hk⟩
 obtain⟨qo,rfl,hJ⟩:=Jz q9 hb;have qb:=h1.tr.lt;have qg:=h1.db.lt;have qi:=hb.size;have qk:=hT.ng;have q7:eG d e 200000 v.1:=⟨q8,by omega,by have:=(BT q8).2;omega⟩
 refine (Sw (d:=d) (x:=e) (g:=g) hJ hT (fun k hk=>⟨?_,fun hm=>?_,fun e=>?_⟩) (fun k hk=>⟨hk.2.2,by omega⟩) (by omega) q7 q5 (fun hp=>?_) (fun i hi=>?_) qf (by omega)).mono ?_
 ·omega
 ·have:=(hF k (h2 k hm)).1;omega
 ·have:=(hF k (e▸fD)).1;omega
 ·obtain⟨e1,e2⟩:=hg hp;obtain⟨pa,pl,pc,fa,fl,fc,y,_,q1,_⟩:=q6 0 hp;exact⟨e1,World.block_lt_of_cell? w9 _ q1,fun hm=>by have:=qb g hm;omega,fun e=>by omega⟩
 ·obtain⟨pa,pl,pc,fa,fl,fc,y,q0,q1⟩:=q6 i hi;exact⟨pa,pl,pc,fa,fl,fc,y,q0.move fun k hk qd=>⟨rfl,by grind,Or.inl hk⟩,q1⟩
 ·intro x w3 hp;have q4:∀k,k<w.heap.size -> ¬ F k->k<W0.heap.size/\k ∉ fp (top+1) T/\k≠D:=by grind
  have hq:w.heap.size<W0.heap.size/\w.heap.size ∉ fp (top+1) T/\w.heap.size≠D:=by grind
  unfold Vo;cases hr:Cc d 0 v.1 [] l with
  | error ci=>
   obtain⟨c,i⟩:=ci;rw[hr] at hp;obtain⟨rfl,p1,p2,p3,p4,p5,p6⟩:=hp;refine⟨c,i,v,rfl,p2.held _ hq,⟨p3.trans (hb.os.trans hW.os),p4.trans (hb.tape.trans hW.tape),p5.trans (hb.output.trans hW.output),by have:=hW.size;omega,fun k hk hx=>(p2.held k (q4 k hk hx)).trans (hW.block k hk)⟩,?_,rfl,rfl,rfl⟩;exact Kx q9 rfl h2 qe fD q5 q8 (fun k hk _=>by have:=(hF k hk).2;omega) (by omega) p2 p1
  | ok vj=>
   obtain⟨y,j⟩:=vj;rw[hr] at hp;obtain⟨rfl,qn,jn,T2,a2,M',wk,qm,s1,s2,s3,s4,s5,s6,s7,s8,s9⟩:=hp;have hM:∀k,k<W0.heap.size/\k ∉ fp (top+1) T/\k≠D->w3.heap[k]? = W0.heap[k]?:=fun k hk=>by
    have h4:=s2.kept k ⟨by omega,hk.2⟩;exact (s5.block k (by have:=s2.size;omega) hk.2.2).trans (h4.2.trans (hb.block k hk.1))
   refine⟨0,0,_,rfl,hM _ hq,⟨s5.os.trans (s2.os.trans (hb.os.trans hW.os)),s5.tape.trans (s2.tape.trans (hb.tape.trans hW.tape)),s5.output.trans (s2.output.trans (hb.output.trans hW.output)),by grind,fun k hk hx=>(hM k (q4 k hk hx)).trans (hW.block k hk)⟩,?_,rfl,rfl,rfl⟩;refine Kw (F:=F) (B:=w.heap.size+1) (fun k hk=>⟨h2 k hk,by have:=qb k hk;omega⟩) ⟨fD,by omega⟩ (by omega) s1 s3 s4 s5 s7 s6.gd (Mj (d:=d) (x:=e) (fun o ho=>s8 o (AT.1 ho)) ?_) fun o ho=>⟨by have:=(s8 o (AT.1 ho)).1;omega,fun h=>⟨_,_,((s8 o (AT.1 ho)).2 h).gd,((s8 o (AT.1 ho)).2 h).dd⟩⟩
   rw[List.length_reverse];omega
end Go.Proofs.YtdpomdelmdofmaaGreatDoor
