import Derived.Test.YtdpomdelmdofmaaGreatDoorP05
import Derived.Test.YtdpomdelmdofmaaGreatDoorP08
open Go renaming Value->AI,World->A1,DataW->A2,maxLen->BY,Calls->CL
open Go.Proofs.Tryz renaming prog->AS
open Go.Maps renaming has->AT,Canon->B1,size->B3
open Go.DataW renaming map->A3
open Go.Lib renaming parseUint10->A4,trimS->A5,atoiAll->CD,atoiSat->CH
open List renaming dropWhile_cons->Bs,cons_ne_nil->B4
open Prod renaming fst->B2
open Go.RowKit renaming intOf->CR
open Go.Calls renaming mono->C0
set_option maxRecDepth 100000
set_option maxHeartbeats 8000000
namespace Go.Proofs.YtdpomdelmdofmaaGreatDoor
open Go.Proofs.Tryz Go.RowKit Go.Maps
variable{f B e n m:Nat}{w':A1}{v sl:AI}{d:pL}{xs ps:List AI}{F':Nat->Prop}{es es':List (Lit×pL)}{D:List (Lit×A2 AI)}
def G6(f:Nat):Prop:=∀(F F':Nat->Prop) (w:A1) (v v':AI) (a b:pL),Rep f F w v a->Rep f F' w v' b->CB 82 #[v,v'] w (.bool (veq a b))
theorem Rep.bel{F:Nat->Prop}{w:A1}(h:Rep f F w v d)(hb:Bl w w'):Rep f F w' v d:=h.move λk h1 h2=>⟨hb.block k h2,h1⟩
theorem DP{w:A1}(h:w.ownsRow B e 1 v n xs)(h0:n=0):∃a c,v=.slice a 0 c:=by
 rcases h.2 with⟨e,_⟩|⟨g,cap,cur,e,_⟩
 .grind
 grind
theorem BK{w:A1}(h:w.ownsRow B e 1 v n xs):∃a c,v=.slice a n c:=by
 rcases h.2 with⟨e,h0⟩|⟨g,cap,cur,e,_⟩
 .grind
 grind
theorem iC(hS:G6 f){w:A1}{F:Nat->Prop}{B':Nat}{sl':AI}{q4:List AI}{es es':List pL}(ho:w.ownsRow B 80 1 sl ps.length ps)(ho':w.ownsRow B' 80 1 sl' q4.length q4)(ha:Al (Rep f F w) ps es)(q6:Al (Rep f F' w) q4 es')(qr:ps.length<=BY)(qb:q4.length<=BY):
  CB 112 #[sl,sl',.func (.func 82) #[] #[]] w (.bool (veq (Ak es) (Ak es'))):=by
 have hl:=ha.length;have q8:=q6.length;obtain⟨N,hN⟩:∃N,N=ps.length:=⟨_,rfl⟩
 obtain⟨N',q5⟩:∃N',N'=q4.length:=⟨_,rfl⟩
 have qt:(N:Int)<=9223372036854775807:=by unfold BY at qr;omega
 have qu:(N':Int)<=9223372036854775807:=by unfold BY at qb;omega
 by_cases hne:N=N'
 .by_cases h0:N=0
  .obtain⟨a,c,rfl⟩:=DP ho ζ;obtain⟨a',c',rfl⟩:=DP ho' ζ;have e1:es=[]:=ε;have e2:es'=[]:=ε;have HV:=Ab (CS (show Ak es=Ak es' by rw[e1,e2]));rw[<-hN,h0]at ho;rw[<-q5,<-hne,h0]at ho';clear ho ho' ha q6 hl q8 e1 e2 hS hN q5 hne;go_enter func112,ntmps112;go_wp2_with fail;refine ø 1 ?_;rw[ď];go_wp2;go_ret;exact⟨by rw[HV.u];rfl,Â _ _⟩
  .obtain⟨g1,p1,rfl,a1,b1,l1,qh⟩:=AP ho ζ;obtain⟨g2,p2,rfl,a2,b2,l2,qi⟩:=AP ho' ζ;unfold SlB;have qn:=Ab qh;have qo:=Ab qi;have HA:=Ab ha;have qm:=Ab q6;have HS:=Ab hS;have HN:=Ab hN;have qg:=Ab q5;have HL:=Ab hl;have qf:=Ab q8;rw[<-hN]at a1 |-;rw[<-q5]at a2 |-;subst hne;clear ho ho' ha q6 hl q8 hS hN q5 qh qi h0;go_enter func112,ntmps112;go_wp2;go_loopw [17] (λi wr=>∃k:Nat,k<=N/\i=InB k/\es.take k=es'.take k/\Bl w wr) (λi _=>N-(CR i).toNat)
   case atStart=>exact⟨0,ζ,rfl,φ,Â _ _⟩
   case round=>
    obtain⟨k,hk,rfl,qj,hb⟩:=hrel;have qe:=Ab qj;have HB:=Ab hb;clear qj;by_cases hlt:k<N
    .have h1:k<ps.length:=by have:=HN.u;omega
     have h2:k<q4.length:=by have:=qg.u;omega
     have h3:k<es.length:=by have:=HL.u;omega
     have h4:k<es'.length:=by have:=qf.u;omega
     have q1:=(hb.cell (p:=⟨g1,k,none⟩) l1).trans (qn.u k h1);have q2:=(hb.cell (p:=⟨g2,k,none⟩) l2).trans (qo.u k h2);have q0:=Ab (HS.u F F' wr ps[k] q4[k] es[k] es'[k] ((HA.u.get k h1 h3).bel hb) ((qm.u.get k h2 h4).bel hb));have qk:es.take (k+1)=es'.take (k+1)<->es[k]=es'[k]:=by
      rw[Í h3,Í h4,qe.u];exact⟨λh=>List.singleton_inj.1 (List.append_cancel_left h),λh=>by rw[h]⟩
     have qq:=Ab qk;generalize ps[k]=pk at*;generalize q4[k]=pk' at*;clear qk hb;go_wp2_with fail;refine q0.u.mono ?_;rintro e w2⟨rfl,hb2⟩;have qd:=Ab (HB.u.trans (hb2.mono HB.u.size));clear hb2 q0;by_cases q7:es[k]=es'[k]
     .rw[CS q7];have q9:=Ab (qq.u.2 q7);clear q7;go_wp2;exact⟨⟨k+1,ζ,ψ,q9.u,qd.u⟩,by simp only[CR];omega⟩
     .rw[BU q7];have HV:=Ab (BU (a:=Ak es) (b:=Ak es') (λh=>by
       have h5:es=es':=by unfold Ak at h;injection h
       grind))
      clear q7;go_wp2;go_ret;exact⟨by rw[HV.u];rfl,qd.u⟩
    .have HV:=Ab (CS (show Ak es=Ak es' by
      have h5:=qe.u;rw[Ï (by have:=HN.u;have:=HL.u;omega),Ï (by have:=qg.u;have:=qf.u;omega)]at h5;rw[h5]))
     go_wp2;go_ret;exact⟨by rw[HV.u];rfl,hb⟩
 .obtain⟨a,c,rfl⟩:=BK ho;obtain⟨a',c',rfl⟩:=BK ho';have HV:=Ab (BU (a:=Ak es) (b:=Ak es') (λh=>by
   have h5:es=es':=by unfold Ak at h;injection h
   grind))
  have e0:((N:Int)==(N':Int))=false:=ε;have e1:((N:Int)!=(N':Int))=true:=ε;rw[<-hN,<-q5];clear ho ho' ha q6 hl q8 hS hN q5 hne;go_enter func112,ntmps112;go_wp2;go_ret;exact⟨by rw[HV.u];rfl,Â _ _⟩
theorem Pe{α:Type}:∀{l m:List α},l.Pairwise (· ≠ ·)->(∀x∈l,x∈m)->m.length<=l.length ->∀x∈m,x∈l
 |[],m,_,_,h,x,hx=>by
  grind
 |a::l,m,hp,hs,h,x,hx=>by
  obtain⟨h1,h2⟩:=ô.1 hp;obtain⟨m1,m2,rfl⟩:=List.append_of_mem (hs a (â ..));have ih:=Pe (l:=l) (m:=m1++m2) h2 (λy hy=>by
   grind) ε
  grind
theorem Pt.fsts{P:AI->pL->Prop}:∀{l:List (Lit×A2 AI)}{m:List (Lit×pL)},Pt P l m->l.map B2=m.map B2
 |[],[],_=>rfl
 |a::_,b::_,⟨⟨k,_⟩,t⟩=>by
  have:=Pt.fsts t;grind
theorem Pt.size{P:AI->pL->Prop}{l:List (Lit×A2 AI)}{m:List (Lit×pL)}(h:Pt P l m):l.length=m.length:=by
 have:=congrArg List.length h.fsts;grind
theorem Co{H:Type}(es:List (Lit×A2 H))(k:Lit)(z:A2 H):(A3 es).atKey k z=(match es.find? (λp=>p.1.sameKey k)with|some p=>p.2|none=>z):=rfl
theorem Jk{α:Type}{p:Lit×α->Bool}{a:Lit×α}{l:List (Lit×α)}(h:p a=true):(a::l).find? p=some a:=List.find?_cons_of_pos h
theorem KF{α:Type}{p:Lit×α->Bool}{a:Lit×α}{l:List (Lit×α)}(h:¬p a=true):(a::l).find? p=l.find? p:=List.find?_cons_of_neg h
theorem Pt.at{P:AI->pL->Prop}(k:Lit):∀{l:List (Lit×A2 AI)}{m:List (Lit×pL)},Pt P l m->AT (.map l) k=true ->∃x,(∀z,(A3 l).atKey k z=.held x)/\P x ((A3 m).atKey k .nil)
 |[],[],_,h=>by cases h
 |a::r,b::s,⟨⟨kk,x,e,g⟩,t⟩,h=>by
  by_cases hk:a.1.sameKey k=true
  .refine⟨x,λz=>?_,?_⟩
   .rw[Co,Jk (p:=λp=>p.1.sameKey k) hk];exact e
   .rw[Co,Jk (p:=λp=>p.1.sameKey k) ε];exact g
  .have h2:AT (.map r) k=true:=by
    have h3:(a.1.sameKey k || r.any λp=>p.1.sameKey k)=true:=h;rw[Bool.eq_false_iff.2 hk,Bool.false_or]at h3;exact h3
   obtain⟨x',e1,e2⟩:=Pt.at k t h2;refine⟨x',λz=>?_,?_⟩
   .rw[Co,KF (p:=λp=>p.1.sameKey k) hk];exact e1 z
   .rw[Co,KF (p:=λp=>p.1.sameKey k) ε];exact e2
theorem Pt.canon{P:AI->pL->Prop}{l:List (Lit×A2 AI)}{m:List (Lit×pL)}(h:Pt P l m)(c:B1 (.map l:A2 AI)):B1 (.map m:A2 Unit):=by
 obtain⟨es,he,hp,hk⟩:=c;cases he;refine⟨m,rfl,?_,?_⟩
 .have h1:(l.map B2).Pairwise (λa b=>a.before b=true):=Ć.2 hp;rw[h.fsts]at h1;grind
 .intro p q0;have h1:p.1∈l.map B2:=by rw[h.fsts];grind
  grind
theorem PF(c:B1 (.map es:A2 Unit))(c':B1 (.map es':A2 Unit))(hl:es.length=es'.length)(h:∀k,AT (.map es:A2 Unit) k=true->AT (.map es':A2 Unit) k=true/\(A3 es).atKey k .nil=(A3 es').atKey k .nil):Ap es=Ap es':=by
 obtain⟨_,he,hp,hk⟩:=c;cases he;obtain⟨_,he,q8,q9⟩:=c';cases he;have q6:=apart_of_rising hp;have q0:=apart_of_rising q8;have q5:∀p∈es,p∈es':=λp q4=>by
  have h1:AT (.map es:A2 Unit) p.1=true:=è.2 ⟨p,q4,î (hk p q4)⟩;obtain⟨h2,h3⟩:=h p.1 h1;obtain⟨q,hq,hs⟩:=è.1 (show es'.any (λq=>q.1.sameKey p.1)=true from h2);have e1:q.1=p.1:=ć hs;have e2:=Ă .nil (hk p q4) q6 ζ;have e3:=Ă .nil (q9 q hq) q0 ζ;grind
 have hne:es.Pairwise (· ≠ ·):=q6.imp ε;have q7:=Pe hne q5 ζ;unfold Ap;rw[eq_of_mem_rising hp q8 ε]
theorem PG{k:Lit}(h1:AT (.map es:A2 Unit) k=true)(h:AT (.map es':A2 Unit) k=true->(A3 es).atKey k .nil≠(A3 es').atKey k .nil):Ap es≠Ap es':=by
 intro e;unfold Ap at e;grind
def Vm(es es':List (Lit×pL))(left:Lit->Bool):Prop:=
 ∀k,AT (.map es:A2 Unit) k=true->left k=false->AT (.map es':A2 Unit) k=true/\(A3 es).atKey k .nil=(A3 es').atKey k .nil
theorem Vm.step{left:Lit->Bool}{kl:Lit}(h:Vm es es' left)(h2:AT (.map es':A2 Unit) kl=true)(h3:(A3 es).atKey kl .nil=(A3 es').atKey kl .nil):Vm es es' (λz=>left z && !z.sameKey kl):=by
 intro k hk hl;cases h4:left k
 .exact h k hk h4
 .have h5:(left k && !k.sameKey kl)=false:=hl;rw[h4]at h5;have:k=kl:=ć ε;grind
theorem Cl{w:A1}(h:w.grownBy w' none):Bl w w':=(Â _ _).grown h (Á _) (λj hj=>by cases hj)
theorem Cj{w:A1}(h:Bl w w'):w.grownBy w' none:=⟨h.os,h.tape,h.output,h.size,λi hi _=>h.block i hi⟩
theorem Eb{x:AI}{d:A2 AI}{ps:List MemPlace}(h:RV v=some (d,ps))(e:d=.held x):v=x/\ps=[]:=by
 have h1:=Î h;grind
theorem iD(hS:G6 f){w:A1}{F:Nat->Prop}{m' n':Nat}{D':List (Lit×A2 AI)}(ho:w.ownsMap AS 9 RV m n (.map D))(ho':w.ownsMap AS 9 RV m' n' (.map D'))(hp:Pt (Rep f F w) D es)(qi:Pt (Rep f F' w) D' es'):
  CB 113 #[.map (some m),.map (some m'),.func (.func 82) #[] #[]] w (.bool (veq (Ap es) (Ap es'))):=by
 have qb:=C9;have qt:=DI;have l1:=λty=>ho.len (t:=109) underlying109 ty;have l2:=λty=>ho'.len (t:=109) underlying109 ty;have zc:=ho'.lt;have C1:=Ab (hp.canon (ho.canon qb));have C2:=Ab (qi.canon (ho'.canon qb));have HP:=Ab hp;have qk:=Ab qi;have HS:=Ab hS;have L1:=Ab hp.size;have L2:=Ab qi.size;clear hp qi hS;by_cases hsz:B3 (.map D:A2 AI)=B3 (.map D':A2 AI)
 .have HZ:=Ab hsz;go_enter func113,ntmps113;go_wp2_with (first
   |(at_range;refine wpList_range_own _ rfl _ 109 rfl 9 80 qb underlying109 RV m n _ rfl ho ?_;intro w0 qu qy ze)
   |go_in)
  go_frame
  go_loopw [18] (λ_ wr=>∃(left:Lit->Bool) (cnt:Nat),wr.ranges AS 9 RV m w.1.size n (.map D) left cnt/\wr.ownsMap AS 9 RV m' n' (.map D')/\w.grownBy wr none/\Hid (Vm es es' left))
   (λ_ wr=>wr.rangeLeft m w.1.size)
  case atStart=>
   refine⟨_,_,qu,ho'.kept qy φ,qy,?_⟩;intro k hk hl;rw[HP.u.has k,hk]at hl;cases hl
  case round=>
   obtain⟨left,cnt,z2,z5,z0,G⟩:=hrel;go_wp2_with (first
    |(at_next;refine wpList_next_ranges _ rfl _ rfl 9 qb RV id id (λkey _ _=>⟨key,rfl⟩) (λv _ _=>⟨v,rfl⟩) m w.1.size n _ _ _ rfl z2 ?_ ?_)
    |go_in)
   .intro _ hl0;have HV:=Ab (CS (PF C1.u C2.u (by
     have h1:=L1.u;have h2:=L2.u;have h3:D.length=D'.length:=HZ.u;omega) (λk hk=>G.u k hk (hl0 k))))
    go_wp2;go_ret;exact⟨by rw[HV.u];rfl,Cl z0⟩
   .intro x c kl yd yp w1 qn q9 zb hv qq qv hlt qz zf za;have q0:w.grownBy w1 none:=z0.andThen qz ε;have q4:=z5.kept qz ε;have qe:DataW.held c=yd:=congrArg B2 (Î hv);subst qe;have q7:AT (.map D) kl=true:=has_true_of_atKey qq;obtain⟨c',e1,qg⟩:=HP.u.at kl q7;have e2:c'=c:=by
     simp_all
    subst e2;have qf:AT (.map es:A2 Unit) kl=true:=by rw[<-HP.u.has kl];exact q7
    have z8:=Ab qq;have qm:=Ab qg;have qw:=Ab qf;have z9:=Ab e1;clear qq qg qf e1 q7 hv;cases hh:AT (.map D':A2 AI) kl
    .have q8:=Ab (BU (PG qw.u (λh=>by
      rw[<-qk.u.has kl,hh]at h;cases h)))
     go_wp2_with (first
      |(at_lookup;refine ï _ rfl _ _ 109 rfl 9 80 qb underlying109 RV (qt _) (.held (.pointer none)) [] rfl m' n' (.map D') rfl q4 _ kl rfl q9 ?_;intro v2 z3 qe;rw[hh];go_frame)
      |go_in)
     go_ret;exact⟨by rw[q8.u];rfl,Cl q0⟩
    .obtain⟨c2,e4,q6⟩:=qk.u.at kl hh;have q5:=Ab (HS.u F F' w1 c' c2 _ _ (qm.u.bel (Cl q0)) (q6.bel (Cl q0)));have z1:AT (.map es':A2 Unit) kl=true:=by rw[<-qk.u.has kl];exact hh
     have qj:=Ab z1;clear z1 q6;by_cases qd:(A3 es).atKey kl .nil=(A3 es').atKey kl .nil
     .have z7:=Ab (CS qd);have z4:=Ab qd;clear qd;go_wp2_with (first
       |(at_lookup;refine ï _ rfl _ _ 109 rfl 9 80 qb underlying109 RV (qt _) (.held (.pointer none)) [] rfl m' n' (.map D') rfl q4 _ kl rfl q9 ?_;intro v2 z3 qe;rw[hh];obtain⟨rfl,_⟩:=Eb qe (e4 _);go_frame;have hc:=q5.u;rw[z7.u]at hc)
       )
      refine hc.mono ?_;rintro e w2⟨rfl,hb2⟩;go_wp2_with fail;have qh:=qv.kept (Cj hb2) φ φ;have qr:=q0.andThen (Cj hb2) (λj hj=>by cases hj);have qo:=q4.kept (Cj hb2) φ;go_roundw
      case rel=>exact⟨_,qn,qh,qo,qr,G.u.step qj.u z4.u⟩
      grind [Ap,qh.left_eq,z2.left_eq]
     .have z6:=Ab (BU qd);have q8:=Ab (BU (PG (es':=es') qw.u (λ_=>qd)));clear qd;go_wp2_with (first
       |(at_lookup;refine ï _ rfl _ _ 109 rfl 9 80 qb underlying109 RV (qt _) (.held (.pointer none)) [] rfl m' n' (.map D') rfl q4 _ kl rfl q9 ?_;intro v2 z3 qe;rw[hh];obtain⟨rfl,_⟩:=Eb qe (e4 _);go_frame;have hc:=q5.u;rw[z6.u]at hc)
       )
      refine hc.mono ?_;rintro e w2⟨rfl,hb2⟩;go_wp2;go_ret;exact⟨by rw[q8.u];rfl,Cl (q0.andThen (Cj hb2) (λj hj=>by cases hj))⟩
 .have hne:¬((B3 (.map D:A2 AI):Int)=(B3 (.map D':A2 AI):Int)):=ζ;have HV:=Ab (BU (a:=Ap es) (b:=Ap es') (λe=>by
   unfold Ap at e;injection e with e;have h1:=L1.u;have h2:=L2.u;rw[e]at h1;exact hsz (show D.length=D'.length from ζ)))
  go_enter func113,ntmps113;go_wp2;go_ret;exact⟨by rw[HV.u];rfl,Â _ _⟩
theorem EI{w:A1}(h:w.ownsRow B e 1 v n xs):n<=BY:=by
 rcases h.2 with⟨_,h0⟩|⟨g,cap,cur,_,_,_,h4,h5,_⟩
 .omega
 .omega
section
variable{w:A1}{b b':Nat}
theorem YL(hS:G6 f){F:Nat->Prop}{sl':AI}{q0:List AI}{es es':List pL}(h:VB w b 5 n0 [] sl (.map none))(h':VB w b' 5 n0 [] sl' (.map none))(ho:w.ownsRow 0 80 1 sl ps.length ps)(ho':w.ownsRow 0 80 1 sl' q0.length q0)(ha:Al (Rep f F w) ps es)(q4:Al (Rep f F' w) q0 es'):
  CB 82 #[PtB b,.pointer (some ⟨b',0,none⟩)] w (.bool (veq (Ak es) (Ak es'))):=by
 have c0:=h.c0;have d0:=h'.c0;have c5:=h.c5;have d5:=h'.c5;have hc:=Ab (show∀w1:A1,Bl w w1->CB 112 #[sl,sl',.func (.func 82) #[] #[]] w1 (.bool (veq (Ak es) (Ak es')))from λw1 hb=>
  iC hS (Am ho (λg hg=>hb.block g (Af ho g hg).1)) (Am ho' (λg hg=>hb.block g (Af ho' g hg).1)) (ha.mono λ_ _ h=>h.bel hb) (q4.mono λ_ _ h=>h.bel hb) (EI ho) (EI ho'))
 clear h h' ho ho' ha q4 hS;generalize veq (Ak es) (Ak es')=r at*;go_enter func82,ntmps82;go_wp2_with fail;go_quiet(fail);go_wp2_with fail;go_region_with (go_at_call 112;refine(hc.u _ ?_).mono ?_;exact⟨rfl,rfl,rfl,Á _,λ_ _=>rfl⟩;rintro e w2⟨rfl,hb⟩);all_goals (
  replace hb:Bl w w2:=bx hb;go_wp2;go_ret;exact⟨rfl,hb⟩)
theorem YJ(hS:G6 f){F:Nat->Prop}{m' n':Nat}{D':List (Lit×A2 AI)}(h:VB w b 6 n0 [] (.slice none 0 0) (.map (some m)))(h':VB w b' 6 n0 [] (.slice none 0 0) (.map (some m')))(ho:w.ownsMap AS 9 RV m n (.map D))(ho':w.ownsMap AS 9 RV m' n' (.map D'))(hp:Pt (Rep f F w) D es)(q0:Pt (Rep f F' w) D' es'):
  CB 82 #[PtB b,.pointer (some ⟨b',0,none⟩)] w (.bool (veq (Ap es) (Ap es'))):=by
 have c0:=h.c0;have d0:=h'.c0;have c6:=h.c6;have d6:=h'.c6;have hc:=Ab (show∀w1:A1,Bl w w1->CB 113 #[.map (some m),.map (some m'),.func (.func 82) #[] #[]] w1 (.bool (veq (Ap es) (Ap es')))from λw1 hb=>
  iD hS (A0 ho (hb.block m (CV ho))) (A0 ho' (hb.block m' (CV ho'))) (hp.mono λ_ _ h=>h.bel hb) (q0.mono λ_ _ h=>h.bel hb))
 clear h h' ho ho' hp q0 hS;generalize veq (Ap es) (Ap es')=r at*;go_enter func82,ntmps82;go_wp2_with fail;go_quiet(fail);go_wp2_with fail;go_region_with (go_at_call 113;refine(hc.u _ ?_).mono ?_;exact⟨rfl,rfl,rfl,Á _,λ_ _=>rfl⟩;rintro e w2⟨rfl,hb⟩);all_goals (
  replace hb:Bl w w2:=bx hb;go_wp2;go_ret;exact⟨rfl,hb⟩)
end
theorem ID{n n':Nm}(h:Bm n=Bm n'):n=n':=by
 grind [Bm,DataW.agg.injEq,List.cons.injEq]
theorem dS(n n':Nm):veq (Bm n) (Bm n')=decide (n=n'):=by
 by_cases h:n=n'
 .rw[CS (by rw[h]),decide_eq_true h]
 .rw[BU (λe=>h (ID e)),decide_eq_false h]
theorem dR(s s':By):veq (Av s) (Av s')=(s==s'):=by
 by_cases h:s=s'
 .rw[CS (by rw[h]),beq_iff_eq.2 h]
 .rw[BU (λe=>h (by unfold Av at e;grind)),beq_eq_false_iff_ne.2 h]
theorem VT(hS:G6 f):G6 (f+1):=by
 intro F F' w v v' a b ha hb;obtain⟨p,rfl,_,ha⟩:=ha;obtain⟨p',rfl,_,hb⟩:=hb;rcases ha with⟨k,hk,rfl,h⟩|⟨n,rfl,h,_⟩|⟨s,rfl,h⟩|⟨es,sl,ps,rfl,h,ho,_,hal⟩|⟨es,m,n,D,rfl,h,_,ho,hp⟩ <;>
  rcases hb with⟨k',q5,rfl,h'⟩|⟨n',rfl,h',_⟩|⟨s',rfl,h'⟩|⟨es',sl',q6,rfl,h',ho',_,q0⟩|⟨es',m',n',D',rfl,h',_,ho',q4⟩
 case inl.inl=>
  by_cases e:k=k'
  .subst e;rw[CS rfl];exact VS hk h h'
  .rw[BU (λe1=>e (by grind [BG,Bm,Av]))];exact Nv h h' ζ
 case inr.inl.inr.inl=>rw[dS];exact YK h h'
 case inr.inr.inl.inr.inr.inl=>rw[dR];exact YI h h'
 case inr.inr.inr.inl.inr.inr.inr.inl=>exact YL hS h h' ho ho' hal q0
 case inr.inr.inr.inr.inr.inr.inr.inr=>exact YJ hS h h' ho ho' hp q4
 all_goals (
  rw[BU (by intro e;simp[BG,Bm,Av,Ak,Ap]at e)];exact Nv h h' ζ)
theorem Lx:∀f,G6 f
 |0=>λ_ _ _ _ _ _ _ h=>h.elim
 |f+1=>VT (Lx f)
theorem Hp{α:Type}(p:α->Bool):∀{l:List α},l.dropWhile p=[]<->l.all p=true
 |[]=>φ
 |a::r=>by
  rw[Bs,Ő];cases h:p a
  .simp
  .simp only[if_true,Bool.true_and];exact Hp p
theorem Mv{α:Type}(p:α->Bool):∀{l:List α}{a:α}{r:List α},l.dropWhile p=a::r->p a=false
 |[],_,_,h=>by cases h
 |b::s,a,r,h=>by
  rw[Bs]at h;cases hb:p b
  .grind
  .rw[hb]at h;simp only[if_true]at h;exact Mv p h
theorem Np(l cs:List UInt8):A5 l cs=[]<->l.all (cs.contains ·)=true:=by
 have h1:A5 l cs=((l.reverse.dropWhile (cs.contains ·)).reverse).dropWhile (cs.contains ·):=rfl;rw[h1];constructor
 .intro h;have h2:=(Hp _).1 h;cases hd:l.reverse.dropWhile (cs.contains ·)with
  |nil=>
   have h3:=(Hp _).1 hd;grind
  |cons a r=>
   have h4:=Mv _ hd;grind
 .intro h;have h3:l.reverse.dropWhile (cs.contains ·)=[]:=(Hp _).2 ε;simp_all
theorem NO:∀(l:By) (q0:Nat),q0<18446744073709551616->l.all (sB.contains ·)=true ->
  (A4 q0 l=.ok (sG q0 l)/\sG q0 l<18446744073709551616)\/(A4 q0 l=.range/\18446744073709551616<=sG q0 l)
 |[],q0,ha,_=>Å ⟨rfl,ha⟩
 |c::r,q0,ha,h=>by
  rw[Ő,ō]at h;obtain⟨hc,hr⟩:=h;obtain⟨c1,c2⟩:=KH c hc;have q4:sG q0 (c::r)=sG (q0*10+(c.toNat-48)) r:=rfl;rw[q4];have q5:∀(l:By) (a:Nat),a<=sG a l:=by
   intro l;induction l with
   |nil=>intro a;exact Á _
   |cons d s ih=>intro a;exact Ã ζ (ih (a*10+(d.toNat-48)))
  have h0:=q5 r (q0*10+(c.toNat-48));simp only[A4];rw[if_pos ζ];split
  .grind
  .split
   .grind
   .exact NO r _ ζ hr
theorem RI{t:By}(hne:t≠[])(h:t.all (sB.contains ·)=true):
  (CD t=.ok (sG 0 t:Nat)/\sG 0 t<9223372036854775808)\/(CD t=.range/\CH t=9223372036854775807/\9223372036854775808<=sG 0 t):=by
 cases t with
 |nil=>grind
 |cons c r=>
  have hc:sB.contains c=true:=ε;obtain⟨c1,c2⟩:=KH c hc;have n1:¬(c.toNat=43\/c.toNat=45):=ζ;have n2:¬(c.toNat=45):=ζ;have hs:CH (c::r)=9223372036854775807:=by
   unfold CH;grind
  have hp:=NO (c::r) 0 ζ h;unfold CD;simp only[if_neg n1,Lib.parseMag,if_neg (B4 c r)];grind
theorem Yt(t:By)(w:A1)(h:t.length<=1048576):
  CB 195 #[.string ⟨t.toArray⟩,.string ⟨#[48,49,50,51,52,53,54,55,56,57]⟩] w (.string ⟨(A5 t sB).toArray⟩):=
 Any.strings_Trim_laid Tryz.lays160 δ ⟨t.toArray⟩ ⟨#[48,49,50,51,52,53,54,55,56,57]⟩ w (by rw[AD];omega) η (ascii_of_all η)
theorem Rng.kept{w:A1}(h:Rng w)(hb:Bl w w'):Rng w':=by
 obtain⟨ev,h1,h2⟩:=h;refine⟨ev,?_,h2⟩;have:9<w.1.size:=Lib.lt_of_cell h1;exact(hb.cell (p:=⟨9,0,none⟩) this).trans h1
theorem bZ(t:By)(w:A1)(h:t.length<=1048576)(hne:t≠[])(hd:t.all (sB.contains ·)=true)(hr:Rng w):
  CL AS 196 #[.string ⟨t.toArray⟩] w λe w'=>∃x,e=.returned (.tuple #[InB (min (sG 0 t) 9223372036854775807:Nat),x])/\Bl w w':=by
 obtain⟨ev,hv,q0⟩:=hr;rcases RI hne hd with⟨h1,h2⟩|⟨h1,h2,h3⟩
 .have hm:min (sG 0 t) 9223372036854775807=sG 0 t:=ζ;rw[hm];refine C0 (Any.strconv_Atoi_ok Tryz.laysC172 ⟨t.toArray⟩ (by rw[AD];omega) (sG 0 t:Nat) h1 w) ?_;rintro e w' ⟨rfl,hw⟩;refine⟨_,rfl,?_⟩;rcases hw with rfl|⟨x,rfl⟩
  .exact Â _ _
  .exact Lib.bytesWorld_below _ _ _
 .have hm:min (sG 0 t) 9223372036854775807=9223372036854775807:=ζ;rw[hm];refine C0 (Any.strconv_Atoi_range Tryz.laysC172 ⟨t.toArray⟩ (by rw[AD];omega) h1 ev w hv q0) ?_;grind
theorem dB{X:ByteArray}(h:X.size=0):X.toList.isEmpty=true:=by
 simp_all
theorem nX{X:ByteArray}(h:0<X.size):X.toList.isEmpty=false:=by
 rw[ByteArray.toList_eq];have:=Ė X;grind
def FY(o:Option Nat):AI:=match o with
 |none=>.tuple #[InB 0,.bool false]
 |some n=>.tuple #[InB n,.bool true]
theorem Hu(t:By)(w:A1)(h:t.length<=1048576)(hr:Rng w):
  CB 147 #[.string ⟨t.toArray⟩] w (FY (qG t)):=by
 match t,h with
 |[],_=>
  rw[GN (Å rfl)];have e1:=dB (X:=⟨([]:By).toArray⟩) rfl;have e2:¬(1:Int)<((⟨([]:By).toArray⟩:ByteArray).size:Int):=η;go_enter func147,ntmps147;go_wp2;go_ret2;exact⟨rfl,Â _ _⟩
 |c::r,h=>
  have hsz:(⟨(c::r).toArray⟩:ByteArray).size=r.length+1:=θ;obtain⟨X,hX⟩:∃X:ByteArray,X=⟨(c::r).toArray⟩:=⟨_,rfl⟩
  have e1:=nX (X:=X) ε;have q0:0<X.size:=ε;have hg:X[0]'q0=c:=by subst hX;rfl
  rw[<-hX];rw[<-hX]at hsz;by_cases hn:1<(c::r).length/\c=48
  .rw[GN ε];have e2:(1:Int)<(X.size:Int):=ε;have e3:X[0]'q0=48:=ε;clear h hX hg;go_enter func147,ntmps147;go_wp2;go_ret2;exact⟨rfl,Â _ _⟩
  .have hno:((decide ((1:Int)<(X.size:Int))) && (decide (X[0]'q0=48)))=false:=by
    grind
   have ht:=Ab (Yt (c::r) w h);have hx:¬(1:Int)<(X.size:Int)\/((1:Int)<(X.size:Int)/\¬((X[0]'q0).toNat:Int)=48):=by
    by_cases h1:(1:Int)<(X.size:Int)
    .refine À ⟨h1,λe=>?_⟩;have e9:X[0]'q0=48:=ì.1 ε;grind
    omega
   clear hno hg;by_cases hd:(c::r).all (sB.contains ·)=true
   .have hne:c::r≠[]:=B4 _ _;have hi:qG (c::r)=some (min (sG 0 (c::r)) 9223372036854775807):=Lj (by
     grind)
    rw[hi];have q4:=Ab (λw2 (hb:Bl w w2)=>bZ (c::r) w2 h hne hd (hr.kept hb));rw[(Np _ _).2 hd]at ht;have e4:=dB (X:=⟨([]:By).toArray⟩) rfl;generalize min (sG 0 (c::r)) 9223372036854775807=nn at*;rw[<-hX]at ht q4;clear hX hd hne h hn hsz hi hr;rcases hx with h1|⟨h1,h2⟩;all_goals (
     go_enter func147,ntmps147;go_wp2_with fail;refine ht.u.mono ?_;rintro e w2⟨rfl,hb⟩;have q6:=Ab (q4.u w2 hb);have HB:=Ab hb;clear q4 hb;go_wp2_with fail;refine q6.u.mono ?_;rintro e w3⟨x,rfl,hb3⟩;go_wp2;go_ret2;exact⟨rfl,HB.u.trans (hb3.mono HB.u.size)⟩)
   .have q5:(c::r).all (sB.contains ·)=false:=ε;rw[GN (À (À q5))];have hne:A5 (c::r) sB≠[]:=λe=>hd ((Np _ _).1 e);generalize A5 (c::r) sB=Y at*;have e4:Y.isEmpty=false:=ε;rw[<-hX]at ht;clear hX hd q5 hne h hn hsz hr;rcases hx with h1|⟨h1,h2⟩;all_goals (
     go_enter func147,ntmps147;go_wp2_with fail;refine ht.u.mono ?_;rintro e w2⟨rfl,hb⟩;go_wp2;go_ret2;exact⟨rfl,hb⟩)
def Na(F:Nat->Prop)(w:A1)(v:AI)(d:pL):Prop:=∃f,Rep f F w v d
def Out(F:Nat->Prop)(r:Except Nat pL)(e:Ending)(w':A1):Prop:=match r with
 |.ok d=>∃v,e=.returned (.tuple #[v,InB 0])/\Na F w' v d
 |.error c=>e=.returned (.tuple #[.pointer none,InB c])
theorem Gy(s:By)(h:s.length<=1048576):keyOf AS 9 (.string ⟨s.toArray⟩)=some (.string s):=by
 have:=Go.WideMaps.keyOf_string_mk underlying9 (s:=⟨s.toArray⟩) (by rw[AD];unfold BY;omega);omega
section
variable{w:A1}{b:Nat}{F:Nat->Prop}{t:By}
theorem Ei{k:Nat}(hk:k<5){n:Nm}{s:By}{mp:AI}(h:VB w b k n s sl mp):
  CB 111 #[PtB b,.string ⟨t.toArray⟩] w (.tuple #[.pointer none,InB 11]):=by
 have c0:=h.c0;clear h;have e5:((k:Int)==5)=false:=ε;have e6:((k:Int)==6)=false:=ε;go_enter func111,ntmps111;go_wp2;go_ret2;exact⟨rfl,Â _ _⟩
theorem XS(ht:t.length<=1048576)(h:VB w b 6 n0 [] (.slice none 0 0) (.map (some m)))(ho:w.ownsMap AS 9 RV m n (.map D))(hp:Pt (Rep f F w) D es):
  CL AS 111 #[PtB b,.string ⟨t.toArray⟩] w λe w'=>Out F (qA (Ap es) t) e w'/\Bl w w':=by
 have q7:=Ab C9;have q8:=Ab (λw=>DI w);have c0:=h.c0;have c6:=h.c6;have q6:=Ab (Gy t ht);have HH:=hp.has (.string t);obtain⟨R,hR⟩:∃R,R=qA (Ap es) t:=⟨_,rfl⟩
 rw[<-hR];unfold qA Ap at hR;simp only at hR;cases hh:AT (.map D:A2 AI) (.string t)with
 |false=>
  rw[hh]at HH;rw[<-HH,if_neg η]at hR;have q0:=Ab (show Out F R (.returned (.tuple #[.pointer none,InB 11])) w by rw[hR];rfl);have HO:=Ab ho;have q4:=Ab hh;clear hp h hR ho hh HH;go_enter func111,ntmps111;go_wp2_with (first|(at_lookup;refine ï _ rfl _ _ 109 rfl 9 80 q7.u underlying109 RV (q8.u _) (.held (.pointer none)) [] rfl m n (.map D) rfl HO.u _ _ rfl q6.u ?_;intro v2 qb q9;rw[q4.u]));go_ret2;exact⟨q0.u,Â _ _⟩
 |true=>
  rw[hh]at HH;rw[<-HH,if_pos rfl]at hR;obtain⟨x,e4,q5⟩:=hp.at (.string t) hh;have q0:=Ab (show Out F R (.returned (.tuple #[x,InB 0])) w by rw[hR];exact⟨_,rfl,_,q5⟩);have HO:=Ab ho;have q4:=Ab hh;clear hp h hR ho hh HH;go_enter func111,ntmps111;go_wp2_with (first|(at_lookup;refine ï _ rfl _ _ 109 rfl 9 80 q7.u underlying109 RV (q8.u _) (.held (.pointer none)) [] rfl m n (.map D) rfl HO.u _ _ rfl q6.u ?_;intro v2 qb q9;rw[q4.u];obtain⟨rfl,_⟩:=Eb q9 (e4 _)));go_ret2;exact⟨q0.u,Â _ _⟩
theorem Iy{es:List pL}(h:qG t=none):qA (Ak es) t=.error 12:=by unfold qA Ak;simp only[h]
theorem Kl{es:List pL}{i:Nat}(h:qG t=some i)(hi:i<es.length):qA (Ak es) t=.ok es[i]:=by unfold qA Ak;simp only[h,Ô hi]
theorem JE{es:List pL}{i:Nat}(h:qG t=some i)(hi:¬i<es.length):qA (Ak es) t=.error 11:=by unfold qA Ak;simp only[h,ĳ (Nat.le_of_not_lt hi)]
theorem XT{es:List pL}(ht:t.length<=1048576)(hr:Rng w)(h:VB w b 5 n0 [] sl (.map none))(ho:w.ownsRow 0 80 1 sl ps.length ps)(ha:Al (Rep f F w) ps es):
  CL AS 111 #[PtB b,.string ⟨t.toArray⟩] w λe w'=>Out F (qA (Ak es) t) e w'/\Bl w w':=by
 have c0:=h.c0;have c5:=h.c5;have q7:=h.lt;have hal:=ha.length;have hI:=Ab (Hu t w ht hr);obtain⟨N,hN⟩:∃N,N=ps.length:=⟨_,rfl⟩
 obtain⟨R,hR⟩:∃R,R=qA (Ak es) t:=⟨_,rfl⟩
 rw[<-hR];have q6:=EI ho;cases hi:qG t with
 |none=>
  have q0:=Ab (λw'=>show Out F R (.returned (.tuple #[.pointer none,InB 12])) w' by rw[hR,Iy hi];rfl);rw[hi]at hI;clear ho ha h hR hal hr hi q6 c5;go_enter func111,ntmps111;go_wp2_with fail;refine hI.u.mono ?_;rintro e w2⟨rfl,hb⟩;unfold FY;go_wp2;go_ret2;exact⟨q0.u _,hb⟩
 |some i=>
  rw[hi]at hI;by_cases hin:i<ps.length
  .obtain⟨g,cap,rfl,a1,a2,a3,hc⟩:=AP ho ζ;have q0:=Ab (λw' (hb:Bl w w')=>show Out F R (.returned (.tuple #[ps[i],InB 0])) w' by
    rw[hR,Kl hi ζ];exact⟨_,rfl,f,(ha.get i hin ζ).bel hb⟩)
   have q8:=hc i hin;have q9:(N:Int)<=9223372036854775807:=by unfold BY at q6;omega
   have hlt:(i:Int)<(N:Int):=ζ;generalize ps[i]=pv at*;have HC:=Ab q8;have q4:=Ab c5;rw[<-hN]at c5 a1;have q4:=Ab c5;clear ho ha hR hal hr hi q6 hc q8 c5;go_enter func111,ntmps111;go_wp2_with fail;refine hI.u.mono ?_;rintro e w2⟨rfl,hb⟩;have q5:=(hb.cell (p:=⟨b,5,none⟩) q7).trans q4.u;have qi:=(hb.cell (p:=⟨g,i,none⟩) a3).trans HC.u;have HB:=Ab hb;clear hb hN hin h;unfold FY;go_wp2;go_ret2;exact⟨q0.u _ HB.u,HB.u⟩
  .have q0:=Ab (λw'=>show Out F R (.returned (.tuple #[.pointer none,InB 11])) w' by rw[hR,JE hi ζ];rfl);obtain⟨g,cap,rfl⟩:=BK ho;have hlt:¬(i:Int)<(N:Int):=ζ;rw[<-hN]at c5;have q4:=Ab c5;clear ho ha hR hal hr hi q6 c5;go_enter func111,ntmps111;go_wp2_with fail;refine hI.u.mono ?_;rintro e w2⟨rfl,hb⟩;have q5:=(hb.cell (p:=⟨b,5,none⟩) q7).trans q4.u;have HB:=Ab hb;clear hb hN hin h;unfold FY;go_wp2;go_ret2;exact⟨q0.u _,HB.u⟩
end
theorem Yb{F:Nat->Prop}{w:A1}{t:By}(ht:t.length<=1048576)(hr:Rng w)(h:Na F w v d):
  CL AS 111 #[v,.string ⟨t.toArray⟩] w λe w'=>Out F (qA d t) e w'/\Bl w w':=by
 obtain⟨f,h⟩:=h;cases f with
 |zero=>exact h.elim
 |succ f=>
  obtain⟨p,rfl,_,h⟩:=h;rcases h with⟨k,hk,rfl,h⟩|⟨n,rfl,h,_⟩|⟨s,rfl,h⟩|⟨es,sl,ps,rfl,h,ho,_,hal⟩|⟨es,m,n,D,rfl,h,_,ho,hp⟩
  .exact Ei (k:=k) ζ h
  .exact Ei (k:=3) ζ h
  .exact Ei (k:=4) ζ h
  .exact XT ht hr h ho hal
  .exact XS ht h ho hp
theorem Dn{t:By}{c:Nat}(h:qA d t=.error c):c=11\/c=12:=by
 unfold qA at h;grind
theorem QR{F:Nat->Prop}{w:A1}{pv:AI}{l:List By}(hl:∀t∈l,t.length<=1048576)(hn:l.length<=1048576)(hr:Rng w)(h:Na F w v d)(hp:Dl w pv l):
  CL AS 81 #[pv,v] w λe w'=>Out F (Ag d l) e w'/\Bl w w':=by
 rcases hp with⟨rfl,a,c,rfl,_⟩|⟨g,o,cap,rfl,_,_,a1,hc⟩
 .have HH:=Ab h;clear hl hn hr h;go_enter func81,ntmps81;go_wp2_with fail;refine ø 1 ?_;rw[ď];go_wp2;go_ret2;exact⟨⟨_,rfl,HH.u⟩,Â _ _⟩
 obtain⟨N,hN⟩:∃N,N=l.length:=⟨_,rfl⟩
 obtain⟨R,hR⟩:∃R,R=Ag d l:=⟨_,rfl⟩
 rw[<-hR,<-hN];have qj:(N:Int)<=1048576:=ζ;have HL:=Ab hl;have HC:=Ab hc;have HR:=Ab hr;have HH:=Ab h;have HN:=Ab hN;have qf:=Ab hR;clear hl hc hr h hN hR hn;go_enter func81,ntmps81;go_wp2;go_loopw [6,14] (λa i wr=>∃(k:Nat) (d':pL),k<=N/\i=InB k/\Na F wr a d'/\Hid (Ag d l=Ag d' (l.drop k))/\Bl w wr) (λ_ i _=>N-(CR i).toNat)
 case atStart=>exact⟨0,d,ζ,rfl,HH.u,rfl,Â _ _⟩
 case round=>
  obtain⟨k,d',hk,rfl,q0,q7,hb⟩:=hrel;have HB:=Ab hb;have q8:=Ab q0;by_cases hlt:k<N
  .have h1:k<l.length:=by have:=HN.u;omega
   have q5:l.drop k=l[k]::l.drop (k+1):=Û h1;have q:=(hb.cell (p:=⟨g,o+k,none⟩) a1).trans (HC.u k h1);have q4:=Ab (Yb (F:=F) (t:=l[k]) (HL.u _ (Ó h1)) (HR.u.kept hb) q0);have qb:(k:Int)<(N:Int):=ζ;rw[q5]at q7;have qe:=Ab (show Ag d l=(match qA d' l[k]with|.ok e=>Ag e (l.drop (k+1)) |.error c=>.error c)from q7);generalize l[k]=tk at*;clear q7 hb q0 q5 h1;go_wp2_with fail;refine q4.u.mono λe w2 ⟨ho,hb2⟩=>?_;have qd:=Ab (HB.u.trans (hb2.mono HB.u.size));clear hb2 q4 q;cases hch:qA d' tk with
   |ok d2=>
    rw[hch]at ho;obtain⟨v2,rfl,qg⟩:=ho;have qi:=Ab qg;have qh:=Ab (show Ag d l=Ag d2 (l.drop (k+1)) by have h9:=qe.u;rw[hch]at h9;exact h9);clear qg hch;go_wp2;exact⟨⟨k+1,d2,ζ,ψ,qi.u,qh.u,qd.u⟩,by simp only[CR];omega⟩
   |error c=>
    rw[hch]at ho;have ho2:e=.returned (.tuple #[.pointer none,InB c]):=ho;subst ho2;have q6:=Ab (show Out F R (.returned (.tuple #[.pointer none,InB c])) w2 by
     have h9:=qe.u;rw[hch]at h9;rw[qf.u,h9];rfl)
    have q9:=Dn hch;have e1:((c:Int)==0)=false:=ε;have e2:((c:Int)!=0)=true:=ε;clear hch ho q9;go_wp2;go_ret2;exact⟨q6.u,qd.u⟩
  .have qb:¬(k:Int)<(N:Int):=ζ;have q6:=Ab (show∀a,Na F wr a d'->Out F R (.returned (.tuple #[a,InB 0])) wr from λa ha=>by
    rw[qf.u,show Ag d l=Ag d' (l.drop k)from q7,í (by have:=HN.u;omega)];exact⟨_,rfl,ha⟩)
   clear q7 hb q0;go_wp2;go_ret2;exact⟨q6.u _ q8.u,HB.u⟩
def Nc(P:A1->AI->pL->Prop)(r:Except Nat pL)(e:Ending)(w':A1):Prop:=match r with
 |.ok d=>∃v,e=.returned (.tuple #[v,InB 0])/\P w' v d
 |.error c=>e=.returned (.tuple #[.pointer none,InB c])
section
variable{w:A1}{b:Nat}{t:By}
theorem U8{R:Ending->Prop}(ht:t.length<=1048576)(h:VB w b 6 n0 [] (.slice none 0 0) (.map (some m)))(ho:w.ownsMap AS 9 RV m n (.map D))(hno:AT (.map D:A2 AI) (.string t)=false->R (.returned (.tuple #[.pointer none,InB 11])))(q4:AT (.map D:A2 AI) (.string t)=true ->∃x,(∀z,(A3 D).atKey (.string t) z=.held x)/\R (.returned (.tuple #[x,InB 0]))):
  CL AS 111 #[PtB b,.string ⟨t.toArray⟩] w λe w'=>R e/\Bl w w':=by
 have q7:=Ab C9;have q8:=Ab (λw=>DI w);have c0:=h.c0;have c6:=h.c6;have q6:=Ab (Gy t ht);cases hh:AT (.map D:A2 AI) (.string t)with
 |false=>
  have q0:=Ab (hno hh);have HO:=Ab ho;have q5:=Ab hh;clear hno q4 h ho hh;go_enter func111,ntmps111;go_wp2_with (first|(at_lookup;refine ï _ rfl _ _ 109 rfl 9 80 q7.u underlying109 RV (q8.u _) (.held (.pointer none)) [] rfl m n (.map D) rfl HO.u _ _ rfl q6.u ?_;intro v2 qb q9;rw[q5.u]));go_ret2;exact⟨q0.u,Â _ _⟩
 |true=>
  obtain⟨x,e4,hR⟩:=q4 hh;have q0:=Ab hR;have HO:=Ab ho;have q5:=Ab hh;clear hno q4 h ho hh hR;go_enter func111,ntmps111;go_wp2_with (first|(at_lookup;refine ï _ rfl _ _ 109 rfl 9 80 q7.u underlying109 RV (q8.u _) (.held (.pointer none)) [] rfl m n (.map D) rfl HO.u _ _ rfl q6.u ?_;intro v2 qb q9;rw[q5.u];obtain⟨rfl,_⟩:=Eb q9 (e4 _)));go_ret2;exact⟨q0.u,Â _ _⟩
theorem U9{R:Ending->Prop}(ht:t.length<=1048576)(hr:Rng w)(h:VB w b 5 n0 [] sl (.map none))(ho:w.ownsRow 0 80 1 sl ps.length ps)(q0:qG t=none->R (.returned (.tuple #[.pointer none,InB 12])))(hin:∀i (hi:i<ps.length),qG t=some i->R (.returned (.tuple #[ps[i],InB 0])))(q7:∀i,qG t=some i->ps.length<=i->R (.returned (.tuple #[.pointer none,InB 11]))):
  CL AS 111 #[PtB b,.string ⟨t.toArray⟩] w λe w'=>R e/\Bl w w':=by
 have c0:=h.c0;have c5:=h.c5;have qb:=h.lt;have hI:=Ab (Hu t w ht hr);obtain⟨N,hN⟩:∃N,N=ps.length:=⟨_,rfl⟩
 have q8:=EI ho;cases hi:qG t with
 |none=>
  have q4:=Ab (q0 hi);rw[hi]at hI;clear ho h hr hi q8 c5 q0 hin q7;go_enter func111,ntmps111;go_wp2_with fail;refine hI.u.mono ?_;rintro e w2⟨rfl,hb⟩;unfold FY;go_wp2;go_ret2;exact⟨q4.u,hb⟩
 |some i=>
  rw[hi]at hI;by_cases q6:i<ps.length
  .obtain⟨g,cap,rfl,a1,a2,a3,hc⟩:=AP ho ζ;have q4:=Ab (hin i q6 hi);have qd:=hc i q6;have qe:(N:Int)<=9223372036854775807:=by unfold BY at q8;omega
   have hlt:(i:Int)<(N:Int):=ζ;clear q0 hin q7;generalize ps[i]=pv at*;have HC:=Ab qd;rw[<-hN]at c5 a1;have q9:=Ab c5;clear ho hr hi q8 hc qd c5;go_enter func111,ntmps111;go_wp2_with fail;refine hI.u.mono ?_;rintro e w2⟨rfl,hb⟩;have q5:=(hb.cell (p:=⟨b,5,none⟩) qb).trans q9.u;have qi:=(hb.cell (p:=⟨g,i,none⟩) a3).trans HC.u;have HB:=Ab hb;clear hb hN q6 h;unfold FY;go_wp2;go_ret2;exact⟨q4.u,HB.u⟩
  .have q4:=Ab (q7 i hi ζ);obtain⟨g,cap,rfl⟩:=BK ho;have hlt:¬(i:Int)<(N:Int):=ζ;rw[<-hN]at c5;have q9:=Ab c5;clear ho hr hi q8 c5 q0 hin q7;go_enter func111,ntmps111;go_wp2_with fail;refine hI.u.mono ?_;rintro e w2⟨rfl,hb⟩;have q5:=(hb.cell (p:=⟨b,5,none⟩) qb).trans q9.u;have HB:=Ab hb;clear hb hN q6 h;unfold FY;go_wp2;go_ret2;exact⟨q4.u,HB.u⟩
end
structure Yc(G:List By->A1->AI->pL->Prop):Prop where
 call:∀(s:List By) (w:A1) (v:AI) (d:pL) (t:By),t.length<=1048576->Rng w->G s w v d->CL AS 111 #[v,.string ⟨t.toArray⟩] w λe w'=>Nc (G (s++[t])) (qA d t) e w'/\Bl w w'
theorem oT{G:List By->A1->AI->pL->Prop}(hG:Yc G){w:A1}{pv:AI}{l:List By}(hl:∀t∈l,t.length<=1048576)(hn:l.length<=1048576)(hr:Rng w)(h:G [] w v d)(hp:Dl w pv l):
  CL AS 81 #[pv,v] w λe w'=>Nc (G l) (Ag d l) e w'/\Bl w w':=by
 rcases hp with⟨rfl,a,c,rfl,_⟩|⟨g,o,cap,rfl,_,_,a1,hc⟩
 .have HH:=Ab h;clear hl hn hr h hG;go_enter func81,ntmps81;go_wp2_with fail;refine ø 1 ?_;rw[ď];go_wp2;go_ret2;exact⟨⟨_,rfl,HH.u⟩,Â _ _⟩
 obtain⟨N,hN⟩:∃N,N=l.length:=⟨_,rfl⟩
 obtain⟨R,hR⟩:∃R,R=Ag d l:=⟨_,rfl⟩
 rw[<-hR,<-hN];have qj:(N:Int)<=1048576:=ζ;have HL:=Ab hl;have HC:=Ab hc;have HR:=Ab hr;have HH:=Ab h;have HG:=Ab hG;have HN:=Ab hN;have qf:=Ab hR;clear hl hc hr h hN hR hn hG;go_enter func81,ntmps81;go_wp2;go_loopw [6,14] (λa i wr=>∃(k:Nat) (d':pL),k<=N/\i=InB k/\G (l.take k) wr a d'/\Hid (Ag d l=Ag d' (l.drop k))/\Bl w wr) (λ_ i _=>N-(CR i).toNat)
 case atStart=>exact⟨0,d,ζ,rfl,HH.u,rfl,Â _ _⟩
 case round=>
  obtain⟨k,d',hk,rfl,q0,q7,hb⟩:=hrel;have HB:=Ab hb;have q8:=Ab q0;by_cases hlt:k<N
  .have h1:k<l.length:=by have:=HN.u;omega
   have q5:l.drop k=l[k]::l.drop (k+1):=Û h1;have q:=(hb.cell (p:=⟨g,o+k,none⟩) a1).trans (HC.u k h1);have q4:=Ab (HG.u.call _ _ _ _ l[k] (HL.u _ (Ó h1)) (HR.u.kept hb) q0);have qb:(k:Int)<(N:Int):=ζ;rw[q5]at q7;have HT:=Ab (show l.take (k+1)=l.take k++[l[k]]from Í h1);have qe:=Ab (show Ag d l=(match qA d' l[k]with|.ok e=>Ag e (l.drop (k+1)) |.error c=>.error c)from q7);generalize l[k]=tk at*;clear q7 hb q0 q5 h1;go_wp2_with fail;refine q4.u.mono λe w2 ⟨ho,hb2⟩=>?_;have qd:=Ab (HB.u.trans (hb2.mono HB.u.size));clear hb2 q4 q;cases hch:qA d' tk with
   |ok d2=>
    rw[hch]at ho;obtain⟨v2,rfl,qg⟩:=ho;have qi:=Ab (show G (l.take (k+1)) w2 v2 d2 by rw[HT.u];exact qg);have qh:=Ab (show Ag d l=Ag d2 (l.drop (k+1)) by have h9:=qe.u;rw[hch]at h9;exact h9);clear qg hch;go_wp2;exact⟨⟨k+1,d2,ζ,ψ,qi.u,qh.u,qd.u⟩,by simp only[CR];omega⟩
   |error c=>
    rw[hch]at ho;have ho2:e=.returned (.tuple #[.pointer none,InB c]):=ho;subst ho2;have q6:=Ab (show Nc (G l) R (.returned (.tuple #[.pointer none,InB c])) w2 by
     have h9:=qe.u;rw[hch]at h9;rw[qf.u,h9];rfl)
    have q9:=Dn hch;have e1:((c:Int)==0)=false:=ε;have e2:((c:Int)!=0)=true:=ε;clear hch ho q9;go_wp2;go_ret2;exact⟨q6.u,qd.u⟩
  .have qb:¬(k:Int)<(N:Int):=ζ;have q6:=Ab (show∀a,G (l.take k) wr a d'->Nc (G l) R (.returned (.tuple #[a,InB 0])) wr from λa ha=>by
    rw[Ï (by have:=HN.u;omega)]at ha;rw[qf.u,show Ag d l=Ag d' (l.drop k)from q7,í (by have:=HN.u;omega)];exact⟨_,rfl,ha⟩)
   clear q7 hb q0;go_wp2;go_ret2;exact⟨q6.u _ q8.u,HB.u⟩
theorem JV{t:By}{i:Nat}{e:pL}(hi:sY e t=some i){e':pL}(he:(AW e)[i]?=some e'):∀{s:List By}{d:pL}{p:List Nat},CN d s=some p->BD p d=some e->CN d (s++[t])=some (p++[i])
 |[],d,p,h,h2=>by
  cases h;cases h2;simp[CN,hi,he]
 |u::s,d,p,h,h2=>by
  unfold CN at h;split at h
  .cases h
  .rename_i j hj;split at h
   .cases h
   .rename_i x hx;obtain⟨q,hq,rfl⟩:=à.1 h;unfold BD at h2;rw[hx]at h2;have ih:=JV hi he hq h2;rw[Ü,CN,hj];grind
theorem JF{es:List pL}{t:By}{e:pL}(h:qA (Ak es) t=.ok e):∃i,qG t=some i/\es[i]?=some e/\sY (Ak es) t=some i:=by
 grind [Ak,qA,sY]
theorem Es{w:A1}{a:pN}(h:Ad (f+1) w v a):AW (pT (f+1) a)=(AM a).map (pT f):=by
 obtain⟨b,g,x,rfl,hv,h⟩:=h;rcases h with⟨k,_,_,rfl,h⟩|⟨n,_,rfl,h,q0⟩|⟨s,_,rfl,h⟩|⟨al,sl,ps,rfl,h,ho,hs,ha⟩|⟨es,n,D,rfl,h,ho,hp⟩
 .rfl
 .rfl
 .rfl
 .rfl
 .rw[Bc,Cg];show(es.map λp=>(p.1,pT f p.2)).map Prod.snd=(es.map Prod.snd).map (pT f);simp_all
theorem II{f:Nat}{w:A1}:∀{p:List Nat}{v:AI}{a n:pN},Ad (f+p.length) w v a->qE p a=some n->BD p (pT (f+p.length) a)=some (pT f n)
 |[],v,a,n,h,hs=>by
  grind [qE,BD,pT]
 |i::r,v,a,n,h,hs=>by
  obtain⟨c,hc,h2⟩:=C7 hs;have h':Ad ((f+r.length)+1) w v a:=h;have hk:=Es h';obtain⟨u,hu⟩:∃u,Ad (f+r.length) w u c:=by
   have:=Ad.at (f:=f+r.length) (p:=[i]) h' (show qE [i] a=some c by simp[qE,hc]);exact this
  have ih:=II hu h2;grind [qE,BD,pT]
theorem K8{i:Nat}{c n:pN}(hc:(AM n)[i]?=some c):∀{p:List Nat}{a:pN},qE p a=some n->qE (p++[i]) a=some c
 |[],a,h=>by
  cases h;simp[qE,hc]
 |j::r,a,h=>by
  obtain⟨x,hx,h2⟩:=C7 h;rw[Ü,qE,hx];exact K8 hc h2
theorem Ad.bel{w:A1}{a:pN}(h:Ad f w v a)(hb:Bl w w'):Ad f w' v a:=h.move λk hk=>hb.block k (h.lt k hk)
def InT(fa:Nat)(v:AI)(a:pN)(s:List By)(w:A1)(u:AI)(d:pL):Prop:=
 Ad fa w v a/\∃f p n,f+p.length=fa/\qE p a=some n/\Ad f w u n/\pT f n=d/\CN (pT fa a) s=some p
