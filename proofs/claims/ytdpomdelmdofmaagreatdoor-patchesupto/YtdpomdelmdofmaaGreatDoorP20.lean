import Derived.Test.YtdpomdelmdofmaaGreatDoorP18
open Go renaming World->AI,Value->B3,Calls->C2
open Go.Lib renaming trimLeftB->AS,trimRightB->A4,itoa_length_le->CL,itoa->C0
open Go.Proofs.Tryz renaming prog->AT
open Go.RowKit renaming intOf->A3
open List renaming length->A5,pairwise_iff_getElem->B4,lt_trans->CD,any_eq_false->CR,le_antisymm->C1
open Go.DataW renaming insert->Bs,put->C6
open Go.Op renaming bytesLess->BY
open Go.Lit renaming string->CH
open Bool renaming false_or->C5
set_option maxHeartbeats 16000000
set_option maxRecDepth 100000
namespace Go.Proofs.YtdpomdelmdofmaaGreatDoor
open Go.Proofs.Tryz Go.RowKit Go.Maps
variable{b f m i j:Nat}{ng:Bool}{ds s l r q0:By}{a:Option Addr}{F:Nat->Prop}{sl:B3}{ps:List B3}{o:O}{w':AI}{ks:List By}
theorem SM(b:Int)(l:List Int)(h:∀x∈l,x<=b):∀a,a<=b->rL a l<=b:=by
 induction l with
 |nil=>intro a ha;exact ha
 |cons x r ih=>intro a ha;exact ih (λy hy=>h y (by simp[hy])) _ (Int.max_le.2 ⟨ha,h x φ⟩)
theorem Qi(f:Nat):∀o,1<=qR f o/\qR f o<=f+1:=by
 induction f with
 |zero=>intro o;exact⟨Ā _,by simp[qR]⟩
 |succ f ih=>
  intro o;unfold qR;split
  .rename_i es _;have h1:=Kz (es.map (qR f)) 0;have h2:=SM (f+1) (es.map (qR f)) (λx hx=>by obtain⟨y,_,rfl⟩:=Ò.1 hx;exact(ih y).2) 0 ζ;omega
  .rename_i es;have h1:=Kz (es.map λp=>qR f p.2) 0;have h2:=SM (f+1) (es.map λp=>qR f p.2) (λx hx=>by obtain⟨y,_,rfl⟩:=Ò.1 hx;exact(ih y.2).2) 0 ζ;omega
  .omega
def mV(f:Nat):Prop:=∀(F:Nat->Prop) (w:AI) (v:B3) (o:O),Ar f F w v o->f<=20000000000000->C2 AT 93 #[v] w λe w'=>e=.returned (InB (qR f o))/\w'=w
theorem Hq{w:AI}{k:By}{x:Int}{ks:B3}{c:Nat}(h:OB w b k ng ds x s ks (.slice a 0 c)):
  C2 AT 93 #[PtB b] w λe w'=>e=.returned (InB 1)/\w'=w:=by
 have c6:=h.c6;clear h;go_enter func93,ntmps93;go_wp2_with fail;refine ø 1 ?_;rw[ď];go_wp2;go_ret;exact⟨rfl,rfl⟩
theorem Mw(hD:mV f)(hf:f<=20000000000000){w:AI}{B:Nat}{k:By}{x:Int}{ks:B3}{os:List O}(h:OB w b k ng ds x s ks sl)(hv:w.ownsRow B 66 1 sl ps.length ps)(hal:Al (Ar f F w) ps os):
  C2 AT 93 #[.pointer (some ⟨b,0,none⟩)] w λe w'=>e=.returned (.int .i64 (rL 0 (os.map (qR f))+1))/\w'=w:=by
 have qb:=hal.length;by_cases h0:ps.length=0
 .have qf:os=[]:=ê ζ;subst qf;have hz:∃a c,sl=.slice a 0 c:=by
   rcases hv.2 with⟨e,_⟩|⟨g,cap,cur,e,_⟩
   .exact⟨none,0,e⟩
   .exact⟨_,cap,by rw[e,h0]⟩
  obtain⟨a,c,rfl⟩:=hz;exact Hq h
 .obtain⟨g,cap,rfl,h1,h2,h3,h4⟩:=DS hv ζ;have c6:=h.c6;obtain⟨n,hn⟩:∃n,n=ps.length:=⟨_,rfl⟩
  rw[<-hn]at c6 h1;have qj:(n:Int)<=9223372036854775807:=by unfold maxLen at h2;omega
  have HN:=Ab hn;have HL:=Ab qb;have HC:=Ab h4;have qe:=Ab hal;have HD:=Ab hD;clear h hv hn qb h4 hal hD h0;go_enter func93,ntmps93;go_wp2;go_loopw [3,4] (λd i wr=>∃(j:Nat) (m:Int),j<=n/\i=.int .i64 j/\d=.int .i64 m/\m=rL 0 ((os.map (qR f)).take j)/\0<=m/\m<=20000000000100/\wr=w) (λ_ i _=>n-(A3 i).toNat)
  case atStart=>exact⟨0,0,ζ,rfl,rfl,rfl,ζ,ζ,rfl⟩
  case round=>
   obtain⟨j,m,hj,rfl,rfl,hm,qh,qi,rfl⟩:=hrel;have HM:=Ab hm;clear hm;by_cases hlt:j<n
   .have q9:j<ps.length:=by have:=HN.u;omega
    have q8:j<os.length:=by have:=HL.u;omega
    have q1:=HC.u j q9;have q4:=qe.u.get j q9 q8;have q0:=Ab (HD.u _ _ _ _ q4 hf);have qg:=Qi f os[j];have qd:rL 0 ((os.map (qR f)).take (j+1))=max m (qR f os[j]):=by
     rw[Í (by simpa using q8),J3,<-HM.u,é]
    have q5:=Ab qd;clear qd q4;go_wp2_with fail;refine q0.u.mono ?_;rintro e w2⟨rfl,rfl⟩;clear q0;generalize qR f os[j]=dj at*;by_cases q6:m<dj
    .have e1:decide (m<dj)=true:=decide_eq_true q6;go_wp2;exact⟨⟨j+1,dj,ζ,ψ,rfl,by rw[q5.u];omega,ζ,ζ,trivial⟩,by simp only[A3];omega⟩
    .have e1:decide (m<dj)=false:=decide_eq_false q6;go_wp2;exact⟨⟨j+1,m,ζ,ψ,rfl,by rw[q5.u];omega,ζ,ζ,trivial⟩,by simp only[A3];omega⟩
   .have q7:(os.map (qR f)).take j=os.map (qR f):=Ï (by have:=HN.u;have:=HL.u;simp;omega);have HJ:=Ab q7;clear q7;go_wp2;go_ret;exact⟨by rw[<-HJ.u,<-HM.u];rfl,rfl⟩
theorem Qq(f:Nat):mV f:=by
 induction f with
 |zero=>intro F w v o h;exact h.elim
 |succ f ih=>
  intro F w v o h hf;obtain⟨b,rfl,hb,h⟩:=h;rcases h with⟨k,hk,rfl,h⟩|⟨n,x,rfl,h⟩|⟨s,rfl,h⟩|⟨es,sl,ps,rfl,h,ho,hs,ha⟩|⟨es,kl,sl,ps,rfl,h,ho,hs,ho2,hs2,ha⟩
  .exact Hq h
  .exact Hq h
  .exact Hq h
  .exact Mw ih ζ h ho ha
  .have e:qR (f+1) (qF es)=rL 0 ((es.map (·.2)).map (qR f))+1:=by
    show rL 0 ((qK es).map λp=>qR f p.2)+1=_;unfold qK;rw[Ý,Ý];rfl
   rw[e];exact Mw ih ζ h ho2 ha
def Eat(l r:By):Prop:=tA l=tA r
theorem Eat.refl(l:By):Eat l l:=rfl
theorem Eat.trans{a b c:By}(h:Eat a b)(k:Eat b c):Eat a c:=Eq.trans h k
theorem Iw(a:UInt8)(r:By)(h:a.toNat<128):Eat (a::r) r:=by
 have e:=Sb (r:=r) h;unfold Eat;rw[OR φ ε,e];rfl
theorem Ca{c:UInt8}(h:pQ l c=true)(hc:c.toNat<128):Eat l l.tail:=by
 obtain⟨r,rfl⟩:=Gd h;exact Iw c r hc
theorem Fo(l:By):Eat l (pR l):=by
 induction l with
 |nil=>rfl
 |cons c r ih=>
  rw[pR];split
  .rename_i h;refine(Iw c r ?_).trans ih;unfold uD at h;simp only[Ķ,beq_iff_eq]at h;rcases h with((rfl|rfl)|rfl)|rfl<;>decide
  rfl
theorem Kg(l:By):Eat l (qP l):=by
 induction l with
 |nil=>rfl
 |cons c r ih=>
  rw[qP];split
  .rename_i h;exact(Iw c r (by have:=(CI c).1 h;omega)).trans ih
  rfl
theorem aW{f:By}(h:B5 l=some (f,r)):Eat l r:=by
 unfold B5 at h;split at h
 .rename_i k;split at h
  .cases h
  .injection h with h;injection h with h1 h2;subst h2;exact(Ca k η).trans (Kg _)
 .injection h with h;injection h with h1 h2;subst h2;rfl
theorem aX{n:Int}(h:AY l=some (n,r)):Eat l r:=by
 unfold AY at h;split at h
 .rename_i k;have h0:Eat l l.tail:=by
   rcases Ķ _ _▸k with k|k
   .exact Ca k η
   .exact Ca k η
  split at h
  .rename_i k2;split at h
   .cases h
   .injection h with h;injection h with h1 h2;subst h2;exact h0.trans ((Ca k2 η).trans (Kg _))
  .split at h
   .rename_i k2;split at h
    .cases h
    .injection h with h;injection h with h1 h2;subst h2;exact h0.trans ((Ca k2 η).trans (Kg _))
   .split at h
    .cases h
    .injection h with h;injection h with h1 h2;subst h2;exact h0.trans (Kg _)
 .injection h with h;injection h with h1 h2;subst h2;rfl
theorem Qe{n:Nm}(h:BM ng l=some (n,r)):Eat l r:=by
 unfold BM at h;split at h
 .cases h
 .split at h
  .cases h
  .rename_i f r1 hf;split at h
   .cases h
   .rename_i e r2 he;injection h with h;injection h with h1 h2;subst h2;exact(Kg _).trans ((aW hf).trans (aX he))
theorem iF{n:Nm}(h:rO l=some (n,r)):Eat l r:=by
 unfold rO at h;split at h
 .rename_i k;exact(Ca k η).trans (Qe h)
 .exact Qe h
theorem ZV{n d:Nat}(h:Ci n=some d):n<128:=by
 grind [Ci]
theorem Qf(k:Nat):∀(n:Nat) (l:By) (m:Nat) (r:By),A9 k n l=some (m,r)->Eat l r:=by
 induction k with
 |zero=>intro n l m r h;injection h with h;injection h with h1 h2;subst h2;rfl
 |succ k ih=>
  intro n l m r h;rw[A9]at h;cases l with
  |nil=>grind
  |cons c l=>
   split at h
   .cases h
   .rename_i d hd;exact(Iw c l (ZV hd)).trans (ih _ _ _ _ h)
theorem aT(h:Br l=some (m,r)):Eat l r:=by
 unfold Br at h;split at h
 .cases h
 .rename_i a r1 hx;have e1:=Qf _ _ _ _ _ hx;split at h
  .grind
  .split at h
   .cases h
   .split at h
    .rename_i k1;split at h
     .rename_i k2;split at h
      .cases h
      .rename_i b r2 hy;have e2:=Qf _ _ _ _ _ hy;split at h
       .cases h
       .have h2:=(ĺ (Î h)).2;subst h2;exact e1.trans ((Ca k1 η).trans ((Ca k2 η).trans e2))
     .cases h
    .cases h
theorem Xs(T:List (UInt8×Nat))(hT:∀x∈T,x.1.toNat<128)(h:Cy l T=some (m,r)):Eat l r:=by
 induction T with
 |nil=>cases h
 |cons x T ih=>
  obtain⟨c,n⟩:=x;rw[Cy]at h;split at h
  .rename_i k;injection h with h;injection h with h1 h2;subst h2;exact Ca k (hT (c,n) φ)
  grind
theorem iB:∀x∈DH,x.1.toNat<128:=by
 intro x hx;simp only[DH,Ë,ģ,or_false]at hx;rcases hx with rfl|rfl|rfl|rfl|rfl|rfl|rfl|rfl<;>decide
theorem iH(hl:l≠[])(h:rP l=some (m,r)):Eat l r:=by
 cases l with
 |nil=>grind
 |cons c l=>
  cases k:pQ (c::l) 92 with
  |true=>
   have h2:rM (c::l).tail=some (m,r):=by grind [rP,rM,Eat]
   refine(Ca k η).trans ?_;unfold rM at h2;split at h2
   .rename_i k2;exact(Ca k2 η).trans (aT h2)
   .exact Xs _ iB h2
  |false=>
   rcases Sd k with⟨_,h1⟩|⟨v,n,h1,h2,_,_,h5⟩
   .grind
   .rw[h5]at h;split at h
    .cases h
    .injection h with h;injection h with h6 h7;subst h7;unfold Eat;rw[OR φ ε,h1]
theorem aY(f:Nat):∀(l s r:By),Ck f l=some (s,r)->Eat l r:=by
 induction f with
 |zero=>intro l s r h;cases h
 |succ f ih=>
  intro l s r h;rw[Ck]at h;split at h
  .rename_i k;injection h with h;injection h with h1 h2;subst h2;exact Ca k η
  .split at h
   .cases h
   .rename_i c r1 hc;split at h
    .cases h
    .rename_i s1 r2 hx;injection h with h;injection h with h1 h2;subst h2;refine(iH ?_ hc).trans (ih _ _ _ hx);intro e;subst e;have:=(Gs hc).1;grind
theorem Te(h:rJ l=some (s,r)):Eat l r:=by
 unfold rJ at h;split at h
 .rename_i k;exact(Ca k η).trans (aY _ _ _ _ h)
 .cases h
theorem aV(x:By)(hx:∀c∈x,c.toNat<128)(r:By):Eat (x++r) r:=by
 induction x with
 |nil=>rfl
 |cons c x ih=>exact(Iw c _ (hx c φ)).trans (ih ε)
theorem aS(T:List By)(hT:∀x∈T,∀c∈x,c.toNat<128):∀k,A6 l k T=some (m,r)->Eat l r:=by
 induction T with
 |nil=>intro k h;cases h
 |cons x T ih=>
  intro k h;rw[A6]at h;split at h
  .rename_i hp;injection h with h;injection h with h1 h2;subst h2;unfold Lib.hasPrefix at hp;obtain⟨z,rfl⟩:=List.isPrefixOf_iff_prefix.1 hp;rw[List.drop_left];exact aV x (hT x φ) z
  grind
theorem iG{σ:Type}(cl:UInt8)(hcl:cl.toNat<128)(item:By->σ->Option (By×σ))(hi:∀l s l' s',item l s=some (l',s')->Eat l l')(n:Nat):∀l s r s',qZ cl item n l s=some (r,s')->Eat l r:=by
 induction n with
 |zero=>intro l s r s' h;cases h
 |succ n ih=>
  intro l s r s' h;rw[qZ]at h;split at h
  .cases h
  .rename_i l1 s1 h1;have e1:=((Fo l).trans (hi _ _ _ _ h1)).trans (Fo l1);split at h
   .rename_i k;injection h with h;injection h with h2 h3;subst h2;exact e1.trans (Ca k hcl)
   .split at h
    .rename_i k;exact e1.trans ((Ca k η).trans (ih _ _ _ _ h))
    .cases h
theorem Mu{σ:Type}(op cl:UInt8)(q0:op.toNat<128)(hcl:cl.toNat<128)(item:By->σ->Option (By×σ))(hi:∀l s l' s',item l s=some (l',s')->Eat l l'){s s':σ}(h:AZ op cl item l s=some (r,s')):Eat l r:=by
 unfold AZ at h;split at h
 .rename_i k;have e1:=(Ca k q0).trans (Fo _);split at h
  .rename_i k2;injection h with h;injection h with h1 h2;subst h1;exact e1.trans (Ca k2 hcl)
  .exact e1.trans (iG cl hcl item hi _ _ _ _ _ h)
 .cases h
theorem aU(f:Nat):∀(l:By) (o:O) (r:By),pX f l=some (o,r)->Eat l r:=by
 induction f with
 |zero=>intro l o r h;cases h
 |succ f ih=>
  intro l o r h;unfold pX at h;split at h
  .split at h
   .cases h
   .rename_i h1;injection h with h;injection h with h2 h3;subst h3;refine Mu 123 125 η η _ ?_ h1;intro l s l' s' h;unfold rY at h;split at h
    .cases h
    .rename_i k l1 hq;split at h
     .rename_i q0;split at h
      .cases h
      .rename_i o r hv;injection h with h;injection h with h1 h2;subst h1;exact(Te hq).trans ((Fo _).trans ((Ca q0 η).trans ((Fo _).trans (ih _ _ _ hv))))
     .cases h
  .split at h
   .split at h
    .cases h
    .rename_i h1;injection h with h;injection h with h2 h3;subst h3;refine Mu 91 93 η η _ ?_ h1;grind [pX,rY,sV]
   .split at h
    .split at h
     .cases h
     .rename_i h1;injection h with h;injection h with h2 h3;subst h3;exact Te h1
    .split at h
     .split at h
      .cases h
      .rename_i h1;injection h with h;injection h with h2 h3;subst h3;exact iF h1
     .split at h
      .cases h
      .rename_i h1;injection h with h;injection h with h2 h3;subst h3;exact aS _ η _ h1
theorem TE(h:pX f (pR s)=some (o,r))(he:(pR r).isEmpty=true):tA s=true:=by
 have h1:=(Fo s).trans ((aU f _ _ _ h).trans (Fo r));grind [pR,O8,Eat]
def Ng(e x:Int):Prop:=e=x\/((e < -900000\/900000<e)/\(x < -900000\/900000<x))
theorem Ys(ds:By)(h:A4 (AS ds 48) 48≠[]):(AS ds 48).length+(A4 ds 48).length=ds.length+(A4 (AS ds 48) 48).length:=by
 induction ds with
 |nil=>rfl
 |cons a r ih=>
  by_cases ha:a=48
  .subst ha;have e1:AS (48::r) 48=AS r 48:=IF rfl;rw[e1]at h |-;have h2:=ih h;have hne:A4 r 48≠[]:=by
    intro e;rw[<-G9,e]at h;exact h rfl
   grind [G9,IE,List.length_cons]
  .have e1:AS (a::r) 48=a::r:=Gw ε;rw[e1]
theorem Oj{ev:Int}(h:AY l=some (ev,r)):ev=tM l\/(ev=1000000/\1000000<=tM l)\/(ev = -1000000/\tM l <= -1000000):=by
 have hg:∀l:By,rX (dg l) 0=Bg (dg l) 0/\Bg (dg l) 0<1000000\/1000000<=rX (dg l) 0/\Bg (dg l) 0=1000000:=λl=>
  lO (dg l) (λc hc=>(CI c).2 (DX _ c hc)) 0 0 ζ ζ ζ
 grind [dg,tM,AY]
theorem N0{n:Nm}(hl:l.length<=2000)(h:BM ng l=some (n,r)):Ng n.2.2 (uS l):=by
 have q5:=Cw l;unfold BM at h;split at h
 .cases h
 .split at h
  .cases h
  .rename_i f r1 hf;have q6:=Fj hf;split at h
   .cases h
   .rename_i e r2 he;have h1:=(ĺ (Î h)).1;subst h1;unfold uS;rw[hf];simp only;unfold uR Ce;simp only;rw[G9];by_cases hw:A4 (AS (dg l++f) 48) 48=[]
    .rw[if_pos hw,if_pos hw];exact Å rfl
    .rw[if_neg hw,if_neg hw];have hc:=Ys _ hw;have hz:=FF (dg l++f) 48;have q4:(dg l++f).length<=4000:=ε;have q0:f.length<=2000:=ζ;have hn:=Oj he;unfold Ng;grind
theorem Zg{n:Nm}(hl:l.length<=2000)(h:rO l=some (n,r)):Ng n.2.2 (tN l):=by
 unfold rO at h;unfold tN;split at h
 .rename_i k;rw[if_pos k];exact N0 ε h
 .rename_i k;rw[if_neg k];exact N0 hl h
def tH:Nat->O->Prop
 |0,_=>False
 |f+1,o=>(∃k,k<3/\o=tL k)\/(∃n x,o=tB n x/\Ng n.2.2 x)\/(∃s,o=uA s)\/(∃es,o=rK es/\∀e∈es,tH f e)\/(∃es:Ms,o=qF es/\∀p∈es,tH f p.2)
theorem Nw(f:Nat):∀(l:By) (o:O) (r:By),l.length<=2000->pX f l=some (o,r)->tH f o:=by
 induction f with
 |zero=>intro l o r hl h;cases h
 |succ f ih=>
  intro l o r hl h;unfold pX at h;split at h
  .split at h
   .cases h
   .rename_i r1 es h1;have ho:=(ĺ (Î h)).1;subst ho;obtain⟨hI,_⟩:=CW (σ:=Ms) (λl s=>l.length<=2000/\∀p∈s,tH f p.2) ε (by
     rintro a s a' s' ⟨hla,hs⟩hm;unfold rY at hm;split at hm
     .cases hm
     .rename_i k l1 hq;have q1:=Ff hq;have q2:=Az l1;have q3:=Az (pR l1).tail;have q4:=į (l:=pR l1);split at hm
      .split at hm
       .cases hm
       .rename_i o r hv;have q5:=IK _ _ _ _ hv;grind
      .cases hm) ε h1
    grind [A6,pX,tH]
  .split at h
   .split at h
    .cases h
    .rename_i r1 es h1;have ho:=(ĺ (Î h)).1;subst ho;obtain⟨hI,_⟩:=CW (σ:=List O) (λl s=>l.length<=2000/\∀p∈s,tH f p) ε (by
      rintro a s a' s' ⟨hla,hs⟩hm;unfold sV at hm;split at hm
      .cases hm
      .rename_i o r hv;have q5:=IK _ _ _ _ hv;grind) ε h1
     grind [A6,pX,tH]
   .split at h
    .grind [A6,pX,tH]
    .split at h
     .split at h
      .cases h
      .rename_i n r1 h1;have ho:=(ĺ (Î h)).1;subst ho;exact À (Å ⟨n,_,rfl,Zg hl h1⟩)
     .split at h
      .cases h
      .rename_i k r1 h1;have ho:=(ĺ (Î h)).1;subst ho;refine Å ⟨k,?_,rfl⟩;unfold A6 rE at h1;grind [A6,pX,tH]
theorem SL(b:Int)(l:List Int):∀a,decide (b<rL a l)=(decide (b<a) || l.any (λx=>decide (b<x))):=by
 induction l with
 |nil=>intro a;show decide (b<a)=(decide (b<a) || false);grind
 |cons x r ih=>
  intro a;show decide (b<rL (max a x) r)=_;grind
theorem oQ{α:Type}{p q:α->Bool}{l:List α}(h:∀x∈l,p x=q x):l.any p=l.any q:=by
 grind
theorem S8(mo:Int)(q4:0<=mo/\mo<=400)(f:Nat):∀o,tH f o->sA mo f o=decide (mo<uI f o):=by
 induction f with
 |zero=>intro o h;exact h.elim
 |succ f ih=>
  intro o h;have h0:decide (mo<0)=false:=ε;rcases h with⟨k,_,rfl⟩|⟨n,x,rfl,hn⟩|⟨s,rfl⟩|⟨es,rfl,q0⟩|⟨es,rfl,q0⟩
  .exact h0.symm
  .show (decide (x < -mo) || decide (mo<x))=decide (mo<max n.2.2 (-n.2.2));rw[ī];simp only[decide_eq_true_eq,Ķ];unfold Ng at hn;omega
  .exact h0.symm
  .show es.any (sA mo f)=decide (mo<rL 0 (es.map (uI f)));rw[SL,h0,C5,Ń];grind
  .show (qK es).any (λp=>sA mo f p.2)=decide (mo<rL 0 ((qK es).map λp=>uI f p.2));rw[SL,h0,C5,Ń];grind [List.any_map,qK,sA]
theorem YV(t:By)(d x:Int)(hx:0<=x/\x<=400):qB t d x=if 2000<t.length then(4,none)else match pX top (pR t)with
  |none=>(5,none)
  |some (o,r)=>if(pR r).isEmpty then(if rR top o then(6,none)else if d<qR top o then(7,none)else if sA x top o then(8,none)else(0,some (pO top o)))else(5,none):=by
 unfold qB;by_cases h1:2000<t.length
 .grind
 .rw[if_neg h1,if_neg h1,K5 top 1 (pR t) (false,(0,0)) (Ā _)];cases h:pX top (pR t)with
  |none=>rfl
  |some y=>
   obtain⟨o,r⟩:=y;have q0:=Nw top _ _ _ (by have:=Az t;omega) h;have hd:=(Qi top o).1;have e1:(sE top 1 (false,(0,0)) o).1=rR top o:=θ;have e2:(d<(sE top 1 (false,(0,0)) o).2.1)<->(d<qR top o):=by unfold sE;grind
   have e3:(x<(sE top 1 (false,(0,0)) o).2.2)<->(sA x top o=true):=by
    rw[S8 x hx top o q0,decide_eq_true_eq];unfold sE;grind
   grind
def qM:Nat->O->Prop
 |0,_=>False
 |f+1,o=>(∃k,k<3/\o=tL k)\/(∃n:Nm,o=tB n n.2.2/\-400<=n.2.2/\n.2.2<=400)\/(∃s,o=uA s)\/(∃es,o=rK es/\∀e∈es,qM f e)\/
   (∃es:Ms,o=qF es/\(es.map (·.1)).Nodup/\∀p∈es,qM f p.2)
theorem lZ(l:List By):∀q0:List By,tX (q0.map λk=>CH k) (l.map λk=>CH k)=false->l.Nodup/\∀k∈l,k∉q0:=by
 induction l with
 |nil=>grind
 |cons a r ih=>
  intro q0 h;rw[Ð,tX,Ĩ]at h;obtain⟨h1,h2⟩:=h;have h3:=ih (q0++[a]) ε;have ha:a∉q0:=by
   intro hm;have:(q0.map λk=>CH k).any (λp=>p.sameKey (.string a))=true:=è.2 ⟨.string a,ε,by simp[Lit.sameKey]⟩;grind
  grind
theorem dC(mo:Int)(q4:0<=mo/\mo<=400)(f:Nat):∀o,tH f o->rR f o=false->sA mo f o=false->qM f o:=by
 induction f with
 |zero=>intro o h;exact h.elim
 |succ f ih=>
  intro o h ht hf;rcases h with⟨k,hk,rfl⟩|⟨n,x,rfl,hn⟩|⟨s,rfl⟩|⟨es,rfl,q0⟩|⟨es,rfl,q0⟩
  .exact Å ⟨k,hk,rfl⟩
  .have h2:(decide (x < -mo) || decide (mo<x))=false:=hf;rw[Ĩ,decide_eq_false_iff_not,decide_eq_false_iff_not]at h2;unfold Ng at hn;have:n.2.2=x:=ζ;subst this;exact À ε
  .exact À ε
  .have t2:es.any (rR f)=false:=ht;have f2:es.any (sA mo f)=false:=hf;rw[CR]at t2 f2;exact À ε
  .have t2:((qK es).any (λp=>rR f p.2) || tX [] ((qK es).map (·.1)))=false:=ht;have f2:(qK es).any (λp=>sA mo f p.2)=false:=hf;rw[Ĩ]at t2;obtain⟨t2,t3⟩:=t2;unfold qK at t2 f2 t3;rw[Ń,CR]at t2 f2;have t4:(qK es).map (·.1)=(es.map (·.1)).map λk=>CH k:=by unfold qK;simp_all
   have t5:=(lZ (es.map (·.1)) [] (by rw[<-t4];exact t3)).1;exact À ε
def Fa(s:By)(d x:Int)(w:AI)(e:Ending)(w':AI):Prop:=
 Bl w w'/\((∃c:Nat,0<c/\qB s d x=(c,none)/\e=.returned (.tuple #[.pointer none,InB c]))\/
  (∃(p:Addr) (o:O),qB s d x=(0,some (pO top o))/\e=.returned (.tuple #[.pointer (some p),InB 0])/\Ar top (λk=>w.1.size<=k) w' (.pointer (some p)) o/\qM top o))
theorem Fa.err{d x:Int}{w:AI}{c:Nat}(h:qB s d x=(c,none))(hc:0<c)(hb:Bl w w'):Fa s d x w (.returned (.tuple #[.pointer none,InB c])) w':=⟨hb,Å ⟨c,hc,h,rfl⟩⟩
def tC(f:Nat)(s:By)(d x:Int):Nat×Option O:=match pX f (pR s)with
 |none=>(5,none)
 |some (o,r)=>if(pR r).isEmpty then(if rR f o then(6,none)else if d<qR f o then(7,none)else if sA x f o then(8,none)else(0,some o))else(5,none)
def FD(f:Nat)(s:By)(d x:Int)(w:AI)(e:Ending)(w':AI):Prop:=
 Bl w w'/\((∃c:Nat,0<c/\tC f s d x=(c,none)/\e=.returned (.tuple #[.pointer none,InB c]))\/
  (∃(p:Addr) (o:O),tC f s d x=(0,some o)/\e=.returned (.tuple #[.pointer (some p),InB 0])/\Ar f (λk=>w.1.size<=k) w' (.pointer (some p)) o/\qM f o))
theorem FD.err{d x:Int}{w:AI}{c:Nat}(h:tC f s d x=(c,none))(hc:0<c)(hb:Bl w w'):FD f s d x w (.returned (.tuple #[.pointer none,InB c])) w':=⟨hb,Å ⟨c,hc,h,rfl⟩⟩
theorem NH(f:Nat)(s:By)(d x most:Int)(hx:0<=x/\x<=400)(hm:(s.length:Int)<=most)(hsl:s.length<=8796093022208)(hf:s.length<f/\f<=20000000000000)(q7:∀o r,pX f (pR s)=some (o,r)->tH f o)(w:AI):
  C2 AT 64 #[.string ⟨s.toArray⟩,InB d,InB x,InB most] w λe w'=>FD f s d x w e w':=by
 have qg:(⟨s.toArray⟩:ByteArray).size=s.length:=AD s;have e0:decide (most<(s.length:Int))=false:=decide_eq_false ζ;have HU:=Ab (λw=>IM ⟨s.toArray⟩ (by rw[qg];omega) w);have qv:=Ab (show AtX ⟨s.toArray⟩ 0 s from⟨by rw[qg];omega,Ď _,φ⟩);have z2:=Az s;have qq:=Ab qg;have qb:=Ab q7;clear qg q7 hm;go_enter func64,ntmps64;go_wp2_with fail;refine(HU.u _).mono ?_;rintro e w1⟨rfl,hb1⟩;obtain⟨w2,qi⟩:∃w2,w2=w1.alloc (.cells #[.string ⟨s.toArray⟩,InB x,.bool false,.bool false] 139):=⟨_,rfl⟩
 have qu:RB w2 w1.1.size ⟨s.toArray⟩ x false false:=by rw[qi];exact Ax _ _ _ rfl
 have hb2:Bl w w2:=by rw[qi];exact hb1.alloc hb1.size _
 have z1:=hb1.size;have qr:=Ab qu;have qk:=Ab hb2;have qy:=Ab qi;clear hb1 qu hb2 qi HU;go_wp2_with fail;rw[<-qy.u];refine(CF qr.u.rs qv.u).mono ?_;rintro e w3⟨⟨q,rfl,hq⟩,rfl⟩;have HQ:=Ab hq;clear hq;go_wp2_with fail;refine(Wq f _ _ _ _ _ _ _ _ qr.u HQ.u hx ζ).mono ?_;rintro e w4⟨qn,hc⟩;have hb4:Bl w w4:=qk.u.trans (qn.below z1 qk.u.size);have q6:=Ab hb4;rcases hc with⟨o,r,V,q2,hs,rfl,qe,qf,qh⟩|⟨hs,rfl,z3,qz,qh⟩
 .have qo:=TE (f:=f) (s:=s) (r:=r) (o:=o) hs;have qt:=qb.u _ _ hs;have q8:=Ab (show tC f s d x=if(pR r).isEmpty then(if rR f o then(6,none)else if d<qR f o then(7,none)else if sA x f o then(8,none)else(0,some o))else(5,none) by unfold tC;rw[hs]);have qd:=Ab (qf.move (F':=λk=>w.1.size<=k) (w':=w4) λk h1 _=>⟨rfl,by have:=qk.u.size;omega⟩);have qm:=Ab qh;have qj:=Ab qe;have qw:=Ab qt;clear hs qe qf qh qt qn hb4;cases hu:tA s with
  |false=>
   have hem:(pR r).isEmpty=false:=by
    cases h:(pR r).isEmpty with
    |false=>rfl
    |true=>rw[qo h]at hu;cases hu
   have HF:=Ab (show tC f s d x=(5,none) by rw[q8.u,if_neg (by rw[hem];decide)]);clear qo hem;simp only;clear hu;go_wp2;go_ret2;exact FD.err HF.u (ń _) q6.u
  |true=>
   clear qo;simp only;clear hu;go_wp2_with fail;refine(CF qm.u.rs qj.u).mono ?_;rintro e w5⟨⟨q3,rfl,q9⟩,rfl⟩;cases hem:(pR r).isEmpty with
   |false=>
    have q5:=q9.len;have q4:=q9.le;have hne:(pR r).length≠0:=by
     intro h;rw[List.length_eq_zero_iff.1 h]at hem;cases hem
    rw[qq.u]at q5 q4;have e1:((q3:Int)==(s.length:Int))=false:=by rw[beq_eq_false_iff_ne];omega
    have HF:=Ab (show tC f s d x=(5,none) by rw[q8.u,if_neg (by rw[hem];decide)]);clear hem q9;go_wp2;go_ret2;exact FD.err HF.u (ń _) q6.u
   |true=>
    have q5:=q9.len;have q4:=q9.le;have hne:(pR r).length=0:=by rw[List.isEmpty_iff.1 hem];rfl
    rw[qq.u]at q5 q4;have z0:q3=s.length:=ζ;subst z0;have q0:=Ab (show tC f s d x=(if rR f o then(6,none)else if d<qR f o then(7,none)else if sA x f o then(8,none)else(0,some o)) by rw[q8.u,if_pos hem]);clear hem q9 hne q5 q4;go_wp2_with fail;refine(Qq f _ _ _ _ qd.u ζ).mono ?_;rintro e w6⟨rfl,rfl⟩;have k2:=qm.u.c2;have k3:=qm.u.c3;cases ht:rR f o with
    |true=>
     have HF:=Ab (show tC f s d x=(6,none) by rw[q0.u,if_pos ht]);rw[ht]at k2;clear ht k3;go_wp2;go_ret2;exact FD.err HF.u (ń _) q6.u
    |false=>
     rw[ht]at k2;by_cases hd:d<qR f o
     .have HF:=Ab (show tC f s d x=(7,none) by rw[q0.u,if_neg (by rw[ht];decide),if_pos hd]);have e1:decide (d<qR f o)=true:=decide_eq_true hd;clear ht k3 hd;go_wp2;go_ret2;exact FD.err HF.u (ń _) q6.u
     .have e1:decide (d<qR f o)=false:=decide_eq_false hd;cases hf:sA x f o with
      |true=>
       have HF:=Ab (show tC f s d x=(8,none) by rw[q0.u,if_neg (by rw[ht];decide),if_neg hd,if_pos hf]);rw[hf]at k3;clear ht hd hf;go_wp2;go_ret2;exact FD.err HF.u (ń _) q6.u
      |false=>
       have HF:=Ab (show tC f s d x=(0,some o) by rw[q0.u,if_neg (by rw[ht];decide),if_neg hd,if_neg (by rw[hf];decide)]);have HG:=Ab (dC x hx f o qw.u ht hf);rw[hf]at k3;clear ht hd hf;go_wp2;go_ret2;exact⟨q6.u,À ⟨_,o,HF.u,rfl,qd.u,HG.u⟩⟩
 .have HF:=Ab (show tC f s d x=(5,none) by unfold tC;rw[hs]);clear hs qh qn hb4;cases hu:tA s with
  |false=>
   simp only;clear hu;go_wp2;go_ret2;exact FD.err HF.u (ń _) q6.u
  |true=>
   simp only;clear hu;go_wp2;go_ret2;exact FD.err HF.u (ń _) q6.u
theorem NI(s:By)(d x:Int)(hx:0<=x/\x<=400)(w:AI):
  C2 AT 64 #[.string ⟨s.toArray⟩,InB d,InB x,InB 2000] w λe w'=>Fa s d x w e w':=by
 have q0:=YV s d x hx;have q5:(⟨s.toArray⟩:ByteArray).size=s.length:=AD s;by_cases hl:2000<s.length
 .rw[if_pos hl]at q0;have q4:=Ab q0;have e0:decide ((2000:Int)<(s.length:Int))=true:=decide_eq_true ζ;clear q0;go_enter func64,ntmps64;go_wp2;go_ret2;exact Fa.err q4.u (ń _) (Â _ _)
 .rw[if_neg hl]at q0;have e:qB s d x=((tC top s d x).1,(tC top s d x).2.map (pO top)):=by
   rw[q0];unfold tC;cases pX top (pR s)with
   |none=>rfl
   |some y=>grind
  refine(NH top s d x 2000 hx ζ ζ ⟨by rw[DN];omega,by rw[DN];omega⟩ (λo r h=>Nw top _ _ _ (by have:=Az s;omega) h) w).mono ?_;rintro z w' ⟨hb,⟨c,hc,h,rfl⟩|⟨p,o,h,rfl,h1,h2⟩⟩
  .exact⟨hb,Å ⟨c,hc,by rw[e,h];rfl,rfl⟩⟩
  .exact⟨hb,À ⟨p,o,by rw[e,h];rfl,rfl,h1,h2⟩⟩
theorem fN(t:ByteArray)(k:Nat)(h:k<t.size):t.extract k (k+1)=⟨[t[k]].toArray⟩:=by
 have e:=Jl t k 1;rw[DW t k h]at e;rw[show [t[k]]=(t[k]::t.data.toList.drop (k+1)).take 1 from rfl,<-e,Ě]
theorem aJ(t:ByteArray)(k:Nat)(h:k<t.size):AF (t.data.toList.take (k+1))=AF (t.data.toList.take k)++BE t[k]:=Om t.data.toList k κ
theorem nib(j:Nat)(hj:j<16):∃s:ByteArray,s.data.toList=[EK j]/\s.size=1/\∀w:AI,(Instr.slice 9 (.string ⟨#[48,49,50,51,52,53,54,55,56,57,97,98,99,100,101,102]⟩) (some (InB j)) (some (InB ((j:Int)+1))) none).run AT w=.ok (.string s) w:=by
 match j,hj with
 |0,_=>exact⟨⟨#[48]⟩,rfl,rfl,λw=>δ⟩
 |1,_=>exact⟨⟨#[49]⟩,rfl,rfl,λw=>δ⟩
 |2,_=>exact⟨⟨#[50]⟩,rfl,rfl,λw=>δ⟩
 |3,_=>exact⟨⟨#[51]⟩,rfl,rfl,λw=>δ⟩
 |4,_=>exact⟨⟨#[52]⟩,rfl,rfl,λw=>δ⟩
 |5,_=>exact⟨⟨#[53]⟩,rfl,rfl,λw=>δ⟩
 |6,_=>exact⟨⟨#[54]⟩,rfl,rfl,λw=>δ⟩
 |7,_=>exact⟨⟨#[55]⟩,rfl,rfl,λw=>δ⟩
 |8,_=>exact⟨⟨#[56]⟩,rfl,rfl,λw=>δ⟩
 |9,_=>exact⟨⟨#[57]⟩,rfl,rfl,λw=>δ⟩
 |10,_=>exact⟨⟨#[97]⟩,rfl,rfl,λw=>δ⟩
 |11,_=>exact⟨⟨#[98]⟩,rfl,rfl,λw=>δ⟩
 |12,_=>exact⟨⟨#[99]⟩,rfl,rfl,λw=>δ⟩
 |13,_=>exact⟨⟨#[100]⟩,rfl,rfl,λw=>δ⟩
 |14,_=>exact⟨⟨#[101]⟩,rfl,rfl,λw=>δ⟩
 |15,_=>exact⟨⟨#[102]⟩,rfl,rfl,λw=>δ⟩
 |j+16,h=>omega
theorem UN{c:UInt8}(h1:c≠34)(h2:c≠92)(h3:¬c.toNat<32):BE c=[c]:=by
 unfold BE;rw[if_neg (λh=>h.elim (λh=>h1 (ì.1 h)) (λh=>h2 (ì.1 h))),if_neg h3]
theorem aN{c:UInt8}(h3:c.toNat<32):BE c=[92,117,48,48,EK (c.toNat / 16),EK (c.toNat % 16)]:=by
 grind [BE,EK]
theorem V3(t:ByteArray)(n:Nat)(hn:n=t.size)(qg:n<=2000000)(w:AI):
  C2 AT 66 #[.string t] w λe w'=>(∃A:ByteArray,e=.returned (.string A)/\A.data.toList=Ai t.data.toList)/\Bl w w':=by
 have HN:=Ab hn;have qf:n<=t.size:=ζ;have qd:t.size<=n:=ζ;clear hn;go_enter func66,ntmps66;go_wp2;go_loopw [3,4] (λo i wr=>∃(k:Nat) (A:ByteArray),k<=n/\i=InB k/\o=.string A/\A.data.toList=34::AF (t.data.toList.take k)/\A.size<=1+6*k/\∃m,wr=w.drewN m) (λ_ i _=>n-(A3 i).toNat)
 case atStart=>exact⟨0,⟨#[34]⟩,ζ,rfl,rfl,rfl,η,0,rfl⟩
 case round=>
  obtain⟨k,A,hk,rfl,rfl,hA,qb,m,rfl⟩:=hrel;have HA:=Ab hA;clear hA;by_cases hlt:k<n
  .have q5:k<t.size:=ζ;have hx:=fN t k q5;have q0:=Ab (aJ t k q5);obtain⟨c,hc⟩:∃c,t[k]=c:=⟨_,rfl⟩
   rw[hc]at hx q0;by_cases h1:c=34
   .subst h1;have HC:=Ab hc;go_wp2;exact⟨⟨k+1,_,ζ,ψ,rfl,by rw[Cu,Cu,HA.u,q0.u];simp[BE],by simp only[Ĵ];have:(⟨#[92]⟩:ByteArray).size=1:=rfl;have:(⟨#[34]⟩:ByteArray).size=1:=rfl;omega,m,rfl⟩,by simp only[A3];omega⟩
   .have e1:(c==34)=false:=beq_eq_false_iff_ne.2 h1;have H1:=Ab h1;clear h1;by_cases h2:c=92
    .subst h2;go_wp2;exact⟨⟨k+1,_,ζ,ψ,rfl,by rw[Cu,Cu,HA.u,q0.u];simp[BE],by simp only[Ĵ];have:(⟨#[92]⟩:ByteArray).size=1:=rfl;omega,m,rfl⟩,by simp only[A3];omega⟩
    .have e2:(c==92)=false:=beq_eq_false_iff_ne.2 h2;have H2:=Ab h2;clear h2;by_cases h3:c.toNat<32
     .have e3:decide ((c.toNat:Int)<32)=true:=decide_eq_true ζ;obtain⟨hi,q4⟩:∃hi,hi=c.toNat / 16:=⟨_,rfl⟩
      obtain⟨lo,q6⟩:∃lo,lo=c.toNat % 16:=⟨_,rfl⟩
      have q1:((c.toNat:Int) / 16)=(hi:Int):=ζ;have q2:((c.toNat:Int) % 16)=(lo:Int):=ζ;obtain⟨x1,a1,b1,d1⟩:=nib hi ζ;obtain⟨x2,a2,b2,d2⟩:=nib lo ζ;have q7:=Ab q4;have q8:=Ab q6;have qe:hi<16:=ζ;have qh:lo<16:=ζ;clear q4 q6;have A1:=Ab a1;have A2:=Ab a2;have H3:=Ab h3;clear a1 a2;go_wp2_with fail;go_quiet(fail);go_wp2;exact⟨⟨k+1,_,ζ,ψ,rfl,by
       rw[Cu,Cu,Cu,HA.u,q0.u,aN H3.u,A1.u,A2.u,q7.u,q8.u];simp,by
       simp only[Ĵ,b1,b2];have:(⟨#[92,117,48,48]⟩:ByteArray).size=4:=rfl;omega,_,rfl⟩,by simp only[A3];omega⟩
     .have e3:decide ((c.toNat:Int)<32)=false:=ε;have H3:=Ab h3;clear h3;go_wp2;exact⟨⟨k+1,_,ζ,ψ,rfl,by rw[Cu,HA.u,q0.u,UN H1.u H2.u H3.u];simp,by simp only[Ĵ];have:(⟨#[c]⟩:ByteArray).size=1:=rfl;omega,m,rfl⟩,by simp only[A3];omega⟩
  .go_wp2;go_ret;have q9:t.data.toList.take k=t.data.toList:=Ï ω;refine⟨⟨_,rfl,?_⟩,⟨rfl,rfl,rfl,Á _,λ_ _=>rfl⟩⟩;rw[Cu,HA.u,q9];rfl
theorem Fy(s:By)(hs:s.length<=2000000)(w:AI):
  CB 66 #[.string ⟨s.toArray⟩] w (.string ⟨(Ai s).toArray⟩):=by
 refine(V3 ⟨s.toArray⟩ s.length (AD s).symm hs w).mono ?_;rintro e w' ⟨⟨A,rfl,hA⟩,hb⟩;refine⟨?_,hb⟩;have:A=⟨(Ai s).toArray⟩:=by rw[show Ai s=A.data.toList from hA.symm,Ě]
 rw[this]
theorem Ik{A:ByteArray}(h:A.data.toList=l):Ending.returned (.string A)=.returned (.string ⟨l.toArray⟩):=by
 rw[<-h,Ě]
theorem TX{w:AI}{x:Int}(h:OB w b vC ng ds x [] AE AE)(hx:-400<=x/\x<=400)(hd:ds.length<=2000000)(hT:Aj w):
  CB 65 #[PtB b] w (.string ⟨(BI (ng,ds,x)).toArray⟩):=by
 have c1:=h.c1;have c2:=h.c2;have c3:=h.c3;have HT:=Ab hT.tab;clear h hT;cases ds with
 |nil=>
  go_enter func65,ntmps65;go_wp2;go_ret;exact⟨rfl,Â _ _⟩
 |cons a r=>
  have hE:=Ab (show BI (ng,a::r,x)=(if ng then[45]else[])++((a::r)++(if x=0 then[]else 101::C0 x))from θ);simp only[É]at hd;have hsz:(⟨(a::r).toArray⟩:ByteArray).size=r.length+1:=θ;cases ng with
  |false=>
   by_cases h0:x=0
   .subst h0;go_enter func65,ntmps65;go_wp2;go_ret;refine⟨?_,Â _ _⟩;rw[hE.u];simp
   .have e0:(x != 0)=true:=ε;have e1:(x==0)=false:=ε;have H0:=Ab h0;clear h0;go_enter func65,ntmps65;go_wp2_with fail;refine(Tryz.strconv_Itoa x ζ ζ w HT.u).mono ?_;rintro e w5⟨rfl,kk,os,rfl⟩;have q0:=F9 w kk os;have q5:=CL x ζ ζ;have q6:(⟨(C0 x).toArray⟩:ByteArray).size=(C0 x).length:=AD _;have q4:=Ab q0;generalize Sort.grow (w.drewN kk) os=w5 at*;clear q0;go_wp2;go_ret;refine⟨?_,q4.u⟩;rw[hE.u,if_neg H0.u];exact Ik φ
  |true=>
   by_cases h0:x=0
   .subst h0;go_enter func65,ntmps65;go_wp2;go_ret;refine⟨?_,Â _ _⟩;rw[hE.u];exact Ik φ
   .have e0:(x != 0)=true:=ε;have e1:(x==0)=false:=ε;have H0:=Ab h0;clear h0;go_enter func65,ntmps65;go_wp2_with fail;refine(Tryz.strconv_Itoa x ζ ζ w HT.u).mono ?_;rintro e w5⟨rfl,kk,os,rfl⟩;have q0:=F9 w kk os;have q5:=CL x ζ ζ;have q6:(⟨(C0 x).toArray⟩:ByteArray).size=(C0 x).length:=AD _;have q4:=Ab q0;generalize Sort.grow (w.drewN kk) os=w5 at*;clear q0;go_wp2;go_ret;refine⟨?_,q4.u⟩;rw[hE.u,if_neg H0.u];exact Ik φ
theorem NL(L:List (Lit×pL)):∀E:List (Lit×pL),(E++L).Pairwise (λp q=>p.1≠q.1) ->∃E',sZ (.map E) L=.map E'/\E'.Perm (E++L):=by
 induction L with
 |nil=>intro E _;exact⟨E,rfl,φ⟩
 |cons p r ih=>
  intro E h;have q5:(E++p::r).Perm (p::(E++r)):=List.perm_middle;have q6:(p::(E++r)).Pairwise (λp q=>p.1≠q.1):=q5.pairwise h (λhab=>ň hab);have hne:∀q∈E,q.1.sameKey p.1=false:=λq hq=>sameKey_ne (ň ((ô.1 q6).1 q (by simp[hq])));have hf:(E.filter λq=>!q.1.sameKey p.1)=E:=Ŀ.2 λq hq=>by rw[hne q hq];rfl
  have q4:C6 (.map E) p.1 p.2=.map (Bs (p.1,p.2) E):=by
   show DataW.map (Bs (p.1,p.2) (E.filter λq=>!q.1.sameKey p.1))=_;rw[hf]
  have q0:(Bs (p.1,p.2) E).Perm (p::E):=ö _ _;have h2:(Bs (p.1,p.2) E++r).Perm (E++p::r):=((q0.append_right r).trans (List.Perm.refl _)).trans q5.symm;obtain⟨E',e1,e2⟩:=ih (Bs (p.1,p.2) E) (h2.symm.pairwise h (λhab=>ň hab));exact⟨E',by show sZ (C6 (.map E) p.1 p.2) r=_;rw[q4];exact e1,e2.trans h2⟩
theorem Hh(f:Nat)(es:Ms)(hnd:(es.map (·.1)).Nodup):∃es',pO (f+1) (qF es)=Ap es'/\(rV es').Perm (es.map (·.1))/\∀p∈es,rW es' p.1=pO f p.2:=by
 have q0:((qK es).map λp=>(p.1,pO f p.2)).Pairwise (λp q=>p.1≠q.1):=by
  unfold qK;rw[Ć,Ć];have h2:es.Pairwise (λa b=>a.1≠b.1):=Ć.1 hnd;exact h2.imp λh e=>h (Lit.string.inj e)
 obtain⟨L,hL⟩:∃L:List (Lit×pL),L=(qK es).map λp=>(p.1,pO f p.2):=⟨_,rfl⟩
 rw[<-hL]at q0;obtain⟨E',e1,e2⟩:=NL L [] q0;rw[Ù]at e2;rw[hL]at e1 e2 q0;refine⟨E',e1,?_,λp hp=>?_⟩
 .have h3:=e2.map (λp:Lit×pL=>match p.1 with|.string b=>b|_=>[]);unfold rV;refine h3.trans (List.Perm.of_eq ?_);unfold qK;rw[Ý,Ý];rfl
 .unfold rW;refine Ă .nil trivial (e2.symm.pairwise q0 (λhab=>ň hab)) (e2.mem_iff.2 ?_);exact Ò.2 ⟨(.string p.1,p.2),Ò.2 ⟨p,hp,rfl⟩,rfl⟩
theorem TO{es:List (Lit×pL)}(h:(rV es).Perm ks)(hnd:ks.Nodup):(rB es).Perm ks/\(rB es).Pairwise (λa b=>a<b):=by
 have hp:(rB es).Perm ks:=(ĕ _ _).trans h;refine⟨hp,?_⟩;have h1:(rB es).Pairwise (λa b=>(decide (a<=b))=true):=List.pairwise_mergeSort (le:=λa b:By=>decide (a<=b)) (λa b c h1 h2=>by simp only[decide_eq_true_eq]at*;exact List.le_trans h1 h2) (λa b=>by simp only[Ķ,decide_eq_true_eq];exact List.le_total a b) _;have h2:(rB es).Nodup:=hp.nodup_iff.2 hnd;refine(h1.and h2).imp ?_;rintro a b⟨h3,h4⟩;simp only[decide_eq_true_eq]at h3;rcases Decidable.em (a<b)with h5|h5
 .exact h5
 .exact absurd (C1 h3 h5) h4
def tI(i:Nat)(q0 k:By):Prop:=i=0\/q0<k
theorem Sk{sk:List By}(hp:sk.Perm ks)(hs:sk.Pairwise (λa b=>a<b))(hi:i<sk.length)(hl:∀_:0<i,q0=sk[i-1]):∃(x:Nat) (hx:x<ks.length),ks[x]=sk[i]/\tI i q0 ks[x]:=by
 obtain⟨x,hx,e⟩:=ù (hp.mem_iff.1 (Ó hi));refine⟨x,hx,e,?_⟩;by_cases h0:i=0
 .exact Å h0
 .right;rw[hl ζ,e];exact B4.1 hs _ _ _ _ ζ
theorem Zn{sk:List By}(hp:sk.Perm ks)(hs:sk.Pairwise (λa b=>a<b))(hi:i<sk.length)(hl:∀_:0<i,q0=sk[i-1]){a:Nat}(ha:a<ks.length)(hq:tI i q0 ks[a])(q4:∀(x:Nat) (hx:x<ks.length),tI i q0 ks[x] ->¬ks[x]<ks[a]):ks[a]=sk[i]:=by
 obtain⟨x,hx,e,q5⟩:=Sk hp hs hi hl;have h1:=q4 x hx q5;rw[e]at h1;obtain⟨m,hm,em⟩:=ù (hp.mem_iff.2 (Ó ha));rw[<-em]at h1 hq |-;have hlt:∀(x y:Nat) (hx:x<sk.length) (hy:y<sk.length),x<y->sk[x]<sk[y]:=λx y hx hy h=>B4.1 hs _ _ hx hy h;rcases Nat.lt_trichotomy m i with h|h|h
 .exfalso;rcases hq with h0|h0
  .omega
  .rw[hl ζ]at h0;rcases Nat.lt_or_ge m (i-1)with h2|h2
   .exact ı _ (CD h0 (hlt m (i-1) hm ζ h2))
   .have:m=i-1:=ζ;subst this;exact ı _ h0
 .subst h;rfl
 .exact absurd (hlt i m hi hm h) h1
def Em(i:Nat)(q0:By)(ks:List By)(j:Nat)(a:Int):Prop:=
 (a = -1/\∀(x:Nat) (hx:x<ks.length),x<j ->¬tI i q0 ks[x])\/
 (∃(m:Nat) (hm:m<ks.length),a=(m:Int)/\tI i q0 ks[m]/\∀(x:Nat) (hx:x<ks.length),x<j->tI i q0 ks[x] ->¬ks[x]<ks[m])
theorem Em.skip{a:Int}(h:Em i q0 ks j a)(hj:j<ks.length)(hq:¬tI i q0 ks[j]):Em i q0 ks (j+1) a:=by
 rcases h with⟨h1,h2⟩|⟨m,hm,h1,h2,h3⟩
 .refine Å ⟨h1,λx hx hlt=>?_⟩;by_cases e:x=j
  .subst e;exact hq
  .exact h2 x hx ζ
 .refine À ⟨m,hm,h1,h2,λx hx hlt q4=>?_⟩;grind
theorem Em.first(hno:∀(x:Nat) (hx:x<ks.length),x<j ->¬tI i q0 ks[x])(hj:j<ks.length)(hq:tI i q0 ks[j]):Em i q0 ks (j+1) (j:Nat):=by
 refine À ⟨j,hj,rfl,hq,λx hx hlt q4=>?_⟩;by_cases e:x=j
 .subst e;exact ı _
 .exact absurd q4 (hno x hx ζ)
theorem Em.less(hm:m<ks.length)(q4:∀(x:Nat) (hx:x<ks.length),x<j->tI i q0 ks[x] ->¬ks[x]<ks[m])(hj:j<ks.length)(hq:tI i q0 ks[j])(hl:ks[j]<ks[m]):Em i q0 ks (j+1) (j:Nat):=by
 refine À ⟨j,hj,rfl,hq,λx hx hlt q5=>?_⟩;by_cases e:x=j
 .subst e;exact ı _
 .exact λh=>q4 x hx ζ q5 (CD h hl)
theorem Em.keep(hm:m<ks.length)(q5:tI i q0 ks[m])(q4:∀(x:Nat) (hx:x<ks.length),x<j->tI i q0 ks[x] ->¬ks[x]<ks[m])(hj:j<ks.length)(hl:¬ks[j]<ks[m]):Em i q0 ks (j+1) (m:Nat):=by
 refine À ⟨m,hm,rfl,q5,λx hx hlt q6=>?_⟩;by_cases e:x=j
 .subst e;exact hl
 .exact q4 x hx ζ q6
theorem Vd:∀(x y:List UInt8),BY x y=decide (x<y)
 |[],[]=>θ
 |_::_,[]=>θ
 |[],_::_=>θ
 |a::x,b::y=>by
  rw[BY,Vd x y,ī];simp[List.cons_lt_cons_iff]
theorem bV{x y:By}(h:x<y):BY x y=true:=by rw[Vd];grind
theorem bW{x y:By}(h:¬x<y):BY x y=false:=by rw[Vd];grind
def cO(f:Nat):Prop:=∀(F:Nat->Prop) (w:AI) (v:B3) (o:O),Ar f F w v o->qM f o->Aj w->(pP f (pO f o)).length<=2000000 ->
 CB 46 #[v] w (.string ⟨(pP f (pO f o)).toArray⟩)
theorem Ar.below{w:AI}{v:B3}(h:Ar f F w v o)(hb:Bl w w'):Ar f F w' v o:=h.move λk h1 h2=>⟨hb.block k h2,h1⟩
theorem Ur(hC:cO f){w:AI}{B1 B2:Nat}{kl:B3}{es:Ms}{es':List (Lit×pL)}(h:OB w b sC false [] 0 [] kl sl)(hk:w.ownsRow B1 9 1 kl es.length (es.map λp=>AG p.1))(hv:w.ownsRow B2 66 1 sl ps.length ps)(hal:Al (Ar f F w) ps (es.map (·.2)))(y5:∀p∈es,qM f p.2)(q8:(rB es').Perm (es.map (·.1)))(qf:(rB es').Pairwise (λa b=>a<b))(qu:∀p∈es,rW es' p.1=pO f p.2)(hT:Aj w)(qy:(Ah ((rB es').map (qN f es'))).length+2<=2000000)(hpos:0<es.length):
  CB 67 #[.pointer (some ⟨b,0,none⟩)] w (.string ⟨(123::(Ah ((rB es').map (qN f es'))++[125])).toArray⟩):=by
 have zt:ps.length=es.length:=by have:=hal.length;grind
 obtain⟨N,hN⟩:∃N,N=es.length:=⟨_,rfl⟩
 obtain⟨g1,p1,e1,a1,b1,l1,ym⟩:=DS hk hpos;obtain⟨g2,p2,e2,a2,b2,l2,y3⟩:=DS hv ζ;subst e1 e2;have c5:=h.c5;have c6:=h.c6;rw[zt,<-hN]at c6;rw[<-hN]at c5 a1;have yv:N<=p2:=ζ;have yy:(N:Int)<=9223372036854775807:=by unfold maxLen at b1;omega
 have zb:=h.lt;obtain⟨ks,zo⟩:∃ks,ks=es.map (·.1):=⟨_,rfl⟩
 have y8:∀j (hj:j<ks.length),w.cell? ⟨g1,j,none⟩=some (AG ks[j]):=by
  grind
 rw[<-zo]at q8;have zn:ks.length=N:=ε;obtain⟨sk,zv⟩:∃sk,sk=rB es':=⟨_,rfl⟩
 rw[<-zv]at q8 qf qy |-;have za:sk.length=N:=by rw[q8.length_eq,zn]
 have yg:=Ab y8;have zi:=Ab y3;have z1:=Ab zn;have z6:=Ab za;have qo:=Ab q8;have qq:=Ab qf;have HN:=Ab hN;have yj:=Ab zt;have ye:=Ab hal;have yf:=Ab y5;have z4:=Ab qu;have yh:=Ab zo;have z3:=Ab qy;have HT:=Ab hT;have HC:=Ab hC;have yu:=Ab zv;clear h hk hv hal y5 q8 qf qu hT qy hpos zt hN ym y3 zo y8 zn zv za hC;go_enter func67,ntmps67;go_wp2;go_loopw [3,4,5] (λs la n wr=>∃(i:Nat) (A:ByteArray) (q4:By),i<=N/\s=.string A/\la=AG q4/\n=.int .i64 i/\A.data.toList=123::Ah ((sk.map (qN f es')).take i)/\(∀(h0:0<i) (hi:i-1<sk.length),q4=sk[i-1])/\Bl w wr) (λ_ _ n _=>N-(A3 n).toNat)
 case atStart=>exact⟨0,⟨#[123]⟩,[],ζ,rfl,rfl,rfl,rfl,ζ,Â _ _⟩
 case round=>
  obtain⟨i,A,q4,hi,rfl,rfl,rfl,hA,qt,hb⟩:=hrel;have HA:=Ab hA;have z2:=Ab qt;have HB:=Ab hb;have r5:=(hb.cell (p:=⟨b,5,none⟩) zb).trans c5;have r6:=(hb.cell (p:=⟨b,6,none⟩) zb).trans c6;have qi:=Ab (λ(j:Nat) (hj:j<ks.length)=>(hb.cell (p:=⟨g1,j,none⟩) l1).trans (yg.u j hj));have zj:=Ab (λ(j:Nat) (hj:j<ps.length)=>(hb.cell (p:=⟨g2,j,none⟩) l2).trans (zi.u j hj));clear hA qt hb;by_cases hlt:i<N
  .go_wp2;go_loopw [6,7] (λyk j' wq=>∃(j q:Nat) (a:Int),j<=N/\j'=.int .i64 j/\yk=.int .i64 a/\Em i q4 ks j a/\wq=wr.drewN q) (λ_ j _=>N-(A3 j).toNat)
   case atStart=>exact⟨0,0,-1,ζ,rfl,rfl,Å ⟨rfl,ζ⟩,rfl⟩
   case round=>
    obtain⟨j,q,a,hj,rfl,rfl,qr,rfl⟩:=hrel;have q0:=Ab qr;clear qr;by_cases yx:j<N
    .have qm:j<ks.length:=by have:=z1.u;omega
     have q1:=qi.u j qm;unfold AG at q1;obtain⟨kj,zm⟩:∃kj,ks[j]=kj:=⟨_,rfl⟩
     rw[zm]at q1;have z0:=Ab zm;clear zm;unfold AG;by_cases qk:i=0
     .have e0:((i:Int)==0)=true:=κ;have HQ:=Ab (show tI i q4 ks[j]from Å qk);clear qk;rcases q0.u with⟨rfl,hno⟩|⟨m,hm,rfl,qg,q6⟩
      .have q9:=Ab (Em.first hno qm HQ.u);clear hno q0;go_wp2_with fail;go_quiet(fail);go_wp2;exact⟨⟨j+1,_,(j:Nat),ζ,ψ,rfl,q9.u,rfl⟩,by simp only[A3];omega⟩
      .have q2:=qi.u m hm;unfold AG at q2;obtain⟨km,qb⟩:∃km,ks[m]=km:=⟨_,rfl⟩
       rw[qb]at q2;have yb:m<N:=by have:=z1.u;omega
       have em:decide ((m:Int)<0)=false:=decide_eq_false ζ;by_cases q5:kj<km
       .have b3:=bV q5;have q9:=Ab (Em.less hm q6 qm HQ.u (by rw[qb,z0.u];exact q5));clear qb qg q6 q5 q0;go_wp2_with fail;go_quiet(fail);go_wp2;exact⟨⟨j+1,_,(j:Nat),ζ,ψ,rfl,q9.u,rfl⟩,by simp only[A3];omega⟩
       .have b3:=bW q5;have q9:=Ab (Em.keep hm qg q6 qm (by rw[qb,z0.u];exact q5));clear qb qg q6 q5 q0;go_wp2_with fail;go_quiet(fail);go_wp2;exact⟨⟨j+1,_,(m:Nat),ζ,ψ,rfl,q9.u,rfl⟩,by simp only[A3];omega⟩
     .have e0:((i:Int)==0)=false:=κ;by_cases qj:q4<kj
      .have HQ:=Ab (show tI i q4 ks[j]from À (by rw[z0.u];exact qj));have b1:BY kj q4=false:=bW (λh=>ı _ (CD h qj));have b2:(kj==q4)=false:=by rw[beq_eq_false_iff_ne];intro h;rw[h]at qj;exact ı _ qj
       clear qj qk;rcases q0.u with⟨rfl,hno⟩|⟨m,hm,rfl,qg,q6⟩
       .have q9:=Ab (Em.first hno qm HQ.u);clear hno q0;go_wp2_with fail;go_quiet(fail);go_wp2;exact⟨⟨j+1,_,(j:Nat),ζ,ψ,rfl,q9.u,rfl⟩,by simp only[A3];omega⟩
       .have q2:=qi.u m hm;unfold AG at q2;obtain⟨km,qb⟩:∃km,ks[m]=km:=⟨_,rfl⟩
        rw[qb]at q2;have yb:m<N:=by have:=z1.u;omega
        have em:decide ((m:Int)<0)=false:=decide_eq_false ζ;by_cases q5:kj<km
        .have b3:=bV q5;have q9:=Ab (Em.less hm q6 qm HQ.u (by rw[qb,z0.u];exact q5));clear qb qg q6 q5 q0;go_wp2_with fail;go_quiet(fail);go_wp2;exact⟨⟨j+1,_,(j:Nat),ζ,ψ,rfl,q9.u,rfl⟩,by simp only[A3];omega⟩
        .have b3:=bW q5;have q9:=Ab (Em.keep hm qg q6 qm (by rw[qb,z0.u];exact q5));clear qb qg q6 q5 q0;go_wp2_with fail;go_quiet(fail);go_wp2;exact⟨⟨j+1,_,(m:Nat),ζ,ψ,rfl,q9.u,rfl⟩,by simp only[A3];omega⟩
      .have HQ:=Ab (show ¬tI i q4 ks[j]from λh=>h.elim qk (by rw[z0.u];exact qj));by_cases qn:kj<q4
       .have b1:=bV qn;clear qj qk qn;have q9:=Ab (q0.u.skip qm HQ.u);clear q0;go_wp2_with fail;go_quiet(fail);go_wp2;exact⟨⟨j+1,_,a,ζ,ψ,rfl,q9.u,rfl⟩,by simp only[A3];omega⟩
       .have b2:(kj==q4)=true:=by rw[beq_iff_eq];exact C1 qj qn
        clear qj qk qn;have q9:=Ab (q0.u.skip qm HQ.u);clear q0;go_wp2_with fail;go_quiet(fail);go_wp2;exact⟨⟨j+1,_,a,ζ,ψ,rfl,q9.u,rfl⟩,by simp only[A3];omega⟩
    .obtain⟨yw⟩:Nonempty (j=N):=⟨ζ⟩
     have y7:i<sk.length:=by have:=z6.u;omega
     have qz:∀_:0<i,q4=sk[i-1]:=λh=>z2.u h ζ;obtain⟨m,hm,rfl,qg,q6⟩:∃(m:Nat) (hm:m<ks.length),a=(m:Int)/\tI i q4 ks[m]/\∀(x:Nat) (hx:x<ks.length),x<j->tI i q4 ks[x] ->¬ks[x]<ks[m]:=by
      rcases q0.u with⟨_,hno⟩|h
      .exfalso;obtain⟨x,hx,_,yt⟩:=Sk qo.u qq.u y7 qz;exact hno x hx (by have:=z1.u;omega) yt
      .exact h
     have qw:=Zn qo.u qq.u y7 qz hm qg (λx hx=>q6 x hx (by have:=z1.u;omega));obtain⟨ki,zc⟩:∃ki,sk[i]=ki:=⟨_,rfl⟩
     rw[zc]at qw;have q1:=qi.u m hm;rw[qw]at q1;unfold AG at q1 |-;have yb:m<N:=by have:=z1.u;omega
     have zf:m<ps.length:=by have:=yj.u;have:=HN.u;omega
     have ya:m<es.length:=by have:=HN.u;omega
     have q2:=zj.u m zf;obtain⟨pm,zu⟩:∃pm,ps[m]=pm:=⟨_,rfl⟩
     have qe:=ye.u.get m zf κ;rw[zu]at q2 qe;rw[é]at qe;have y4:es[m].1=ki:=by
      have h9:ks[m]=es[m].1:=by
       have:=yh.u;simp_all
      simp_all
     have ze:=z4.u es[m] (Ó ya);rw[y4]at ze;have zl:=yf.u es[m] (Ó ya);obtain⟨om,yc⟩:∃om,es[m].2=om:=⟨_,rfl⟩
     rw[yc]at qe ze zl;have yp:i<(sk.map (qN f es')).length:=κ;have hit:(sk.map (qN f es'))[i]=Ai ki++58::pP f (pO f om):=by rw[é,zc];unfold qN;rw[ze]
     have zg:=Eg (sk.map (qN f es')) i yp;rw[hit]at zg;have yq:=Ch (sk.map (qN f es')) (i+1);have y9:=congrArg A5 zg;simp only[Ñ,É]at y9;have zq:=z3.u;have qv:=congrArg A5 HA.u;rw[<-Ė]at qv;simp only[É]at qv;have hcl:(pP f (pO f om)).length<=2000000:=ζ;have yr:(Ai ki).length<=2000000:=ζ;have z8:ki.length<=2000000:=by have:=vE ki;omega
     have yl:A.size<=2000001:=ζ;have yz:(⟨(Ai ki).toArray⟩:ByteArray).size<=2000000:=by rw[AD];exact yr
     have hz2:(⟨(pP f (pO f om)).toArray⟩:ByteArray).size<=2000000:=by rw[AD];exact hcl
     have zz:=Ab zg;have z5:=Ab qe;have zx:=Ab zl;have zy:=Ab zc;have zw:=Ab hcl;clear qg q6 qw y4 ze yc hit zg yq y9 zq qv qe zl zc qz q0;have z9:=zu;clear zu;have yd:Bl wr (wr.drewN q):=Bj;by_cases qk:¬0<i
     .have e0:decide ((0:Int)<(i:Int))=false:=decide_eq_false ζ;have zk:=Ab qk;go_wp2_with fail;refine(Fy ki z8 _).mono ?_;rintro e w4⟨rfl,hb4⟩;have q7:Bl w w4:=(HB.u.trans (yd.mono HB.u.size)).trans (hb4.mono (by have:=HB.u.size;simp_all));have y6:=(q7.cell (p:=⟨b,6,none⟩) zb).trans c6;have y2:=(q7.cell (p:=⟨g2,m,none⟩) l2).trans (zi.u m zf);have qh:=Ab q7;clear hb4 q7;have qd:ps[m]=pm:=z9;rw[qd]at y2;clear qd;go_wp2_with fail;refine(HC.u F w4 pm om (z5.u.below qh.u) zx.u (HT.u.below (qh.u.mono HT.u.ng)) zw.u).mono ?_;rintro e w5⟨rfl,z7⟩;have zh:=Ab (qh.u.trans (z7.mono qh.u.size));clear z7;go_wp2_with fail;refine⟨⟨i+1,_,ki,ζ,rfl,rfl,ψ,?_,?_,zh.u⟩,by simp only[A3];omega⟩
      .rw[zz.u,if_neg zk.u];simp[HA.u]
      .intro _ _;exact zy.u.symm
     .have yn:0<i:=ζ;have e0:decide ((0:Int)<(i:Int))=true:=decide_eq_true ζ;have zk:=Ab yn;clear qk;go_wp2_with fail;refine(Fy ki z8 _).mono ?_;rintro e w4⟨rfl,hb4⟩;have q7:Bl w w4:=(HB.u.trans (yd.mono HB.u.size)).trans (hb4.mono (by have:=HB.u.size;simp_all));have y6:=(q7.cell (p:=⟨b,6,none⟩) zb).trans c6;have y2:=(q7.cell (p:=⟨g2,m,none⟩) l2).trans (zi.u m zf);have qh:=Ab q7;clear hb4 q7;have qd:ps[m]=pm:=z9;rw[qd]at y2;clear qd;go_wp2_with fail;refine(HC.u F w4 pm om (z5.u.below qh.u) zx.u (HT.u.below (qh.u.mono HT.u.ng)) zw.u).mono ?_;rintro e w5⟨rfl,z7⟩;have zh:=Ab (qh.u.trans (z7.mono qh.u.size));clear z7;go_wp2_with fail;refine⟨⟨i+1,_,ki,ζ,rfl,rfl,ψ,?_,?_,zh.u⟩,by simp only[A3];omega⟩
      .rw[zz.u,if_pos zk.u];simp[HA.u]
      .intro _ _;exact zy.u.symm
  .have yo:i=N:=ζ;have zr:(sk.map (qN f es')).take i=sk.map (qN f es'):=Ï (by have:=z6.u;simp;omega);have qv:=congrArg A5 HA.u;rw[<-Ė,zr]at qv;simp only[É]at qv;have zq:=z3.u;have yl:A.size<=2000001:=ζ;have yi:=Ab zr;clear yo zr qv zq;go_wp2;go_ret;refine⟨?_,HB.u⟩;exact Ik (by rw[Cu,HA.u,yi.u];simp)
theorem Hm{n:Nm}{x:Int}(h:qM (f+1) (tB n x)):x=n.2.2/\-400<=n.2.2/\n.2.2<=400:=by
 rcases h with⟨k,_,h⟩|⟨m,h,h1,h2⟩|⟨s,h⟩|⟨es,h,_⟩|⟨es,h,_⟩
 .cases h
 .grind [tB,List.cons.injEq,DataW.lit.injEq]
 .cases h
 .cases h
 .cases h
theorem ES{es:List O}(h:qM (f+1) (rK es)):∀e∈es,qM f e:=by
 rcases h with⟨k,_,h⟩|⟨m,h,h1,h2⟩|⟨s,h⟩|⟨es',h,h2⟩|⟨es',h,_⟩
 .cases h
 .cases h
 .cases h
 .have h3:es=es':=by unfold rK at h;injection h
  grind
 .cases h
theorem ER{es:Ms}(h:qM (f+1) (qF es)):(es.map (·.1)).Nodup/\∀p∈es,qM f p.2:=by
 rcases h with⟨k,_,h⟩|⟨m,h,h1,h2⟩|⟨s,h⟩|⟨es',h,h2⟩|⟨es',h,h2⟩
 .cases h
 .cases h
 .cases h
 .cases h
 .have h3:es=es':=by
   unfold qF at h;injection h with h;unfold qK at h;refine(List.map_inj_right ?_).1 h;grind
  grind
theorem RA{w:AI}{k:Nat}(hk:k<3)(h:OB w b (rE.getD k []) false [] 0 [] AE AE):
  CB 46 #[PtB b] w (.string ⟨(rE.getD k []).toArray⟩):=by
 have c0:=h.c0;clear h
 match k,hk with
 |0,_=>
  rw[show rE.getD 0 []=[110,117,108,108]from rfl]at c0 |-;go_enter func46,ntmps46;go_wp2;go_ret;exact⟨rfl,Â _ _⟩
 |1,_=>
  rw[show rE.getD 1 []=[116,114,117,101]from rfl]at c0 |-;go_enter func46,ntmps46;go_wp2;go_ret;exact⟨rfl,Â _ _⟩
 |2,_=>
  rw[show rE.getD 2 []=[102,97,108,115,101]from rfl]at c0 |-;go_enter func46,ntmps46;go_wp2;go_ret;exact⟨rfl,Â _ _⟩
theorem Vc{w:AI}{x:Int}(h:OB w b vC ng ds x [] AE AE)(hx:-400<=x/\x<=400)(hd:ds.length<=2000000)(hT:Aj w):
  CB 46 #[PtB b] w (.string ⟨(BI (ng,ds,x)).toArray⟩):=by
 have c0:=h.c0;unfold vC at c0;have H:=Ab (TX h hx hd hT);clear h hT;go_enter func46,ntmps46;go_wp2_with fail;refine H.u.mono ?_;rintro e w1⟨rfl,hb⟩;go_wp2;go_ret;simp_all
theorem Va{w:AI}(h:OB w b vJ false [] 0 s AE AE)(hd:s.length<=2000000):
  CB 46 #[PtB b] w (.string ⟨(Ai s).toArray⟩):=by
 have c0:=h.c0;have c4:=h.c4;unfold vJ at c0;have H:=Ab (Fy s hd w);clear h;go_enter func46,ntmps46;go_wp2_with fail;refine H.u.mono ?_;rintro e w1⟨rfl,hb⟩;go_wp2;go_ret;simp_all
theorem RC{w:AI}{c:Nat}(h:OB w b sC false [] 0 [] (.slice a 0 c) sl):
  CB 67 #[PtB b] w (.string ⟨#[123,125]⟩):=by
 have c5:=h.c5;clear h;go_enter func67,ntmps67;go_wp2_with fail;refine ø 1 ?_;rw[ď];go_wp2;go_ret;exact⟨δ,Â _ _⟩
theorem Vb{w:AI}{kl:B3}(h:OB w b sC false [] 0 [] kl sl)(H:CB 67 #[PtB b] w (.string ⟨l.toArray⟩)):
  CB 46 #[PtB b] w (.string ⟨l.toArray⟩):=by
 have c0:=h.c0;unfold sC at c0;have H2:=Ab H;clear h H;go_enter func46,ntmps46;go_wp2_with fail;refine H2.u.mono ?_;rintro e w1⟨rfl,hb⟩;go_wp2;go_ret;simp_all
theorem RE{w:AI}{c:Nat}(h:OB w b sW false [] 0 [] AE (.slice a 0 c)):
  CB 46 #[PtB b] w (.string ⟨#[91,93]⟩):=by
 have c0:=h.c0;have c6:=h.c6;unfold sW at c0;clear h;go_enter func46,ntmps46;go_wp2_with fail;refine ø 1 ?_;rw[ď];go_wp2;go_ret;exact⟨δ,Â _ _⟩
theorem QC(hC:cO f){w:AI}{B:Nat}{es:List O}(h:OB w b sW false [] 0 [] AE sl)(hv:w.ownsRow B 66 1 sl ps.length ps)(hal:Al (Ar f F w) ps es)(qj:∀e∈es,qM f e)(hT:Aj w)(q8:(Ah (es.map λo=>pP f (pO f o))).length+2<=2000000)(hpos:0<es.length):
  CB 46 #[.pointer (some ⟨b,0,none⟩)] w (.string ⟨(91::(Ah (es.map λo=>pP f (pO f o))++[93])).toArray⟩):=by
 have qq:=hal.length;obtain⟨N,hN⟩:∃N,N=ps.length:=⟨_,rfl⟩
 obtain⟨g2,p2,rfl,a2,b2,l2,qi⟩:=DS hv ζ;have c0:=h.c0;unfold sW at c0;have c6:=h.c6;rw[<-hN]at c6 a2;have z2:(N:Int)<=9223372036854775807:=by unfold maxLen at b2;omega
 have qz:=h.lt;have qu:=Ab qi;have HN:=Ab hN;have qg:=Ab qq;have qt:=Ab hal;have qv:=Ab qj;have q6:=Ab q8;have HT:=Ab hT;have HC:=Ab hC;clear h hv hal qj hT q8 hpos qq hN qi hC;go_enter func46,ntmps46;go_wp2;go_loopw [3,4] (λs n wr=>∃(i:Nat) (A:ByteArray),i<=N/\s=.string A/\n=.int .i64 i/\A.data.toList=91::Ah ((es.map λo=>pP f (pO f o)).take i)/\Bl w wr) (λ_ n _=>N-(A3 n).toNat)
 case atStart=>exact⟨0,⟨#[91]⟩,ζ,rfl,rfl,rfl,Â _ _⟩
 case round=>
  obtain⟨i,A,hi,rfl,rfl,hA,hb⟩:=hrel;have HA:=Ab hA;have HB:=Ab hb;have r6:=(hb.cell (p:=⟨b,6,none⟩) qz).trans c6;clear hA;by_cases hlt:i<N
  .have qm:i<ps.length:=by have:=HN.u;omega
   have qk:i<es.length:=by have:=qg.u;omega
   have q2:=(hb.cell (p:=⟨g2,i,none⟩) l2).trans (qu.u i qm);have q4:=(qt.u.get i qm qk).below hb;have qd:=qv.u es[i] (Ó qk);have z0:i<(es.map λo=>pP f (pO f o)).length:=ε;have q9:=Eg (es.map λo=>pP f (pO f o)) i z0;rw[é]at q9;obtain⟨om,qo⟩:∃om,es[i]=om:=⟨_,rfl⟩
   obtain⟨pm,qr⟩:∃pm,ps[i]=pm:=⟨_,rfl⟩
   rw[qo]at q4 qd q9;rw[qr]at q4 q2;have z1:=Ch (es.map λo=>pP f (pO f o)) (i+1);have qn:=congrArg A5 q9;simp only[Ñ]at qn;have qe:=q6.u;have q5:=congrArg A5 HA.u;rw[<-Ė]at q5;simp only[É]at q5;have hcl:(pP f (pO f om)).length<=2000000:=ζ;have qy:A.size<=2000001:=ζ;have q0:=Ab (HC.u F wr pm om q4 qd (HT.u.below (hb.mono HT.u.ng)) hcl);have qh:=Ab q9;clear q9 z1 qn qe q5 q4 qd qo qr hb;by_cases h0:0<i
   .have e0:decide ((0:Int)<(i:Int))=true:=decide_eq_true ζ;go_wp2_with fail;refine q0.u.mono ?_;rintro e w5⟨rfl,q7⟩;have qb:=Ab (HB.u.trans (q7.mono HB.u.size));clear q7 q0;go_wp2_with fail;refine⟨⟨i+1,_,ζ,rfl,ψ,?_,qb.u⟩,by simp only[A3];omega⟩;rw[qh.u,if_pos h0];simp[HA.u]
   .have e0:decide ((0:Int)<(i:Int))=false:=ε;go_wp2_with fail;refine q0.u.mono ?_;rintro e w5⟨rfl,q7⟩;have qb:=Ab (HB.u.trans (q7.mono HB.u.size));clear q7 q0;go_wp2_with fail;refine⟨⟨i+1,_,ζ,rfl,ψ,?_,qb.u⟩,by simp only[A3];omega⟩;rw[qh.u,if_neg h0];simp[HA.u]
  .have qf:(es.map λo=>pP f (pO f o)).take i=es.map λo=>pP f (pO f o):=Ï (by have:=HN.u;have:=qg.u;simp;omega);have q5:=congrArg A5 HA.u;rw[<-Ė,qf]at q5;simp only[É]at q5;have qe:=q6.u;have qy:A.size<=2000001:=ζ;have qw:=Ab qf;clear qf q5 qe hb;go_wp2;go_ret;refine⟨?_,HB.u⟩;exact Ik (by rw[Cu,HA.u,qw.u];simp)
theorem GY(f:Nat):cO f:=by
 induction f with
 |zero=>intro F w v o h;exact h.elim
 |succ f ih=>
  intro F w v o h hg hT hl;obtain⟨b,rfl,hb,h⟩:=h;rcases h with⟨k,hk,rfl,h⟩|⟨n,x,rfl,h⟩|⟨s,rfl,h⟩|⟨es,sl,ps,rfl,h,ho,hs,ha⟩|⟨es,kl,sl,ps,rfl,h,ho,hs,ho2,hs2,ha⟩
  .exact RA hk h
  .obtain⟨rfl,h1,h2⟩:=Hm hg;have q8:(BI n).length<=2000000:=hl;refine Vc h ⟨h1,h2⟩ ?_ hT;grind [List.length_append,BI,pP]
  .have q8:(Ai s).length<=2000000:=hl;exact Va h (by have:=vE s;omega)
  .have e1:pP (f+1) (pO (f+1) (rK es))=91::(Ah (es.map λo=>pP f (pO f o))++[93]):=by
    show pP (f+1) (Ak (es.map (pO f)))=_;rw[BH,Ý];rfl
   rw[e1]at hl |-;simp only[É,Ñ,á]at hl;by_cases h0:0<es.length
   .exact QC ih h ho ha (ES hg) hT ζ h0
   .have q6:es=[]:=ε;subst q6;have hps:ps.length=0:=ha.length;have hz:∃a c,sl=.slice a 0 c:=by
     rcases ho.2 with⟨e,_⟩|⟨g,cap,cur,e,_⟩
     .grind
     grind
    obtain⟨a,c,rfl⟩:=hz;exact RE h
  .obtain⟨hnd,q7⟩:=ER hg;obtain⟨es',e1,q4,q0⟩:=Hh f es hnd;obtain⟨q9,q5⟩:=TO q4 hnd;rw[e1,vO]at hl |-;simp only[É,Ñ,á]at hl;refine Vb h ?_;by_cases h0:0<es.length
   .exact Ur ih h ho ho2 ha q7 q9 q5 q0 hT ζ h0
   .have q6:es=[]:=ε;subst q6;have hz:∃a c,kl=.slice a 0 c:=by
     rcases ho.2 with⟨e,_⟩|⟨g,cap,cur,e,_⟩
     .grind
     grind
    obtain⟨a,c,rfl⟩:=hz;have qb:rB es'=[]:=ê κ;rw[qb];exact RC h
theorem Ed(n a b:Int)(w:AI):C2 AT 37 #[InB n,InB a,InB b] w λe w'=>e=.returned (.bool (rU n a b))/\w'=w:=by
 by_cases h1:a<=n
 .by_cases h2:n<=b
  .have e1:decide (a<=n)=true:=by simpa using h1
   have e2:decide (n<=b)=true:=by simpa using h2
   have HE:=Ab (show rU n a b=true by unfold rU;rw[e1,e2];rfl);clear h1 h2;go_enter func37,ntmps37;go_wp2;go_ret;exact⟨by rw[HE.u];rfl,rfl⟩
  .have e1:decide (a<=n)=true:=by simpa using h1
   have e2:decide (n<=b)=false:=by simpa using h2
   have HE:=Ab (show rU n a b=false by unfold rU;rw[e1,e2];rfl);clear h1 h2;go_enter func37,ntmps37;go_wp2;go_ret;exact⟨by rw[HE.u];rfl,rfl⟩
 .have e1:decide (a<=n)=false:=by simpa using h1
  have HE:=Ab (show rU n a b=false by unfold rU;rw[e1];rfl);clear h1;go_enter func37,ntmps37;go_wp2;go_ret;exact⟨by rw[HE.u];rfl,rfl⟩
theorem Ec(c:Nat)(w:AI):CB 38 #[InB c] w (AC c []):=by
 unfold AC;go_enter func38,ntmps38;go_wp2_with fail;refine Ì (v:=.agg #[InB c,InB 0,.string ⟨([]:By).toArray⟩]) (by simp[results,results38,go_sem]) rfl ⟨rfl,?_⟩;exact(Â _ w).alloc (Á _) _
def EB(w:AI)(E:Nat)(d x n:Int)(p q:B3):Prop:=w.1[E]?=some (.cells #[InB d,InB x,InB n,p,q] 68 (0,0))
section
variable{w:AI}{E:Nat}{d x n:Int}{p q:B3}
theorem EB.lt(h:EB w E d x n p q):E<w.1.size:=(È.1 h).1
theorem EB.c0(h:EB w E d x n p q):CeB w E 0=some (InB d):=ck h
theorem EB.c1(h:EB w E d x n p q):CeB w E 1=some (InB x):=ck h
theorem EB.c3(h:EB w E d x n p q):CeB w E 3=some p:=ck h
theorem EB.c4(h:EB w E d x n p q):CeB w E 4=some q:=ck h
theorem EB.fz(h:EB w E d x n p q)(o:Nat):w.frozen? ⟨E,o,none⟩=false:=fk h
theorem EB.low(h:EB w E d x n p q)(hb:Bl w w'):EB w' E d x n p q:=(hb.block E h.lt).trans h
theorem EB.set3(h:EB w E d x n p q)(u:B3):EB (w.setCell ⟨E,3,none⟩ u) E d x n u q:=by unfold EB at h |-;rw[BX h];rfl
theorem EB.set4(h:EB w E d x n p q)(u:B3):EB (w.setCell ⟨E,4,none⟩ u) E d x n p u:=by unfold EB at h |-;rw[BX h];rfl
end
theorem Fa.form{d x:Int}{w:AI}{e:Ending}(h:Fa s d x w e w'):∃(p:Option Addr) (c:Nat),e=.returned (.tuple #[.pointer p,InB c]):=by
 rcases h.2 with⟨c,_,_,h⟩|⟨p,o,_,h,_⟩
 .exact⟨none,c,h⟩
 .exact⟨some p,0,h⟩
theorem Fa.from{d x:Int}{w w0:AI}{e:Ending}(h:Fa s d x w e w')(hh:w.1=w0.1)(ho:w.os=w0.os)(ht:w.tape=w0.tape)(hu:w.output=w0.output):Fa s d x w0 e w':=by
 obtain⟨h1,h2⟩:=h;have hs:w.1.size=w0.1.size:=by rw[hh]
 refine⟨⟨h1.os.trans ho,h1.tape.trans ht,h1.output.trans hu,by rw[<-hs];exact h1.size,λk hk=>by rw[<-hh];exact h1.block k ζ⟩,h2.imp id ?_⟩;rintro⟨p,o,a,b,c,d⟩;exact⟨p,o,a,b,by rw[<-hs];exact c,d⟩
theorem LR{E:Nat}{d x n:Int}{p q:B3}{w:AI}(s:By)(h:EB w E d x n p q)(hd:1<=d/\d<=20)(hx:0<=x/\x<=400):
  C2 AT 45 #[PtB E,.string ⟨s.toArray⟩,InB 0] w λe w'=>Fa s d x w e w':=by
 have c0:=h.c0;have c1:=h.c1;have HR:=Ab (λw0=>NI s d x hx w0);have hw:IntKind.i64.wrap d=d:=by rw[Č];omega
 clear h;go_enter func45,ntmps45;go_wp2_with fail;go_region_with (go_at_call 64;refine(HR.u _).mono ?_;rintro e w2 q0;obtain⟨pp,c,rfl⟩:=q0.form);all_goals (
  replace q0:=q0.from (w0:=w) rfl rfl rfl rfl;have q4:=Ab q0;clear q0;go_wp2;go_ret2;exact q4.u)
def AN(w:AI)(g c:Nat)(t:By):Prop:=w.1[g]?=some (.cells #[InB c,InB 0,.string ⟨t.toArray⟩] 46 (0,0))
section
variable{w:AI}{g c:Nat}{t:By}
theorem AN.c0(h:AN w g c t):CeB w g 0=some (InB c):=ck h
theorem AN.c1(h:AN w g c t):CeB w g 1=some (InB 0):=ck h
theorem AN.c2(h:AN w g c t):CeB w g 2=some (.string ⟨t.toArray⟩):=ck h
theorem AN.kept(h:AN w g c t)(e:w'.1[g]?=w.1[g]?):AN w' g c t:=e.trans h
end
theorem TZ{E:Nat}{d x n:Int}{pa:Option Addr}{q:B3}{w:AI}(s:By)(t:ByteArray)(c:Nat)(hc:(qB s d x).1=c)(h:EB w E d x n (.pointer pa) q)(hd:1<=d/\d<=20)(hx:0<=x/\x<=400):
  C2 AT 39 #[PtB E,.agg #[InB 1,.string ⟨s.toArray⟩,.string t],AC c []] w λe w'=>e=.returned (.bool true)/\Ac E w w'/\
   ((∃c',qB s d x=(c',none)/\EB w' E d x n (.pointer pa) q)\/(∃p' o,qB s d x=(0,some (pO top o))/\EB w' E d x n (.pointer (some p')) (.pointer none)/\Ar top (λj=>w.1.size<=j) w' (.pointer (some p')) o/\qM top o)):=by
 have z7:=h.lt;have hb1:Bl w ((w.alloc (.cells #[InB 1,.string ⟨s.toArray⟩,.string t] 49)).alloc (.cells #[InB c,InB 0,.string ⟨#[]⟩] 46)):=((Â _ _).alloc (Á _) _).alloc φ _;have qt:AN ((w.alloc (.cells #[InB 1,.string ⟨s.toArray⟩,.string t] 49)).alloc (.cells #[InB c,InB 0,.string ⟨#[]⟩] 46)) (w.1.size+1) c []:=Ax _ _ _ φ;have qh:=h.low hb1;have HC:=Ab hc;have qn:=Ab hb1;have qw:=Ab qt;have qz:=Ab qh;have e3:=qh.c3;have q8:=Ab (LR s qh hd hx);clear hc h hb1 qt qh;unfold AC;cases pa;all_goals (
  go_enter func39,ntmps39;go_wp2_with fail;refine q8.u.mono λe w2 ⟨hb2,hcase⟩=>?_;have hs2:=hb2.size;have z6:w.1.size+2<=w2.1.size:=by simpa using hs2
  have q4:Bl w w2:=qn.u.trans (hb2.mono qn.u.size);have q7:AN w2 (w.1.size+1) c []:=qw.u.kept (hb2.block (w.1.size+1) φ);have q5:EB w2 E d x n _ q:=qz.u.low hb2;have a0:=q7.c0;have a1:=q7.c1;have a2:=q7.c2;have qy:=Ab q7;have qr:=Ab q5;have q0:=Ab q4;have qf:=Ab (λ(k:Nat) (w:AI)=>Ec k w);rcases hcase with⟨c',hpos,q6,rfl⟩|⟨p',o,q6,rfl,qe,qv⟩
  .obtain rfl:c'=c:=by rw[<-HC.u,q6]
   have e0:((c':Int)==0)=false:=by rw[beq_eq_false_iff_ne];omega
   have qm:=Ab q6;clear hb2 q7 q5 q4 q6 e3 hs2;go_upto_region 11 with(fail)
   unfold AC at qf;go_region_with (go_at_call 38;refine(qf.u c' _).mono ?_;rintro e w3⟨rfl,hb3⟩;have b0:=(hb3.cell (p:=⟨w.1.size+1,0,none⟩) (show w.1.size+1<w2.1.size from ζ)).trans a0;have b1:=(hb3.cell (p:=⟨w.1.size+1,1,none⟩) (show w.1.size+1<w2.1.size from ζ)).trans a1;have b2:=(hb3.cell (p:=⟨w.1.size+1,2,none⟩) (show w.1.size+1<w2.1.size from ζ)).trans a2);all_goals (
    have q9:Bl w2 w3:=bx hb3;have qo:=Ab q9;clear hb3 q9 b0 b1 b2;go_wp2;go_ret;have z5:Bl w w3:=q0.u.trans (qo.u.mono q0.u.size);exact⟨δ,Ac.of_below z5,Å ⟨c',qm.u,qr.u.low qo.u⟩⟩)
  .obtain rfl:c=0:=by rw[<-HC.u,q6]
   have qm:=Ab q6;have qk:=Ab qe;have z1:=Ab qv;have y3:=q5.c3;have y4:=q5.c4;have z3:=q5.fz 3;have z4:=q5.fz 4;clear hb2 q7 q5 q4 q6 qe qv e3 hs2;go_upto_region 11 with(fail)
   unfold AC at qf;obtain⟨w3,qj⟩:∃w3,w3=(w2.setCell ⟨E,3,none⟩ (.pointer (some p'))).setCell ⟨E,4,none⟩ (.pointer none):=⟨_,rfl⟩
   rw[<-qj];have qu:EB w3 E d x n (.pointer (some p')) (.pointer none):=by rw[qj];exact(qr.u.set3 _).set4 _
   have qi:Ac E w2 w3:=by rw[qj];exact Ac.setCell (p:=⟨E,4,none⟩) (Ac.setCell (p:=⟨E,3,none⟩) (Ac.refl _ _) rfl _) rfl _
   have qg:AN w3 (w.1.size+1) 0 []:=qy.u.kept (qi.block (w.1.size+1) ζ ζ);have z8:=qi.size;have z0:=Ab qu;have z2:=Ab qi;clear qj a0 a1 a2 y3 y4 z3 z4;have a0:=qg.c0;have a1:=qg.c1;have a2:=qg.c2;clear qu qi qg;go_region_with (go_at_call 38;refine(qf.u 0 _).mono ?_;rintro e w4⟨rfl,hb4⟩;have b0:=(hb4.cell (p:=⟨w.1.size+1,0,none⟩) (show w.1.size+1<w3.1.size from ζ)).trans a0;have b1:=(hb4.cell (p:=⟨w.1.size+1,1,none⟩) (show w.1.size+1<w3.1.size from ζ)).trans a1;have b2:=(hb4.cell (p:=⟨w.1.size+1,2,none⟩) (show w.1.size+1<w3.1.size from ζ)).trans a2);all_goals (
    have qb:Bl w3 w4:=bx hb4;have qq:=Ab qb;clear hb4 qb b0 b1 b2;go_wp2;go_ret;have qd:Ac E w2 w4:=z2.u.trans (Ac.of_below qq.u);refine⟨δ,(Ac.of_below q0.u).trans qd,À ⟨p',o,qm.u,z0.u.low qq.u,qk.u.move λk h1 h2=>⟨qd.block k h2 ?_,?_⟩,z1.u⟩⟩
    .simp at h1;omega
    .simp at h1;omega))
theorem T7{E:Nat}{d x n:Int}{p:Addr}{q:B3}{w:AI}(s t:ByteArray)(h:EB w E d x n (.pointer (some p)) q)(q5:Ar top F w (.pointer (some p)) o)(qd:qM top o)(hl:(pP top (pO top o)).length<=80000)(hT:Aj w):
  CB 39 #[PtB E,.agg #[InB 2,.string s,.string t],AC 0 (pP top (pO top o))] w (.bool true):=by
 have qg:=h.lt;obtain⟨tx,q7⟩:∃tx,tx=pP top (pO top o):=⟨_,rfl⟩
 rw[<-q7];have hb1:Bl w ((w.alloc (.cells #[InB 2,.string s,.string t] 49)).alloc (.cells #[InB 0,InB 0,.string ⟨tx.toArray⟩] 46)):=((Â _ _).alloc (Á _) _).alloc φ _;have q9:AN ((w.alloc (.cells #[InB 2,.string s,.string t] 49)).alloc (.cells #[InB 0,InB 0,.string ⟨tx.toArray⟩] 46)) (w.1.size+1) 0 tx:=Ax _ _ _ φ;have qb:=h.low hb1;have e3:=qb.c3;have q8:=Ab hb1;have qe:=Ab q9;have q0:=GY top F _ (.pointer (some p)) o (q5.below hb1) qd (hT.below (hb1.mono hT.ng)) (Ã hl η);rw[<-q7]at q0;have q4:=Ab q0;clear h hb1 q9 qb q5 qd hT hl q0 q7;unfold AC;go_enter func39,ntmps39;go_wp2_with fail;refine q4.u.mono ?_;rintro e w3⟨rfl,hb3⟩;have q6:AN w3 (w.1.size+1) 0 tx:=qe.u.kept (hb3.block (w.1.size+1) φ);have qf:=Ab (q8.u.trans (hb3.mono q8.u.size));have a0:=q6.c0;have a1:=q6.c1;have a2:=q6.c2;clear q6 hb3 e3;go_wp2;go_ret;exact⟨by first|kernel_rfl|simp,qf.u⟩
