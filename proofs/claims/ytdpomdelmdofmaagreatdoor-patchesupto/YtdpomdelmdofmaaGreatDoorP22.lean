import Derived.Test.YtdpomdelmdofmaaGreatDoorRows
import Derived.Test.YtdpomdelmdofmaaGreatDoorP21
open Go.Lib renaming decDigits->AI,itoa->A1
open UInt8 renaming ofNat->AS
open Go.Lit renaming string->AT,before->C0
open Go.DataW renaming map->A2,slice->A4,trod->Bs,trod_struct->B4
open Except renaming error->A3
open Go renaming Value->A5,TypeId->C5
open List.Pairwise renaming cons->BY
open List renaming pairwise_singleton->B1,set_getElem_self->B2,getElem?_modify->B3,ext_getElem?->CH,all_nil->C6
open Go.Maps renaming has->CD
open Prod renaming fst->CL,snd->CR
open Prod.mk renaming injEq->C1
open Bool renaming and_true->C2
set_option maxRecDepth 100000
set_option maxHeartbeats 16000000
namespace Go.Proofs.YtdpomdelmdofmaaGreatDoor
open Go.Proofs.Tryz Go.ChangeShapes Go.WideShapes Go.ChangeAt Go.RowKit Go.Maps
variable{H:Type}{P:Program}{w:World}{base i f cap:Nat}{spare:Nat->Bool}{held:Bool}{es:List (Lit×pL)}{lv:Int}{k:By}
def Ey{H:Type}:DataW H->List A5
 |.lit (.int k z)=>[.int k z]
 |.lit (.string s)=>[.string ⟨s.toArray⟩]
 |_=>[]
def FC{H:Type}:DataW H->List A5
 |.agg [a,b]=>Ey a++Ey b
 |_=>[]
theorem XQ{α β:Type}(F:β->List α)(c:Nat):∀(ds:List β) (l:List α),l.length=ds.length*c->(∀r x,ds[r]?=some x->(l.drop (r*c)).take c=F x)->l=ds.flatMap F
 |[],l,h,_=>κ
 |d::ds,l,h,hx=>by
  have h0:=hx 0 d rfl;simp only[Nat.zero_mul,Œ]at h0;have hr:=XQ F c ds (l.drop c) (by rw[Ŏ,h,É,Nat.succ_mul];omega) (λr x hr=>by
   have:=hx (r+1) x hr;rw[ŉ];grind)
  rw[ã,<-h0,<-hr,List.take_append_drop]
theorem RJ{enc:C5×A5->H}{q0:Nat}{t e n:Nat}{cs:List A5}{ds:List (DataW H)}{q:List MemPlace}(ht:P.underlying t=some (.array n e))(hc:P.cellsOf t=n*P.cellsOf e)(F:DataW H->List A5)(hF:∀m l d p,Bs enc P w base spare held m e l=some (d,p)->l=F d)(h:Bs enc P w base spare held q0 t cs=some (.agg ds,q)):cs=ds.flatMap F:=by
 obtain⟨xs,m,_,ex,hl,hn,q4⟩:=DataW.trod_array ht h;have ed:ds=xs.map (·.1):=ε;subst ed;refine XQ F (P.cellsOf e) _ cs ε λr x hr=>?_;grind
theorem Of{enc:C5×A5->H}{e:Nat}{k:IntKind}(he:P.underlying e=some (.int k)):
  ∀m l d p,Bs enc P w base spare held m e l=some (d,p)->l=Ey d:=by
 intro m l d p h;obtain⟨z,rfl,ex,_⟩:=Ĳ he h;rw[(ĺ ex).1];rfl
theorem Pf{enc:C5×A5->H}{e:Nat}(he:P.underlying e=some .string):
  ∀m l d p,Bs enc P w base spare held m e l=some (d,p)->l=Ey d:=by
 intro m l d p h;obtain⟨s,rfl,ex,_⟩:=Ļ he h;rw[(ĺ ex).1];rfl
theorem NT{enc:C5×A5->H}{e:Nat}{f0 f1:Field}{k0 k1:IntKind}(he:P.underlying e=some (.struct #[f0,f1]))(ce:P.cellsOf e=2)(o0:f0.offset=0)(o1:f1.offset=1)(u0:P.underlying f0.type=some (.int k0))(u1:P.underlying f1.type=some (.int k1))(c0:P.cellsOf f0.type=1)(c1:P.cellsOf f1.type=1):
  ∀m l d p,Bs enc P w base spare held m e l=some (d,p)->l=FC d:=by
 intro m l d p h;obtain⟨xs,m',_,ex,hl,hn,q0⟩:=B4 he h;rw[ce]at hl
 match l,hl,xs,hn with
 |[v0,v1],_,[y0,y1],_=>
  have g0:=q0 0 f0 rfl;have g1:=q0 1 f1 rfl;simp[o0,o1,c0,c1]at g0 g1;obtain⟨z0,e0,x0,_⟩:=Ĳ u0 g0;obtain⟨z1,e1,x1,_⟩:=Ĳ u1 g1;simp only[C1]at ex;simp only[đ,and_true]at e0 e1;simp[ex.1,e0,e1,x0,x1,FC,Ey]
theorem TK{enc:C5×A5->H}{e:Nat}{f0 f1:Field}{k1:IntKind}(he:P.underlying e=some (.struct #[f0,f1]))(ce:P.cellsOf e=2)(o0:f0.offset=0)(o1:f1.offset=1)(u0:P.underlying f0.type=some .string)(u1:P.underlying f1.type=some (.int k1))(c0:P.cellsOf f0.type=1)(c1:P.cellsOf f1.type=1):
  ∀m l d p,Bs enc P w base spare held m e l=some (d,p)->l=FC d:=by
 intro m l d p h;obtain⟨xs,m',_,ex,hl,hn,q0⟩:=B4 he h;rw[ce]at hl
 match l,hl,xs,hn with
 |[v0,v1],_,[y0,y1],_=>
  have g0:=q0 0 f0 rfl;have g1:=q0 1 f1 rfl;simp[o0,o1,c0,c1]at g0 g1;obtain⟨z0,e0,x0,_⟩:=Ļ u0 g0;obtain⟨z1,e1,x1,_⟩:=Ĳ u1 g1;simp only[C1]at ex;simp only[đ,and_true]at e0 e1;simp[ex.1,e0,e1,x0,x1,FC,Ey]
theorem Fp{n:String}{g:Nat}{cs:Array A5}{l:List A5}(hg:P.globalNamed n=some g)(h:w.var? P n=some cs)(hl:cs.toList=l):∃t fr,w.1[g]?=some (.cells l.toArray t fr):=by
 subst hl;simp only[World.var?,hg,Option.bind_some]at h;split at h
 .simp_all
 .cases h
theorem EU(es:List (Lit×pL))(t:By):qA (.map es) t=match Aq es (.string t)with
  |some e=>.ok e
  |none=>.error 11:=by
 have e1:qA (.map es) t=if CD (.map es:pL) (.string t)=true then .ok ((A2 es).atKey (.string t) .nil)else .error 11:=rfl
 rw[e1];unfold Aq;grind
theorem Sr{t:By}(h:sY (.map es) t=some i):∃e,es[i]?=some (AT t,e):=by
 have h':es.findIdx? (λp=>p.1.sameKey (.string t))=some i:=h;obtain⟨hi,hs,_⟩:=List.findIdx?_eq_some_iff_getElem.1 h';refine⟨es[i].2,?_⟩;rw[Ô hi,<-ć hs]
theorem PP(h:AQ es)(i:Nat)(x:pL):AQ (es.modify i λp=>(p.1,x)):=by
 have hk:=Er x es i;constructor
 .have h1:(es.map CL).Pairwise (λk l:Lit=>k.before l=true):=Ć.2 h.1;grind
 .intro p hp;have h1:p.1∈(es.modify i λp=>(p.1,x)).map CL:=ε;rw[hk]at h1;obtain⟨q,hq,e⟩:=Ò.1 h1;rw[<-e];exact h.2 q hq
theorem O3{v e:pL}(a:pL)(h:(AW v)[i]?=some e):(AW (EE i a v))[i]?=some a:=by
 cases v with
 |slice es y=>
  have h':es[i]?=some e:=h;obtain⟨hi,_⟩:=ß.1 h';show(es.set i a)[i]?=some a;grind
 |map es=>
  have h':(es.map CR)[i]?=some e:=h;rw[Þ]at h';show((es.modify i λp=>(p.1,a)).map CR)[i]?=some a;grind
 |_=>(have h':([]:List pL)[i]?=some e:=h;simp at h')
theorem Vs(v a b:pL)(i:Nat):EE i a (EE i b v)=EE i a v:=by
 cases v with
 |slice es y=>show A4 ((es.set i b).set i a) y=.slice (es.set i a) y;simp_all
 |map es=>
  show A2 ((es.modify i λp=>(p.1,b)).modify i λp=>(p.1,a))=.map (es.modify i λp=>(p.1,a));congr 1;apply CH;grind
 |_=>rfl
theorem Vt{v e:pL}(h:(AW v)[i]?=some e):EE i e v=v:=by
 cases v with
 |slice es y=>
  have h':es[i]?=some e:=h;obtain⟨hi,he⟩:=ß.1 h';show A4 (es.set i e) y=.slice es y;grind [B2]
 |map es=>
  have h':(es.map CR)[i]?=some e:=h;rw[Þ]at h';show A2 (es.modify i λp=>(p.1,e))=.map es;congr 1;apply CH;grind
 |_=>rfl
theorem O2:∀(q:List Nat){v n:pL}(m n':pL),BD q v=some n->AJ q m (AJ q n' v)=AJ q m v
 |[],_,_,_,_,_=>rfl
 |i::q,v,n,m,n',h=>by
  rw[BD]at h;cases hk:(AW v)[i]? with
  |none=>grind
  |some e=>
   rw[hk]at h;rw[AJ,AJ,hk];simp only[O3 (AJ q n' e) hk];rw[Vs,O2 q m n' h];rw[AJ,hk]
theorem Nn:∀(q:List Nat){v n:pL},BD q v=some n->AJ q n v=v
 |[],v,n,h=>by grind [BD,AJ]
 |i::q,v,n,h=>by
  rw[BD]at h;cases hk:(AW v)[i]? with
  |none=>grind
  |some e=>
   rw[hk]at h;rw[AJ,hk];simp only;rw[Nn q h,Vt hk]
theorem gK{d x:Int}{v e:pL}{t:By}(a:pL)(h:pU d x (f+1) lv v)(hp:sY v t=some i)(he:(AW v)[i]?=some e):sY (EE i a v) t=some i/\qA (EE i a v) t=.ok a:=by
 obtain⟨_,h⟩:=h;rcases h with⟨k,hk,rfl⟩|⟨s,hs,rfl⟩|⟨n,h1,h2,h3,rfl⟩|⟨es,h,rfl⟩|⟨es,h1,h2,rfl⟩
 .cases hp
 .cases hp
 .cases hp
 .have q0:(match qG t with
   |none=>none
   |some i=>if i<es.length then some i else none)=some i:=hp
  cases hi:qG t with
  |none=>grind
  |some j=>
   rw[hi]at q0;simp only at q0;split at q0
   .rename_i hlt;injection q0 with q0;subst q0;constructor
    .show (match qG t with
      |none=>none
      |some i=>if i<(es.set j a).length then some i else none)=some j
     grind
    .show (match qG t with
      |none=>A3 12
      |some i=>match(es.set j a)[i]? with
       |some e=>.ok e
       |none=>.error 11)=.ok a
     grind
   grind
 .have hs:AQ es:=⟨h1,ε⟩
  have q4:=PP hs i a;obtain⟨e0,h3⟩:=Sr hp;have h4:(es.modify i λp=>(p.1,a))[i]?=some (AT t,a):=by
   grind
  constructor
  .show (es.modify i λp=>(p.1,a)).findIdx? (λp=>p.1.sameKey (.string t))=some i;have e1:∀l:List (Lit×pL),l.findIdx? (λp=>p.1.sameKey (.string t))=(l.map CL).findIdx? (λk=>k.sameKey (.string t)):=λl=>by rw[List.findIdx?_map];rfl
   rw[e1,Er,<-e1];exact hp
  .show qA (.map (es.modify i λp=>(p.1,a))) t=.ok a;rw[EU,Bi q4 (ñ h4)]
theorem P7{d x:Int}:∀{s:List By}{f:Nat}{lv:Int}{v n:pL}{q:List Nat}(a:pL),pU d x f lv v->Ag v s=.ok n->CN v s=some q->Ag (AJ q a v) s=.ok a/\CN (AJ q a v) s=some q/\BD q v=some n
 |[],f,lv,v,n,q,a,h,hf,hq=>by
  injection hf with hf;injection hq with hq;subst hf hq;exact⟨rfl,rfl,rfl⟩
 |t::r,f,lv,v,n,q,a,h,hf,hq=>by
  cases f with
  |zero=>exact h.elim
  |succ f=>
   rw[Ag]at hf;cases hc:qA v t with
   |error c=>grind
   |ok e=>
    rw[hc]at hf;obtain⟨i,h1,h2⟩:=Kk h hc;rw[CN,h1]at hq;simp only[h2]at hq;obtain⟨q',q0,rfl⟩:=à.1 hq;obtain⟨g1,g2,g3⟩:=P7 a (Et h h2) hf q0;obtain⟨k1,k2⟩:=gK (AJ q' a e) h h1 h2;have hv:AJ (i::q') a v=EE i (AJ q' a e) v:=by rw[AJ,h2]
    rw[hv];refine⟨?_,?_,?_⟩
    .rw[Ag,k2];exact g1
    .rw[CN,k1];simp only[O3 (AJ q' a e) h2,g2];rfl
    .rw[BD,h2];exact g3
section
def tT(i:pW):qH:=(i.1,i.2.1,[],if i.1=1 then .nil else i.2.2)
def vD(u:pL)(i:pW)(v:pL):Prop:=∃i',sP u (tT i)=.ok (v,[i'])
theorem EZ(s:List By)(t:By):BB (s++[t])=some (s,t):=by
 grind [BB]
theorem IJ{p s:List By}{t:By}(h:BB p=some (s,t)):p=s++[t]:=by
 unfold BB at h;cases hl:p.getLast? with
 |none=>grind
 |some u=>
  rw[hl]at h;cases h;have hne:p≠[]:=ε;have:=ë hne;grind
variable{d x:Int}{B:Nat}{v v1 n y e:pL}{s p:List By}{t:By}{j:List pW}
theorem M8(hv:pZ d x B v)(hf:Ag v s=.ok n):∃q,tF v s=q/\(∀a,Ag (AJ q a v) s=.ok a/\tF (AJ q a v) s=q)/\(∀a b,AJ q b (AJ q a v)=AJ q b v)/\AJ q n v=v/\(∃f lv,pU d x (f+1) lv n)/\(AW n).length<=B:=by
 obtain⟨q,f,h1,h2,h3,h4,h5,h6,h7⟩:=GS hv hf;refine⟨q,by unfold tF;rw[h2];rfl,λa=>?_,λa b=>O2 q b a h3,Nn q h3,⟨f,_,h4⟩,Ã Iq h5⟩;obtain⟨g1,g2,_⟩:=P7 a hv.gd hf h2;exact⟨g1,by unfold tF;rw[g2];rfl⟩
theorem Jb(h:pU d x f lv (.map es)):AQ es:=by
 cases f with
 |zero=>exact h.elim
 |succ f=>exact(GO h).2.skey
theorem KB{t:By}:(CD (.map es:pL) (.string t)=true->Aq es (.string t)=some ((A2 es).atKey (.string t) .nil))/\(¬CD (.map es:pL) (.string t)=true->Aq es (.string t)=none):=by
 constructor<;>intro h
 .unfold Aq;rw[if_pos h]
 .unfold Aq;rw[if_neg h]
theorem Z2{t:By}(h:Aq es (.string t)=none):¬CD (.map es:pL) (.string t)=true:=λh2=>by
 rw[KB.1 h2]at h;cases h
theorem ZC{α:Type}{c:α}{l:List α}(h:i<=l.length):(rN i c l)[i]?=some c:=by
 unfold rN;rw[List.getElem?_append_right ω,İ,Nat.min_eq_left h,ő];rfl
theorem PO{a b:pL}(h:AQ es)(hg:Aq es (.string k)=some b):qI (.string k) b (qI (.string k) a es)=es:=by
 refine Do (BP (BP h)) h λj=>?_;rw[CO (BP h),CO h];split
 .rename_i e;subst e;exact hg.symm
 .rfl
theorem Zt{a:pL}(h:AQ es)(hg:Aq es (.string k)=none):qY (.string k) (qI (.string k) a es)=es:=by
 refine Do (DT (BP h)) h λj=>?_;rw[ET (BP h),CO h];split
 .rename_i e;subst e;exact hg.symm
 .rfl
theorem Zq{b:pL}(h:AQ es)(hg:Aq es (.string k)=some b):qI (.string k) b (qY (.string k) es)=es:=by
 refine Do (BP (DT h)) h λj=>?_;rw[CO (DT h),ET h];split
 .rename_i e;subst e;exact hg.symm
 .rfl
theorem XI(u:Nat):sG 0 (AI u)=u/\(AI u).all (sB.contains ·)=true/\(1<=u->(AI u)[0]?≠some 48):=by
 have q0:∀k,k<10->(AS (48+k)).toNat=48+k:=by
  intro k hk;simp;omega
 have q4:∀k,k<10->sB.contains (AS (48+k))=true:=λk hk=>by
  have hc:k=0\/k=1\/k=2\/k=3\/k=4\/k=5\/k=6\/k=7\/k=8\/k=9:=ζ;rcases hc with rfl|rfl|rfl|rfl|rfl|rfl|rfl|rfl|rfl|rfl<;>rfl
 induction u using Nat.strongRecOn with
 |ind u ih=>
  rw[AI];split
  .rename_i h;refine⟨?_,?_,λh1 e=>?_⟩
   .show 0*10+((AS (48+u)).toNat-48)=u;rw[q0 u h];omega
   .simp only[Ő,C6,C2];exact q4 u h
   .have e':AS (48+u)=48:=by simpa using e
    have:=q0 u h;rw[e']at this;have q5:(48:UInt8).toNat=48:=rfl;omega
  .rename_i h;obtain⟨h1,h2,h3⟩:=ih (u / 10) ζ;refine⟨?_,?_,λ_=>?_⟩
   .have e:sG 0 (AI (u / 10)++[AS (48+u % 10)])=sG 0 (AI (u / 10))*10+((AS (48+u % 10)).toNat-48):=by unfold sG;rw[List.foldl_append];rfl
    rw[e,h1,q0 _ ζ];omega
   .rw[List.all_append,h2];simp only[Ő,C6,C2,Bool.true_and];exact q4 _ ζ
   .have hne:=Gr (u / 10);rw[List.getElem?_append_left (Ē.2 hne)];exact h3 ζ
theorem ZS(i:Nat)(h:i<=1000000000000):qG (A1 (i:Int))=some i:=by
 have e:A1 (i:Int)=AI i:=by unfold A1;rw[if_neg ζ];rfl
 obtain⟨h1,h2,h3⟩:=XI i;rw[e,Lj ?_,h1]
 .congr 1;omega
 .rintro (h|⟨h4,h5⟩|h)
  .exact Gr i h
  .rcases Nat.eq_zero_or_pos i with rfl|hp
   .have:AI 0=[48]:=by rw[AI,dif_pos ζ];rfl
    rw[this]at h4;simp at h4
   .exact h3 hp h5
  .rw[h2]at h;cases h
theorem iL(u:pL)(s:List By)(e:pL):sP u (tT (0,s,e))=BV u s e:=rfl
theorem Th(u:pL)(s:List By)(e:pL):sP u (tT (1,s,e))=B6 u s:=rfl
theorem Tg(u:pL)(s:List By)(e:pL):sP u (tT (2,s,e))=Di u s e:=rfl
theorem Kh(hv:pZ d x B v)(hB:B<=900000000)(h:BV v p y=.ok (v1,j)):∃i,j=[i]/\vD v1 i v:=by
 unfold BV at h;cases hs:BB p with
 |none=>
  rw[hs]at h;injection h with h;injection h with h1 h2;subst h1 h2;exact⟨_,rfl,(2,[],y),rfl⟩
 |some st=>
  obtain⟨s,t⟩:=st;rw[hs]at h;simp only at h;cases hf:Ag v s with
  |error c=>rw[hf]at h;cases h
  |ok n=>
   rw[hf]at h;simp only at h;obtain⟨q,hq,q4,hpp,q0,⟨f,lv,q8⟩,q9⟩:=M8 hv hf;cases n with
   |map es=>
    have q5:=Jb q8;rw[CA]at h;split at h
    .rename_i hh;have hg:=KB.1 hh;injection h with h;injection h with h1 h2;subst h1 h2;refine⟨_,rfl,(2,s++[t],y),?_⟩;rw[Tg,hq];obtain⟨f1,f2⟩:=q4 (Dp 0 t y (.map es));unfold Di;rw[EZ];simp only[f1];have hc:qA (Dp 0 t y (.map es)) t=.ok y:=by
      show qA (.map (qI (.string t) y es)) t=_;rw[EU,CO q5,if_pos rfl]
     rw[hc];simp only[f2];rw[hpp];have e1:Dp ((qG t).getD 0) t ((A2 es).atKey (.string t) .nil) (Dp 0 t y (.map es))=.map es:=congrArg A2 (PO q5 hg);rw[e1,q0]
    .rename_i hh;have hg:=KB.2 hh;injection h with h;injection h with h1 h2;subst h1 h2;refine⟨_,rfl,(0,s++[t],y),?_⟩;rw[Th,hq];obtain⟨f1,f2⟩:=q4 (Dr 0 t y (.map es));unfold B6;rw[EZ];simp only[f1];have hc:qA (Dr 0 t y (.map es)) t=.ok y:=by
      show qA (.map (qI (.string t) y es)) t=_;rw[EU,CO q5,if_pos rfl]
     rw[hc];simp only[f2];rw[hpp];have e1:EG ((qG t).getD 0) t (Dr 0 t y (.map es))=.map es:=congrArg A2 (Zt q5 hg);rw[e1,q0]
   |slice es z=>
    rw[CA]at h;cases hsl:Cc es.length t with
    |error c=>rw[hsl]at h;cases h
    |ok i=>
     rw[hsl]at h;injection h with h;injection h with h1 h2;subst h1 h2;have q7:i<=es.length:=by
      unfold Cc at hsl;split at hsl
      .injection hsl with hsl;omega
      .cases hi:qG t with
       |none=>rw[hi]at hsl;cases hsl
       |some k=>
        rw[hi]at hsl;simp only at hsl;split at hsl
        .cases hsl
        .injection hsl with hsl;omega
     have qb:es.length<=B:=q9;have q6:=ZS i ζ;refine⟨_,rfl,(0,s++[A1 (i:Int)],y),?_⟩;rw[Th,hq];obtain⟨f1,f2⟩:=q4 (Dr i uE y (.slice es z));unfold B6;rw[EZ];simp only[f1];have hc:qA (Dr i uE y (.slice es z)) (A1 (i:Int))=.ok y:=by
      show(match qG (A1 (i:Int))with
       |none=>A3 12
       |some k=>match(rN i y es)[k]? with
        |some e=>.ok e
        |none=>.error 11)=.ok y
      rw[q6];simp only[ZC q7]
     rw[hc];simp only[f2,q6,Ģ];rw[hpp];have e1:EG i (A1 (i:Int)) (Dr i uE y (.slice es z))=.slice es z:=congrArg (λl=>A4 l z) (N9 y q7);rw[e1,q0]
   |_=>cases h
theorem Oq(hv:pZ d x B v)(h:B6 v p=.ok (v1,j)):∃i,j=[i]/\vD v1 i v:=by
 unfold B6 at h;cases hs:BB p with
 |none=>rw[hs]at h;cases h
 |some st=>
  obtain⟨s,t⟩:=st;have hp:=IJ hs;rw[hs]at h;simp only at h;cases hf:Ag v s with
  |error c=>rw[hf]at h;cases h
  |ok n=>
   rw[hf]at h;simp only at h;cases hch:qA n t with
   |error c=>rw[hch]at h;cases h
   |ok e=>
    rw[hch]at h;injection h with h;injection h with h1 h2;subst h1 h2 hp;obtain⟨q,hq,q5,hpp,q4,⟨f,lv,q7⟩,q8⟩:=M8 hv hf;obtain⟨f1,f2⟩:=q5 (EG ((qG t).getD 0) t n);refine⟨_,rfl,?_⟩;unfold vD;rw[iL,hq];unfold BV;rw[EZ];simp only[f1];cases n with
    |map es=>
     have q6:=Jb q7;have hg:Aq es (.string t)=some e:=by
      rw[EU]at hch;cases hg:Aq es (.string t)with
      |none=>rw[hg]at hch;cases hch
      |some e'=>rw[hg]at hch;injection hch with hch;rw[hch]
     have hno:Aq (qY (.string t) es) (.string t)=none:=by rw[ET q6,if_pos rfl]
     refine⟨(1,s++[t],.nil),?_⟩;show(if CD (.map (qY (.string t) es):pL) (.string t)=true then _ else _)=_;rw[if_neg (Z2 hno),f2,hpp];have e1:Dr 0 t e (.map (qY (.string t) es))=.map es:=congrArg A2 (Zq q6 hg);rw[e1,q4]
    |slice es z=>
     have q0:(match qG t with
       |none=>A3 12
       |some k=>match es[k]? with
        |some e=>.ok e
        |none=>.error 11)=.ok e:=hch
     cases hi:qG t with
     |none=>rw[hi]at q0;cases q0
     |some i=>
      rw[hi]at q0;simp only at q0;cases hg:es[i]? with
      |none=>rw[hg]at q0;cases q0
      |some e'=>
       rw[hg]at q0;injection q0 with q0;subst q0;obtain⟨hlt,_⟩:=ß.1 hg;have hl:(rH i es).length=es.length-1:=by
        unfold rH;rw[Ñ,İ,Ŏ];omega
       have hsl:Cc (rH i es).length t=.ok i:=by
        unfold Cc;rw[if_neg (by rintro rfl;cases hi),hi];simp only;rw[if_neg ζ]
       refine⟨(1,s++[A1 (i:Int)],.nil),?_⟩;have e0:∀(d0:pL) (l:List pL),CA d0 s t (.slice l z) e'=(match Cc l.length t with
        |.error c=>A3 c
        |.ok i=>.ok (AJ (tF d0 s) (Dr i uE e' (.slice l z)) d0,[((1,s++[A1 (i:Int)],.nil):pW)])):=λ_ _=>rfl
       rw[hi]at f2;have f2:tF (AJ q (EG i t (.slice es z)) v) s=q:=f2;have e2:=e0 (AJ q (EG i t (.slice es z)) v) (rH i es);rw[hsl]at e2;simp only at e2;rw[show A4 (rH i es) z=EG i t (.slice es z)from rfl,f2,hpp]at e2;refine e2.trans ?_;have e1:Dr i uE e' (EG i t (.slice es z))=.slice es z:=congrArg (λl=>A4 l z) (Hj hg);rw[e1,q4]
    |_=>cases hch
theorem Xu(hv:pZ d x B v)(h:Di v p y=.ok (v1,j)):∃i,j=[i]/\vD v1 i v:=by
 unfold Di at h;cases hs:BB p with
 |none=>
  rw[hs]at h;injection h with h;injection h with h1 h2;subst h1 h2;exact⟨_,rfl,(2,[],y),rfl⟩
 |some st=>
  obtain⟨s,t⟩:=st;have hp:=IJ hs;rw[hs]at h;simp only at h;cases hf:Ag v s with
  |error c=>rw[hf]at h;cases h
  |ok n=>
   rw[hf]at h;simp only at h;cases hch:qA n t with
   |error c=>rw[hch]at h;cases h
   |ok e=>
    rw[hch]at h;injection h with h;injection h with h1 h2;subst h1 h2 hp;obtain⟨q,hq,q5,hpp,q4,⟨f,lv,q7⟩,q8⟩:=M8 hv hf;obtain⟨f1,f2⟩:=q5 (Dp ((qG t).getD 0) t y n);refine⟨_,rfl,(2,s++[t],y),?_⟩;rw[Tg,hq];unfold Di;rw[EZ];simp only[f1];have key:qA (Dp ((qG t).getD 0) t y n) t=.ok y/\Dp ((qG t).getD 0) t e (Dp ((qG t).getD 0) t y n)=n:=by
     cases n with
     |map es=>
      have q6:=Jb q7;have hg:Aq es (.string t)=some e:=by
       rw[EU]at hch;cases hg:Aq es (.string t)with
       |none=>rw[hg]at hch;cases hch
       |some e'=>rw[hg]at hch;injection hch with hch;rw[hch]
      constructor
      .show qA (.map (qI (.string t) y es)) t=_;rw[EU,CO q6,if_pos rfl]
      .exact congrArg A2 (PO q6 hg)
     |slice es z=>
      have q0:(match qG t with
        |none=>A3 12
        |some k=>match es[k]? with
         |some e=>.ok e
         |none=>.error 11)=.ok e:=hch
      cases hi:qG t with
      |none=>rw[hi]at q0;cases q0
      |some i=>
       rw[hi]at q0;simp only at q0;cases hg:es[i]? with
       |none=>rw[hg]at q0;cases q0
       |some e'=>
        rw[hg]at q0;injection q0 with q0;subst q0;obtain⟨hlt,he⟩:=ß.1 hg;constructor
        .show (match qG t with
          |none=>A3 12
          |some k=>match(es.set ((some i).getD 0) y)[k]? with
           |some e=>.ok e
           |none=>.error 11)=.ok y
         rw[hi];simp only[Ģ,List.getElem?_set_self hlt]
        .show A4 ((es.set i y).set i e') z=.slice es z;rw[List.set_set,<-he,B2]
     |_=>cases hch
    rw[key.1];simp only[f2];rw[hpp,key.2,q4]
theorem Vu{o:pL}(y:pL)(hs:AQ es)(he:es[i]?=some (AT k,o)):EE i y (.map es)=.map (qI (.string k) y es):=by
 show A2 (es.modify i λp=>(p.1,y))=_;congr 1;have q0:=PP hs i y;refine Do q0 (BP hs) λj=>?_;rw[CO hs];have hkk:=Er y es i;split
 .rename_i e;subst e;refine Bi q0 (ñ (i:=i) ?_);rw[B3,he];simp
 .rename_i hne;rcases Gk es j with⟨c,hc⟩|hn
  .rw[Bi hs hc];obtain⟨m,hm⟩:=List.mem_iff_getElem?.1 hc;have q4:i≠m:=λe=>by
    subst e;rw[he]at hm;injection hm with hm;injection hm with hm _;injection hm with hm;exact hne hm.symm
   refine Bi q0 (ñ (i:=m) ?_);rw[B3,hm];simp[q4]
  .rw[B9 hn,B9 λp hp e=>?_];have h1:p.1∈(es.modify i λp=>(p.1,y)).map CL:=Ò.2 ⟨p,hp,rfl⟩;rw[hkk]at h1;obtain⟨r,hr,e2⟩:=Ò.1 h1;exact hn r hr (e2.trans e)
end
theorem RT:∀t:By,qC (Bw t)=some t
 |[]=>rfl
 |c::r=>by
  have ih:=RT r;have e:Bw (c::r)=DJ c++Bw r:=rfl;rw[e];unfold DJ;split
  .rename_i h;subst h;show qC (126::48::Bw r)=_;rw[Dy,if_pos rfl];grind
  .rename_i h;split
   .rename_i h2;subst h2;show qC (126::49::Bw r)=_;rw[Dy,if_pos rfl];grind
   .show qC (c::Bw r)=_;rw[Dy,if_neg h,ih];rfl
theorem RU:∀t:By,∀b∈Bw t,b≠47
 |[],_,h=>by cases h
 |c::r,b,h=>by
  have e:Bw (c::r)=DJ c++Bw r:=rfl;rw[e]at h;rcases ó.1 h with h|h
  .grind [List.mem_singleton,DJ]
  .exact RU r b h
theorem Pw:∀p:List By,qJ (AO p)=[]::p.map Bw
 |[]=>rfl
 |t::r=>by
  have ih:=Pw r;have e:AO (t::r)=47::(Bw t++AO r):=rfl;rw[e,qJ,if_pos rfl];obtain⟨p,ps,h1,h2⟩:=Sv (RU t) (AO r);grind
theorem Mg:∀p:List By,rQ (p.map Bw)=some p
 |[]=>rfl
 |t::r=>by
  show(match qC (Bw t)with
   |none=>none
   |some k=>(rQ (r.map Bw)).map (k :: ·))=_
  rw[RT,Mg r];rfl
theorem LK{a b:By}(ha:Ut a)(hb:Ut b):Ut (a++b):=by
 obtain⟨cs,h1,rfl⟩:=ha;obtain⟨ds,h2,rfl⟩:=hb;exact⟨cs++ds,ε,ε⟩
theorem Vw{b:UInt8}(h:b.toNat<128):Ut [b]:=⟨[b.toNat],λc hc=>by rw[ü]at hc;subst hc;exact Å ζ,by
 rw[ã,List.flatMap_nil,ĉ,show qS b.toNat=[AS b.toNat]from DF _ h];simp⟩
theorem CJ:∀{s:By},(∀b∈s,b.toNat<128)->Ut s
 |[],_=>FE
 |b::r,h=>LK (a:=[b]) (Vw (h b φ)) (CJ λc hc=>h c (by simp[hc]))
theorem RQ:∀(cs:List Nat),(∀c∈cs,Sc c)->Ut (Bw (cs.flatMap qS))
 |[],_=>FE
 |c::cs,h=>by
  have hc:=h c φ;have ih:=RQ cs λx hx=>h x (by simp[hx]);have e:Bw ((c::cs).flatMap qS)=Bw (qS c)++Bw (cs.flatMap qS):=by rw[ã];unfold Bw;grind
  rw[e];refine LK ?_ ih;rcases Iu hc 126 ζ with⟨rfl,e1⟩|⟨_,e1⟩
  .rw[e1];exact CJ η
  .rcases Iu hc 47 ζ with⟨rfl,e2⟩|⟨_,e2⟩
   .rw[e2];exact CJ η
   .have q0:∀l:By,(∀x∈l,x≠126)->(∀x∈l,x≠47)->Bw l=l:=by
     intro l;induction l with
     |nil=>intro _ _;rfl
     |cons a r ih=>
      intro h1 h2;have e3:Bw (a::r)=DJ a++Bw r:=rfl;rw[e3,ih (λx hx=>h1 x (by simp[hx])) (λx hx=>h2 x (by simp[hx]))];unfold DJ;rw[if_neg (h1 a φ),if_neg (h2 a φ)];rfl
    rw[q0 _ e1 e2];exact⟨[c],ε,φ⟩
theorem Kv:∀{p:List By},(∀t∈p,Ut t)->Ut (AO p)
 |[],_=>FE
 |t::r,h=>by
  obtain⟨cs,h1,h2⟩:=h t φ;have h3:Ut (Bw t):=by rw[h2];exact RQ cs h1
  exact LK (a:=[47]) (Vw η) (LK h3 (Kv ε))
theorem Yp{s:By}(h:Ut s):Lib.validD s=true:=by
 obtain⟨cs,h1,rfl⟩:=h;induction cs with
 |nil=>rfl
 |cons c cs ih=>
  have hc:=h1 c φ;have q0:=ih λx hx=>h1 x (by simp[hx]);rw[ã];by_cases hlt:c<128
  .rw[show qS c=[AS c]from DF c hlt];show Lib.validD (AS c::cs.flatMap qS)=true;rw[Lib.validD_cons _ _ ω,q0]
  .obtain⟨_,h3,h4⟩:=GV c ζ hc (cs.flatMap qS);have hne:qS c++cs.flatMap qS≠[]:=by
    intro e;simp_all
   have hd:Lib.decodeL (qS c++cs.flatMap qS)=(c,(qS c).length):=by rw[Lib.decodeL_N,<-Dt _ hne];exact h3
   rw[Lib.validD_step _ hne,hd];grind
theorem VA{p:List By}(h:∀t∈p,Ut t):qX (AO p)=some p:=by
 unfold qX;rw[Yp (Kv h),if_pos rfl,Pw];exact Mg p
def Iv(d x:Int)(B:Nat)(i:pW):Prop:=i.1<3/\(∀t∈i.2.1,Ut t)/\(i.1≠1->pZ d x B i.2.2)
theorem WQ{i:pW}(h:i.1<3)(hu:∀t∈i.2.1,Ut t):Bf (AH i)=some (tT i):=by
 obtain⟨k,p,v⟩:=i;have ht:=VA hu;simp only at h ht;have hk:k=0\/k=1\/k=2:=ζ;rcases hk with rfl|rfl|rfl
 .have e1:Ao (AH (0,p,v)) A8=some (Av (AO p)):=rfl;have e2:Ao (AH (0,p,v)) rS=some (Av G0):=rfl;have e3:Ao (AH (0,p,v)) AL=some v:=rfl;have e4:Ao (AH (0,p,v)) BS=none:=rfl;unfold Bf AA;rw[e1,e2,e3,e4];show(match qX (AO p)with
   |none=>none
   |some p=>_)=_
  rw[ht];rfl
 .have e1:Ao (AH (1,p,v)) A8=some (Av (AO p)):=rfl;have e2:Ao (AH (1,p,v)) rS=some (Av Df):=rfl;have e3:Ao (AH (1,p,v)) AL=none:=rfl;have e4:Ao (AH (1,p,v)) BS=none:=rfl;unfold Bf AA;rw[e1,e2,e3,e4];show(match qX (AO p)with
   |none=>none
   |some p=>_)=_
  rw[ht];rfl
 .have e1:Ao (AH (2,p,v)) A8=some (Av (AO p)):=rfl;have e2:Ao (AH (2,p,v)) rS=some (Av CK):=rfl;have e3:Ao (AH (2,p,v)) AL=some v:=rfl;have e4:Ao (AH (2,p,v)) BS=none:=rfl;unfold Bf AA;rw[e1,e2,e3,e4];show(match qX (AO p)with
   |none=>none
   |some p=>_)=_
  rw[ht];rfl
theorem Ml:∀(l:List pW) (n:Nat),(∀i∈l,i.1<3/\∀t∈i.2.1,Ut t)->Ba n (l.map AH)=.ok (l.map tT)
 |[],_,_=>rfl
 |i::l,n,h=>by
  obtain⟨h1,h2⟩:=h i φ;rw[Ð,Ba,WQ h1 h2];simp only;rw[Ml l (n+1) λi hi=>h i (by simp[hi])];rfl
theorem Wk{d x:Int}{B:Nat}{l:List pW}(h0:1<=d)(hd:d<=500)(h:∀i∈l,Iv d x B i):pU (d+2) x top 1 (Ak (l.map AH)):=by
 have q0:∀k:Nat,Ut (Bb k):=λk=>by
  unfold Bb;split
  .exact CJ η
  .split<;>exact CJ η
 have key:∀i∈l,pU (d+2) x 2000 2 (AH i):=by
  intro i hi;obtain⟨h1,h2,h3⟩:=h i hi;have hs:∀s:By,Ut s->pU (d+2) x 1999 3 (Av s):=λs hs=>⟨ζ,À (Å ⟨s,hs,rfl⟩)⟩
  unfold AH;split
  .refine⟨ζ,À (À (À (À ⟨_,?_,?_,rfl⟩)))⟩
   .exact BY (λp hp=>by rw[ü]at hp;subst hp;show C0 (AT _) (AT _)=true;decide) (B1 _ _)
   .intro p hp;simp only[Ë,ģ,or_false]at hp;rcases hp with rfl|rfl
    .exact⟨⟨_,rfl,CJ η⟩,hs _ (q0 _)⟩
    .exact⟨⟨_,rfl,CJ η⟩,hs _ (Kv h2)⟩
  .rename_i hk;have hf:=h3 hk;have g1:pU (d+2) x top 3 i.2.2:=GP (s:=2) hf.gd;refine⟨ζ,À (À (À (À ⟨_,?_,?_,rfl⟩)))⟩
   .refine BY (λp hp=>?_) (BY (λp hp=>?_) (B1 _ _))
    .simp only[Ë,ģ,or_false]at hp;rcases hp with rfl|rfl<;>(show C0 (AT _) (AT _)=true;decide)
    .rw[ü]at hp;subst hp;show C0 (AT _) (AT _)=true;decide
   .intro p hp;simp only[Ë,ģ,or_false]at hp;rcases hp with rfl|rfl|rfl
    .exact⟨⟨_,rfl,CJ η⟩,hs _ (q0 _)⟩
    .exact⟨⟨_,rfl,CJ η⟩,hs _ (Kv h2)⟩
    .exact⟨⟨_,rfl,CJ η⟩,CT (f:=1999) g1 ζ⟩
 refine⟨ζ,À (À (À (Å ⟨_,λe he=>?_,rfl⟩)))⟩;obtain⟨i,hi,rfl⟩:=Ò.1 he;exact key i hi
section
variable{d x:Int}{B:Nat}
theorem Lk:∀{f:Nat}{lv:Int}{v:pL},pU d x f lv v->lv+qD f v<=d+1
 |0,_,_,h=>h.elim
 |f+1,lv,v,⟨h0,h⟩=>by
  rcases h with⟨k,hk,rfl⟩|⟨s,hs,rfl⟩|⟨n,h1,h2,h3,rfl⟩|⟨es,h,rfl⟩|⟨es,h1,h2,rfl⟩
  .show lv+1<=d+1;omega
  .show lv+1<=d+1;omega
  .show lv+1<=d+1;omega
  .rw[Tm];have:=DG (m:=d-lv) ζ (l:=es.map (qD f)) λy hy=>by
    obtain⟨q,hq,rfl⟩:=Ò.1 hy;have:=Lk (h q hq);omega
   omega
  .rw[Tl];have:=DG (m:=d-lv) ζ (l:=es.map λp=>qD f p.2) λy hy=>by
    obtain⟨q,hq,rfl⟩:=Ò.1 hy;have:=Lk (h2 q hq).2;omega
   omega
def C4(d x:Int)(B:Nat):pL->List pW->pL->Prop
 |v,[],w=>v=w
 |v,i::j,w=>pZ d x B v/\Iv d x B i/\∃u,vD u i v/\C4 d x B u j w
theorem C4.append:∀{a b:List pW}{v u w:pL},C4 d x B v a u->C4 d x B u b w->C4 d x B v (a++b) w
 |[],_,_,_,_,h1,h2=>by
  have q0:_=_:=h1;grind
 |i::a,_,_,_,_,⟨h1,h2,u,h3,h4⟩,h5=>⟨h1,h2,u,h3,h4.append h5⟩
theorem C4.iv:∀{j:List pW}{v w:pL},C4 d x B v j w ->∀i∈j,Iv d x B i
 |[],_,_,_,_,h=>by cases h
 |i::j,_,_,⟨_,h2,_,_,h4⟩,k,hk=>by
  rcases Ë.1 hk with rfl|hk
  .exact h2
  .exact h4.iv k hk
theorem gN(i:Nat):Ut (A1 (i:Int)):=CJ λb hb=>by
 have e:A1 (i:Int)=AI i:=by unfold A1;rw[if_neg ζ];rfl
 rw[e]at hb;have:=GW i b hb;unfold qW at this;simp at this;omega
theorem dU{s:List By}{t:By}(h:∀u∈s,Ut u)(ht:Ut t):∀u∈s++[t],Ut u:=λu hu=>by
 rcases ó.1 hu with hu|hu
 .exact h u hu
 .rw[ü]at hu;rw[hu];exact ht
theorem M6{v v1 y:pL}{p:List By}{j:List pW}(hp:∀t∈p,Ut t)(h:BV v p y=.ok (v1,j)):∀i∈j,i.1<3/\∀t∈i.2.1,Ut t:=by
 unfold BV at h;cases hs:BB p with
 |none=>
  rw[hs]at h;injection h with h;injection h with h1 h2;subst h2;intro i hi;rw[ü]at hi;subst hi;exact⟨(by decide:2<3),λt ht=>by cases ht⟩
 |some st=>
  obtain⟨s,t⟩:=st;have e:=IJ hs;subst e;have q0:∀u∈s,Ut u:=λu hu=>hp u (by simp[hu]);rw[hs]at h;simp only at h;cases hf:Ag v s with
  |error c=>rw[hf]at h;cases h
  |ok n=>
   rw[hf]at h;simp only at h;cases n with
   |map es=>
    rw[CA]at h;split at h
    .injection h with h;injection h with h1 h2;subst h2;intro i hi;rw[ü]at hi;subst hi;exact⟨(by decide:2<3),hp⟩
    .injection h with h;injection h with h1 h2;subst h2;intro i hi;rw[ü]at hi;subst hi;exact⟨(by decide:1<3),hp⟩
   |slice es z=>
    rw[CA]at h;cases hsl:Cc es.length t with
    |error c=>rw[hsl]at h;cases h
    |ok k=>
     rw[hsl]at h;injection h with h;injection h with h1 h2;subst h2;intro i hi;rw[ü]at hi;subst hi;exact⟨(by decide:1<3),dU q0 (gN k)⟩
   |_=>cases h
theorem Tf{v v1:pL}{p:List By}{j:List pW}(hp:∀t∈p,Ut t)(h:B6 v p=.ok (v1,j)):∀i∈j,i.1<3/\∀t∈i.2.1,Ut t:=by
 unfold B6 at h;cases hs:BB p with
 |none=>rw[hs]at h;cases h
 |some st=>
  obtain⟨s,t⟩:=st;rw[hs]at h;simp only at h;cases hf:Ag v s with
  |error c=>rw[hf]at h;cases h
  |ok n=>
   rw[hf]at h;simp only at h;cases hc:qA n t with
   |error c=>rw[hc]at h;cases h
   |ok e=>
    rw[hc]at h;injection h with h;injection h with h1 h2;subst h2;intro i hi;rw[ü]at hi;subst hi;exact⟨(by decide:0<3),hp⟩
theorem iI{v v1 y:pL}{p:List By}{j:List pW}(hp:∀t∈p,Ut t)(h:Di v p y=.ok (v1,j)):∀i∈j,i.1<3/\∀t∈i.2.1,Ut t:=by
 unfold Di at h;cases hs:BB p with
 |none=>
  rw[hs]at h;injection h with h;injection h with h1 h2;subst h2;intro i hi;rw[ü]at hi;subst hi;exact⟨(by decide:2<3),λt ht=>by cases ht⟩
 |some st=>
  obtain⟨s,t⟩:=st;rw[hs]at h;simp only at h;cases hf:Ag v s with
  |error c=>rw[hf]at h;cases h
  |ok n=>
   rw[hf]at h;simp only at h;cases hc:qA n t with
   |error c=>rw[hc]at h;cases h
   |ok e=>
    rw[hc]at h;injection h with h;injection h with h1 h2;subst h2;intro i hi;rw[ü]at hi;subst hi;exact⟨(by decide:2<3),hp⟩
theorem EV{v v1:pL}{j:List pW}(hv:pZ d x B v)(h:∃i,j=[i]/\vD v1 i v)(hu:∀i∈j,i.1<3/\∀t∈i.2.1,Ut t)(ho:∀i∈j,D5 d x B i):C4 d x B v j v1:=by
 obtain⟨i,rfl,hb⟩:=h;have h1:=hu i φ;exact⟨hv,⟨h1.1,h1.2,(ho i φ).2⟩,v1,hb,rfl⟩
theorem Xz{v v1:pL}{j:List pW}{o:qH}(hv:pZ d x 200000 v)(ho:tY (d+2) x 200000 o)(h5:d<=100)(h:sP v o=.ok (v1,j)):C4 d x 200000 v j v1:=by
 obtain⟨_,hok,_⟩:=Gq hv ho h5 h;obtain⟨hp,hq,_⟩:=ho;unfold sP at h;split at h
 .exact EV hv (Kh hv ζ h) (M6 hp.2 h) hok
 .split at h
  .exact EV hv (Oq hv h) (Tf hp.2 h) hok
  .split at h
   .exact EV hv (Xu hv h) (iI hp.2 h) hok
   .split at h
    .rename_i h3;have q4:=hq (Å h3);unfold Jq at h;cases hf:Ag v o.2.2.1 with
     |error c=>rw[hf]at h;cases h
     |ok e=>
      rw[hf]at h;simp only at h;split at h
      .cases h;exact rfl
      .split at h
       .cases h
       .cases hr:B6 v o.2.2.1 with
        |error c=>rw[hr]at h;cases h
        |ok r=>
         obtain⟨d1,j1⟩:=r;rw[hr]at h;simp only at h;cases ha:BV d1 o.2.1 e with
         |error c=>rw[ha]at h;cases h
         |ok r2=>
          obtain⟨d2,j2⟩:=r2;rw[ha]at h;cases h;have q0:=(FR hv q4 hr).1;exact(EV hv (Oq hv hr) (Tf q4.2 hr) λi hi=>hok i (ħ _ hi)).append
           (EV q0 (Kh q0 ζ ha) (M6 hp.2 ha) λi hi=>hok i (ý _ hi))
    .split at h
     .unfold Jr at h;cases hf:Ag v o.2.2.1 with
      |error c=>rw[hf]at h;cases h
      |ok e=>
       rw[hf]at h;exact EV hv (Kh hv ζ h) (M6 hp.2 h) hok
     .unfold Jo at h;cases hf:Ag v o.2.1 with
      |error c=>rw[hf]at h;cases h
      |ok e=>
       rw[hf]at h;simp only at h;split at h
       .cases h;exact rfl
       .cases h
end
section
variable{d x:Int}{B:Nat}
def EY(v:pL)(t:By)(y:pL):Except Nat pL:=match v with
 |.map es=>.ok (.map (qI (.string t) y es))
 |.slice es z=>match Cc es.length t with
  |.error c=>.error c
  |.ok i=>.ok (.slice (rN i y es) z)
 |_=>.error 11
def G8(v:pL)(t:By)(y:pL):pL:=Dp ((qG t).getD 0) t y v
def LH(v:pL)(t:By):pL:=EG ((qG t).getD 0) t v
def rI(k:Nat)(y:pL):pL->List By->Except Nat pL
 |_,[]=>if k=2 then .error 11 else .ok y
 |v,t::r=>if r=[]/\k=1 then EY v t y else match qA v t with
  |.error c=>.error c
  |.ok e=>if r=[]/\k=2 then .ok (LH v t)else match rI k y e r with
   |.error c=>.error c
   |.ok z=>.ok (G8 v t z)
theorem SS{v e:pL}{t:By}(h:pU d x (f+1) lv v)(hc:qA v t=.ok e):∃i,sY v t=some i/\(AW v)[i]?=some e/\∀y,EE i y v=G8 v t y:=by
 unfold qA at hc;split at hc
 .rename_i es;split at hc
  .rename_i hh;injection hc with hc;obtain⟨p,hp,hs⟩:=è.1 (show es.any (λp=>p.1.sameKey (.string t))=true from hh);cases hi:sY (.map es) t with
   |none=>exact absurd hs (by have:=List.findIdx?_eq_none_iff.1 (show es.findIdx? (λp=>p.1.sameKey (.string t))=none from hi) p hp;simp[this])
   |some i=>
    obtain⟨e',q0⟩:=Sr hi;have hs:=Jb h;have e2:e'=e:=by
     have h1:=Bi hs (ñ q0);have h2:=KB.1 hh;rw[h1,hc]at h2;exact Î h2
    subst e2;refine⟨i,rfl,by show(es.map CR)[i]?=_;rw[Þ,q0];rfl,λy=>?_⟩;exact Vu y hs q0
  .cases hc
 .rename_i es z;split at hc
  .cases hc
  .rename_i i hi;split at hc
   .rename_i e' he;cases hc;have hl:i<es.length:=(ß.1 he).1;refine⟨i,by unfold sY;simp only[hi];rw[if_pos hl],he,λy=>?_⟩;unfold G8 Dp uN EE;rw[hi];rfl
   .cases hc
 .cases hc
theorem Z8{v n:pL}:∀{s:List By},pU d x f lv v->Ag v s=.ok n ->∃q,CN v s=some q/\∃f' q0,pU d x f' q0 n:=by
 intro s;induction s generalizing f lv v with
 |nil=>intro h hf;cases hf;exact⟨[],rfl,_,_,h⟩
 |cons t r ih=>
  intro h hf;unfold Ag at hf;cases f with
  |zero=>exact h.elim
  |succ f=>
   cases hc:qA v t with
   |error c=>rw[hc]at hf;cases hf
   |ok e=>
    rw[hc]at hf;obtain⟨i,h1,h2,_⟩:=SS h hc;obtain⟨q,hq,h3⟩:=ih (Jj h hc).1 hf;exact⟨i::q,by simp[CN,h1,h2,hq],h3⟩
theorem Qy(k:Nat)(y:pL)(u:By):∀{s:List By}{f:Nat}{lv:Int}{v:pL},pU d x f lv v->rI k y v (s++[u])=match Ag v s with
  |.error c=>.error c
  |.ok n=>match rI k y n [u]with
   |.error c=>.error c
   |.ok z=>.ok (AJ (tF v s) z v):=by
 intro s;induction s with
 |nil=>
  intro f lv v _;show rI k y v [u]=match rI k y v [u]with
   |.error c=>.error c
   |.ok z=>.ok z
  split<;>simp_all
 |cons t r ih=>
  intro f lv v h;have hne:r++[u]≠[]:=φ;rw[Ü,rI];simp only[hne,false_and,if_false,Ag];cases f with
  |zero=>exact h.elim
  |succ f=>
   cases hc:qA v t with
   |error c=>rfl
   |ok e=>
    have hg:=(Jj h hc).1;obtain⟨i,h1,h2,h3⟩:=SS h hc;simp only[ih hg];cases hf:Ag e r with
    |error c=>rfl
    |ok n=>
     simp only;cases hg2:rI k y n [u]with
     |error c=>rfl
     |ok z=>
      obtain⟨q,hq,_⟩:=Z8 hg hf;simp only;have e1:tF e r=q:=by unfold tF;rw[hq];rfl
      have e2:tF v (t::r)=i::q:=by unfold tF;simp[CN,h1,h2,hq]
      rw[e1,e2,<-h3];simp[AJ,h2]
theorem JQ(p:List By):BB p=none/\p=[]\/∃s t,BB p=some (s,t)/\p=s++[t]:=by
 cases h:BB p with
 |none=>
  refine Å ⟨rfl,?_⟩;unfold BB at h;split at h
  .rename_i hp;simpa using hp
  .cases h
 |some q=>exact À ⟨q.1,q.2,rfl,IJ h⟩
def Kc(r:Except Nat (pL×List pW)):Except Nat pL:=match r with
 |.error c=>.error c
 |.ok q=>.ok q.1
theorem KK{v:pL}(h:pU d x f lv v)(p:List By)(y:pL):rI 1 y v p=Kc (BV v p y):=by
 unfold BV;rcases JQ p with⟨e,rfl⟩|⟨s,t,e,rfl⟩
 .rw[e];rfl
 .rw[e,Qy 1 y t h];simp only;cases Ag v s with
  |error c=>rfl
  |ok n=>
   simp only[rI,and_self,if_true,CA];unfold EY;cases n with
   |map es=>simp only;split<;>rfl
   |slice es z=>simp only;cases Cc es.length t<;>rfl
   |_=>rfl
theorem KJ{v:pL}(h:pU d x f lv v)(p:List By)(y:pL):rI 2 y v p=Kc (B6 v p):=by
 unfold B6;rcases JQ p with⟨e,rfl⟩|⟨s,t,e,rfl⟩
 .rw[e];rfl
 .rw[e,Qy 2 y t h];simp only;cases Ag v s with
  |error c=>rfl
  |ok n=>
   simp only[rI];cases qA n t<;>simp[Kc,LH]
theorem To{v:pL}(h:pU d x f lv v)(p:List By)(y:pL):rI 3 y v p=Kc (Di v p y):=by
 unfold Di;rcases JQ p with⟨e,rfl⟩|⟨s,t,e,rfl⟩
 .rw[e];rfl
 .rw[e,Qy 3 y t h];simp only;cases Ag v s with
  |error c=>rfl
  |ok n=>
   simp only[rI];cases qA n t<;>simp[Kc,G8]
def Dk:List By->List By->Bool
 |[],_=>true
 |_::_,[]=>false
 |a::r,b::s=>(a==b) && Dk r s
theorem QE:∀(q p:List By),Dk q p=decide (p.take q.length=q)
 |[],p=>by simp[Dk]
 |a::r,[]=>by simp[Dk]
 |a::r,b::s=>by
  rw[Dk,QE r s];by_cases h:a=b
  .subst h;simp
  .have:¬b=a:=λe=>h e.symm;simp[h,this]
noncomputable def AK(v:pL)(o:qH):Except Nat pL:=
 if o.1=0 then rI 1 o.2.2.2 v o.2.1 else if o.1=1 then rI 2 .nil v o.2.1 else if o.1=2 then rI 3 o.2.2.2 v o.2.1
 else if o.1=5 then(match Ag v o.2.1 with
  |.error c=>.error c
  |.ok e=>if veq e o.2.2.2=true then .ok v else .error 14)
 else match Ag v o.2.2.1 with
  |.error c=>.error c
  |.ok e=>if o.1=4 then rI 1 e v o.2.1 else if Dk o.2.2.1 o.2.1=true then(if o.2.2.1.length<o.2.1.length then .error 13 else .ok v)else match rI 2 .nil v o.2.2.1 with
   |.error c=>.error c
   |.ok z=>rI 1 e z o.2.1
theorem NE{v:pL}{o:qH}(hv:pZ d x 200000 v)(ho:tY (d+2) x 200000 o)(hk:o.1<6):AK v o=Kc (sP v o):=by
 have hg:=hv.1;unfold AK sP;by_cases h0:o.1=0
 .rw[if_pos h0,if_pos h0];exact KK hg _ _
 rw[if_neg h0,if_neg h0];by_cases h1:o.1=1
 .rw[if_pos h1,if_pos h1];exact KJ hg _ _
 rw[if_neg h1,if_neg h1];by_cases h2:o.1=2
 .rw[if_pos h2,if_pos h2];exact To hg _ _
 rw[if_neg h2,if_neg h2];by_cases h5:o.1=5
 .rw[if_pos h5,if_neg ζ,if_neg ζ];unfold Jo;cases Ag v o.2.1 with
  |error c=>rfl
  |ok e=>simp only;split<;>rfl
 rw[if_neg h5];by_cases h4:o.1=4
 .simp only[h4,if_true];unfold Jr;cases Ag v o.2.2.1 with
  |error c=>rfl
  |ok e=>exact KK hg _ _
 .rw[if_pos (by omega:o.1=3)];unfold Jq;cases hf:Ag v o.2.2.1 with
  |error c=>rfl
  |ok e=>
   simp only[h4,if_false];rw[QE];by_cases hb:o.2.1.take o.2.2.1.length=o.2.2.1
   .rw[if_pos (by simp[hb])];by_cases hl:o.2.2.1.length<o.2.1.length
    .rw[if_pos hl,if_neg ε,if_pos (by unfold E3;grind)];rfl
    .rw[if_neg hl,if_pos ε];rfl
   .rw[if_neg (by simp[hb]),if_neg ε,if_neg (by unfold E3;simp[hb])];rw[KJ hg];cases hr:B6 v o.2.2.1 with
    |error c=>rfl
    |ok q=>
     obtain⟨d1,j1⟩:=q;simp only[Kc];rw[KK (FR hv (ho.2.1 (Å ζ)) hr).1.1];cases BV d1 o.2.1 e<;>rfl
end
theorem As{B:Nat}{a:World}(h:Below B a w)(g o:Nat)(hg:g<B){u:A5}(hu:CeB a g o=some u):CeB w g o=some u:=(h.cell (p:=⟨g,o,none⟩) hg).trans hu
theorem cS{d x n:Int}{sb so ab m:Nat}(hc:rT d x n=false)(qh:m<=cap)(qi:cap<=maxLen)(q8:∀k,k<m->w.cell? ⟨ab,k*3,none⟩=some (InB 2)/\w.cell? ⟨ab,k*3+1,none⟩=some (InB 0)/\w.cell? ⟨ab,k*3+2,none⟩=some (.string ⟨#[]⟩))(hab:ab<w.1.size):
  CB 29 #[.agg #[InB d,InB x,InB n],.slice (some ⟨sb,so,none⟩) m cap,SlB ab m m] w (.bool true):=by
 have qj:(m:Int)<=9223372036854775807:=by unfold maxLen at qi;omega
 have qe:=Ab q8;have q9:Bl w ((w.alloc (.cells #[InB d,InB x,InB n] 23)).alloc (.cells #[InB d,InB x,InB n,.pointer none,.pointer none] 68)):=((Â _ _).alloc (Á _) _).alloc φ _;have qf:=Ab q9;have q7:=Ab (λ(k:Nat) (w:World)=>Ec k w);unfold AC at q7;have qd:rU d 1 20=false\/(rU d 1 20=true/\rU x 0 400=false)\/(rU d 1 20=true/\rU x 0 400=true/\rU n 0 2000=false):=by grind [rT]
 have R1:=Ab (λW=>Ed d 1 20 W);have R2:=Ab (λW=>Ed x 0 400 W);have R3:=Ab (λW=>Ed n 0 2000 W);clear hc;generalize rU d 1 20=b1 at*;generalize rU x 0 400=b2 at*;generalize rU n 0 2000=b3 at*;have HC:=Ab qd;clear q8 q9 qd;go_enter func29,ntmps29;go_wp2_with fail;refine(R1.u _).mono ?_;rintro e wA⟨rfl,rfl⟩;go_wp2_with fail;refine(R2.u _).mono ?_;rintro e wA⟨rfl,rfl⟩;go_wp2_with fail;refine(R3.u _).mono ?_;rintro e wA⟨rfl,rfl⟩;go_wp2;go_loopw [11] (λi wr=>∃(k:Nat),k<=m/\i=InB k/\Bl w wr) (λi _=>m-(intOf i).toNat)
 case atStart=>exact⟨0,ζ,rfl,qf.u⟩
 case round=>
  obtain⟨k,hk,rfl,q0⟩:=hrel;by_cases hlt:k<m
  .obtain⟨r0,r1,r2⟩:=qe.u k hlt;have a0:=As q0 _ _ hab r0;have a1:=As q0 _ _ hab r1;have a2:=As q0 _ _ hab r2;have q6:=q0.size;have q4:ab<wr.1.size:=ζ;have q5:=Ab q0;clear r0 r1 r2 q0;go_upto_region 10 with(fail)
   go_region_with (go_at_call 38;refine(q7.u 2 _).mono ?_;rintro e w4⟨rfl,hb4⟩;have b0:=As (a:=wr) (w:=w4) (bx hb4) _ _ q4 a0;have b1:=As (a:=wr) (w:=w4) (bx hb4) _ _ q4 a1;have b2:=As (a:=wr) (w:=w4) (bx hb4) _ _ q4 a2);all_goals rcases HC.u with rfl|⟨rfl,rfl⟩|⟨rfl,rfl,rfl⟩
   all_goals (
    have qb:Bl w w4:=q5.u.trans (Below.mono (B:=wr.1.size) (w:=wr) (bx hb4) q6);have qg:=Ab qb;clear hb4 qb b0 b1 b2;go_wp2;exact⟨⟨k+1,ζ,ψ,qg.u⟩,by simp only[intOf];omega⟩)
  .go_wp2;go_ret;exact⟨rfl,q0⟩
theorem cQ{d x n:Int}{pa pb:Option Addr}{q0:Nat}:
  CB 29 #[.agg #[InB d,InB x,InB n],.slice pa 0 cap,.slice pb 0 q0] w (.bool true):=by
 go_enter func29,ntmps29;go_wp2_with fail;refine(Ed d 1 20 _).mono ?_;rintro e wA⟨rfl,rfl⟩;go_wp2_with fail;refine(Ed x 0 400 _).mono ?_;rintro e wA⟨rfl,rfl⟩;go_wp2_with fail;refine(Ed n 0 2000 _).mono ?_;rintro e wA⟨rfl,rfl⟩;go_wp2_with fail;refine ø 1 ?_;rw[ď];go_wp2;go_ret;exact⟨rfl,((Â _ _).alloc (Á _) _).alloc φ _⟩
theorem Y7:(Tryz.prog.info? 49).map (λi=>(i.zero,i.size,i.bytes))=some (some (.agg #[InB 0,.string ⟨#[]⟩,.string ⟨#[]⟩]),3,40):=δ
abbrev Tri:=St
def jU(p:Tri):List A5:=[InB p.1,.string ⟨p.2.1.toArray⟩,.string ⟨p.2.2.toArray⟩]
def CX(L:List Tri):List A5:=L.flatMap jU
theorem Z5(L:List Tri):∀(i:Nat) (hi:i<L.length),(CX L)[i*3]?=some (InB L[i].1)/\(CX L)[i*3+1]?=some (.string ⟨L[i].2.1.toArray⟩)/\(CX L)[i*3+2]?=some (.string ⟨L[i].2.2.toArray⟩):=by
 induction L with
 |nil=>intro i hi;simp at hi
 |cons p r ih=>
  intro i hi;cases i with
  |zero=>exact⟨rfl,rfl,rfl⟩
  |succ i=>
   have h:=ih i (by simpa using hi);have e:CX (p::r)=InB p.1 :: .string ⟨p.2.1.toArray⟩ :: .string ⟨p.2.2.toArray⟩::CX r:=rfl;have e3:(i+1)*3=i*3+3:=ζ;rw[e,e3];exact h
def prT(p:Tri):St:=p
theorem Yv(L:List Tri)(p:Tri):(L++[p]).length=L.length+1:=φ
theorem UJ(L:List Tri)(p:Tri):CX (L++[p])=CX L++jU p:=by simp[CX]
theorem mJ{B:Nat}{a:World}(h:Below B a w){n:Nat}:Below B a (w.drewN n):=⟨h.os,h.tape,h.output,h.size,h.block⟩
theorem Y6{B e n size:Nat}{v:A5}{xs:List A5}(h:w.ownsRow B e size v n xs)(g:Nat)(hg:v.ownBlock=some g):g<w.1.size/\B<=g:=by
 rcases h.2 with⟨h1,_⟩|⟨g',cap,cur,h1,h2,h3,_⟩
 .rw[h1]at hg;cases hg
 .rw[h1]at hg;cases hg;exact⟨(È.1 h3).1,h2⟩
theorem ZK{pa:Option Addr}{kv:A5}:
  Calls Tryz.prog 16 #[.slice pa 0 cap,kv] w λe w'=>e=.returned (.slice none 0 0)/\w'=w:=by
 go_enter func16,ntmps16;go_wp2_with fail;refine ø 1 ?_;rw[ď];go_wp2;go_ret;exact⟨rfl,rfl⟩
