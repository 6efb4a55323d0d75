import Derived.Test.YtdpomdelmdofmaaGreatDoorP09
import Derived.Test.YtdpomdelmdofmaaGreatDoorP11
import Derived.Test.YtdpomdelmdofmaaGreatDoorP06
open Go.Value renaming pointer->AI,slice->HI
open Go.Proofs.Tryz renaming prog->AS
open Go renaming Value->AT,splice->A2,DataW->A3,World->A4,maxLen->B1,bytesBefore->C2,Calls->C5,grownCap->D1,run_copy_row->D2,TypeId->D6,setRow_heap->E1
open Go.Builtin renaming zeroCells->A1,copy_->C6,delete_->F2
open Go.Extern.SlicesOverlaps renaming overlaps->A5
open Go.DataW renaming insert->Bs,map->G2,put->G3,del->HM
open Go.Lit renaming string->BY
open Classical renaming axiomOfChoice->B2
open List renaming drop_of_length_le->B3,take_append_of_le_length->B4,getElem?_drop->CL,drop_append->CR,take->C0,drop->C1,getElem?_take->DA,map_set->DD,length_cons->D9,length_nil->E2,take_take->F5
open Go.WideAt renaming IsKeyLit->CD
open Go.World renaming grownBy_alloc->CH,shape?->HA,setRow->HD
open Go.Sem renaming run->D0,pure->HH
open Go.Maps renaming has->D3
open Nat renaming min_def->E0,min_eq_left->Ft,mul_one->HJ
open Go.WideShapes renaming bytes_trans->G1
open Go.Addr renaming add_lit->HB
open Go.Instr renaming lookup->HE
open Go.Sort renaming putRow->HF,ahead->HK
set_option maxRecDepth 100000
set_option maxHeartbeats 8000000
namespace Go.Proofs.YtdpomdelmdofmaaGreatDoor
open Go.Proofs.Tryz Go.RowKit Go.Maps
variable{α β:Type}{t k:By}{f g n m:Nat}{a c:pN}{P:Program}{D:List (Lit×A3 AT)}{ps:List AT}{pu:Option Addr}
theorem N9{i:Nat}(c:α){l:List α}(h:i<=l.length):rH i (rN i c l)=l:=by
 have h1:(l.take i).length=i:=ε;unfold rH rN;rw[B4 ζ,Ï ζ,CR,B3 ζ,h1];simp
theorem Hj{i:Nat}{c:α}{l:List α}(h:l[i]?=some c):rN i c (rH i l)=l:=by
 obtain⟨hi,rfl⟩:=ß.1 h;have h1:(l.take i).length=i:=ε;unfold rH rN;simp_all
theorem WG{i:Nat}{c d:α}{l:List α}(h:l[i]?=some c):(l.set i d).set i c=l:=by
 grind [List.set_set,List.set_getElem_self]
theorem Le(q:α->β)(i:Nat)(c:α)(l:List α):(rN i c l).map q=rN i (q c) (l.map q):=by
 unfold rN;simp
theorem Lf(q:α->β)(i:Nat)(l:List α):(rH i l).map q=rH i (l.map q):=by
 unfold rH;simp
theorem Je{i:Nat}(c:α){l:List α}(h:i<=l.length):(rN i c l).length=l.length+1:=by
 grind [rN]
theorem Lg{i:Nat}{l:List α}(h:i<l.length):(rH i l).length+1=l.length:=by
 grind [rH]
theorem FK(i:Nat)(c:α)(l:List α):(rN i c l).Perm (c::l):=by
 unfold rN;have:=List.perm_middle (a:=c) (l₁:=l.take i) (l₂:=l.drop i);simp_all
theorem Hg{i:Nat}{c:α}{l:List α}(h:l[i]?=some c):l.Perm (c::rH i l):=by
 have h1:=FK i c (rH i l);rwa [Hj h]at h1
theorem NR{i:Nat}{c:α}{l:List α}(d:α)(h:l[i]?=some c):(l.set i d).Perm (d::rH i l):=by
 obtain⟨hi,_⟩:=ß.1 h;have e:l.set i d=rN i d (rH i l):=by
  have h2:=Hj (i:=i) (c:=d) (l:=l.set i d) ε;rw[<-h2];congr 1;unfold rH;rw[List.take_set_of_le ζ,List.drop_set_of_lt ζ]
 rw[e];exact FK i d _
def AQ{α:Type}(es:List (Lit×A3 α)):Prop:=es.Pairwise (λp q=>p.1.before q.1=true)/\∀p∈es,∃s,p.1=.string s
theorem Fx{s:By}:(BY s).sameKey (.string t)=true<->s=t:=by
 constructor
 .intro h;have:=ć h;grind
 .rintro rfl;exact î trivial
theorem KW{es:List (Lit×A3 α)}(h:∀p∈es,p.1 ≠ .string k):es.filter (λp=>!p.1.sameKey (.string k))=es:=by
 apply Ŀ.2;intro p hp;rw[sameKey_ne (h p hp)];rfl
theorem Hi{α:Type}{k:By}{c:A3 α}:∀{es:List (Lit×A3 α)},AQ es->(BY k,c)∈es->qI (.string k) c es=es
 |[],_,h=>by cases h
 |y::r,⟨h1,h2⟩,h=>by
  obtain⟨h3,h4⟩:=ô.1 h1;obtain⟨t,ht⟩:=h2 y φ;unfold qI;rcases Ë.1 h with e|h
  .subst e;have hne:∀p∈r,p.1 ≠ .string k:=λp hp e=>by
    have:=h3 p hp;rw[show p.1=BY k from e]at this;have h9:C2 k k=true:=this;rw[ĝ]at h9;cases h9
   rw[Ġ,if_neg (by rw[î (show CD (BY k,c).1 from trivial)];decide),KW hne];cases r with
   |nil=>rfl
   |cons z r=>rw[Bs,if_pos (h3 z φ)]
  .have hb:=h3 _ h;have hne:y.1 ≠ .string k:=λe=>by
    rw[e]at hb;have h9:C2 k k=true:=hb;rw[ĝ]at h9;cases h9
   rw[Ġ,if_pos (by rw[sameKey_ne hne];rfl)];have q0:Lit.before (.string k) y.1=false:=by
    cases hx:Lit.before (.string k) y.1 with
    |false=>rfl
    |true=>
     rw[ht]at hb hx;have h9:=G1 _ _ _ (show C2 k t=true from hx) (show C2 t k=true from hb);rw[ĝ]at h9;cases h9
   rw[Bs,if_neg ε];have ih:=Hi ⟨h4,ε⟩ h;unfold qI at ih;rw[ih]
theorem N6(c:A3 α)(es:List (Lit×A3 α)):qY (.string k) (qI (.string k) c es)=qY (.string k) es:=by
 unfold qI;have h:∀l:List (Lit×A3 α),(Bs (.string k,c) l).filter (λp=>!p.1.sameKey (.string k))=l.filter (λp=>!p.1.sameKey (.string k)):=by
  intro l;induction l with
  |nil=>simp[Bs,î (show CD (BY k)from trivial)]
  |cons y r ih=>
   rw[Bs];split
   .rw[Ġ,if_neg (by rw[î (show CD (BY k,c).1 from trivial)];decide)]
   grind
 unfold qY;simp_all
theorem WE{es:List (Lit×A3 α)}(h:∀p∈es,p.1 ≠ .string k):qY (.string k) es=es:=KW h
theorem J2(c:A3 α)(es:List (Lit×A3 α)):qI (.string k) c (qY (.string k) es)=qI (.string k) c es:=by
 grind [List.filter_filter,qI,qY]
theorem Wx(c d:A3 α)(es:List (Lit×A3 α)):qI (.string k) c (qI (.string k) d es)=qI (.string k) c es:=by
 rw[<-J2 c (qI (.string k) d es),N6,J2]
theorem H9(q:A3 α->A3 β)(k:Lit)(es:List (Lit×A3 α)):(qY k es).map (λp=>(p.1,q p.2))=qY k (es.map λp=>(p.1,q p.2)):=by
 unfold qY;rw[List.filter_map];rfl
theorem Rm(q:A3 α->A3 β)(x:Lit×A3 α)(l:List (Lit×A3 α)):(Bs x l).map (λp=>(p.1,q p.2))=Bs (x.1,q x.2) (l.map λp=>(p.1,q p.2)):=by
 induction l with
 |nil=>rfl
 |cons y r ih=>
  simp only[Bs,Ð];grind
theorem Jc(q:A3 α->A3 β)(k:Lit)(c:A3 α)(es:List (Lit×A3 α)):(qI k c es).map (λp=>(p.1,q p.2))=qI k (q c) (es.map λp=>(p.1,q p.2)):=by
 unfold qI;rw[Rm];have:=H9 q k es;unfold qY at this;rw[this]
theorem BP{c:pL}{es:List (Lit×pL)}(h:AQ es):AQ (qI (.string k) c es):=by
 unfold qI;have hs:∀p∈es.filter (λp=>!p.1.sameKey (.string k)),∃s,p.1=.string s:=λp hp=>h.2 p (Đ.1 hp).1;refine⟨FX ⟨k,rfl⟩ hs (λp hp e=>?_) (h.1.filter _),λp hp=>?_⟩
 .have:=(Đ.1 hp).2;rw[show p.1=BY k from e,î (show CD (BY k)from trivial)]at this;cases this
 .rcases Ë.1 ((ö _ _).mem_iff.1 hp)with rfl|hp
  .grind
  grind
theorem DT{k:Lit}{es:List (Lit×A3 α)}(h:AQ es):AQ (qY k es):=⟨h.1.filter _,λp hp=>h.2 p (Đ.1 hp).1⟩
theorem DQ(k:Lit)(c:A3 α)(es:List (Lit×A3 α)):(qI k c es).Perm ((k,c)::qY k es):=ö _ _
theorem Wf{c:A3 α}{es:List (Lit×A3 α)}(hs:AQ es)(h:(BY k,c)∈es):es.Perm ((.string k,c)::qY (.string k) es):=by
 have:=DQ (.string k) c es;rwa [Hi hs h]at this
def uP(F:List pN->List pN)(G:List (Lit×pN)->List (Lit×pN))(a:pN):pN:=match a with
 |.agg [.lit (.int k b),.lit (.int l g),x]=>(match x with
  |.slice al y=>.agg [.lit (.int k b),.lit (.int l g),.slice (F al) y]
  |.map es=>.agg [.lit (.int k b),.lit (.int l g),.map (G es)]
  |z=>.agg [.lit (.int k b),.lit (.int l g),z])
 |y=>y
def Ct(i:Nat)(k:By)(c:pN):pN->pN:=uP (rN i c) (qI (.string k) c)
def Cr(i:Nat)(k:By):pN->pN:=uP (rH i) (qY (.string k))
def Cm(i:Nat)(k:By)(c:pN):pN->pN:=uP (λal=>al.set i c) (qI (.string k) c)
theorem Ev(F:List pN->List pN)(G:List (Lit×pN)->List (Lit×pN))(b g:Nat)(al:List pN):uP F G (pS b g (.slice al []))=pS b g (.slice (F al) []):=rfl
theorem Eu(F:List pN->List pN)(G:List (Lit×pN)->List (Lit×pN))(b g:Nat)(es:List (Lit×pN)):uP F G (pS b g (.map es))=pS b g (.map (G es)):=rfl
theorem UO{F F':List pN->List pN}{G G':List (Lit×pN)->List (Lit×pN)}(hF:∀al,(F al).map (er f)=F' (al.map (er f)))(hG:∀es,(G es).map (λp=>(p.1,er f p.2))=G' (es.map λp=>(p.1,er f p.2)))(h:(∃b g al,a=pS b g (.slice al []))\/∃b g es,a=pS b g (.map es)):er (f+1) (uP F G a)=uP F' G' (er (f+1) a):=by
 grind [Ev,vF,Eu,vM]
def tR(a:pN):Prop:=(∃b g al,a=pS b g (.slice al []))\/∃b g es,a=pS b g (.map es)
theorem Xn{i:Nat}(h:tR a):er (f+1) (Ct i k c a)=Ct i k (er f c) (er (f+1) a):=UO (λ_=>Le _ _ _ _) (λ_=>Jc _ _ _ _) h
theorem Xk{i:Nat}(h:tR a):er (f+1) (Cr i k a)=Cr i k (er (f+1) a):=UO (λ_=>Lf _ _ _) (λ_=>H9 _ _ _) h
theorem Xi{i:Nat}(h:tR a):er (f+1) (Cm i k c a)=Cm i k (er f c) (er (f+1) a):=UO (λ_=>DD) (λ_=>Jc _ _ _ _) h
theorem R8{i:Nat}(h:tR a):pT (f+1) (Ct i k c a)=Dr i k (pT f c) (pT (f+1) a):=by
 rcases h with⟨b,g,al,rfl⟩|⟨b,g,es,rfl⟩
 .unfold Ct;rw[Ev,Bn,Bn,Le];rfl
 .unfold Ct;rw[Eu,Bc,Bc,Jc];rfl
theorem eG{i:Nat}(h:tR a):pT (f+1) (Cr i k a)=EG i k (pT (f+1) a):=by
 rcases h with⟨b,g,al,rfl⟩|⟨b,g,es,rfl⟩
 .unfold Cr;rw[Ev,Bn,Bn,Lf];rfl
 .unfold Cr;rw[Eu,Bc,Bc,H9];rfl
theorem R6{i:Nat}(h:tR a):pT (f+1) (Cm i k c a)=Dp i k (pT f c) (pT (f+1) a):=by
 rcases h with⟨b,g,al,rfl⟩|⟨b,g,es,rfl⟩
 .unfold Cm;rw[Ev,Bn,Bn,DD];rfl
 .unfold Cm;rw[Eu,Bc,Bc,Jc];rfl
theorem eI{i:Nat}{w:A4}{u:AT}(h:Ad (f+1) w u a)(c:pN):pT (f+1) (sX a i c)=EE i (pT f c) (pT (f+1) a):=by
 obtain⟨b,g,x,rfl,hv,h⟩:=h;rcases h with⟨k,h1,h2,rfl,h⟩|⟨n,h2,rfl,h,q0⟩|⟨s,h2,rfl,h⟩|⟨al,sl,ps,rfl,h,ho,hs,ha⟩|⟨es,n,D,rfl,h,ho,hp⟩
 .rfl
 .rfl
 .rfl
 .rw[SU,Bn,Bn,DD];rfl
 .rw[ST,Bc,Bc,I9 (λp:Lit×pN=>(p.1,pT f p.2)) (λp=>(p.1,c)) (λp=>(p.1,pT f c)) λp=>rfl];rfl
theorem R7{w:A4}:∀{p:List Nat}{f:Nat}{u:AT}{a n:pN}(n':pN),Ad (f+p.length) w u a->qE p a=some n->pT (f+p.length) (qT p n' a)=AJ p (pT f n') (pT (f+p.length) a)
 |[],_,_,_,_,_,_,_=>rfl
 |i::r,f,u,a,n,n',ht,h=>by
  obtain⟨c,hc,h2⟩:=C7 h;have h':Ad ((f+r.length)+1) w u a:=ht;obtain⟨x,hx⟩:∃u,Ad (f+r.length) w u c:=Ad.at (f:=f+r.length) (p:=[i]) h' (show qE [i] a=some c by simp[qE,hc]);have hk:(AW (pT ((f+r.length)+1) a))[i]?=some (pT (f+r.length) c):=by rw[Es h',Þ,hc];rfl
  rw[CM n' hc];show pT ((f+r.length)+1) _=AJ (i::r) _ (pT ((f+r.length)+1) a);rw[eI h',AJ,hk,R7 n' hx h2]
theorem GC:(Tryz.prog.info? 80).map (λi=>(i.zero,i.size,i.bytes))=some (some (.pointer none),1,8):=δ
theorem E5{e:D6}{z:AT}{s b:Nat}(h:(P.info? e).map (λi=>(i.zero,i.size,i.bytes))=some (some z,s,b)):∃i,P.info? e=some i/\i.zero=some z/\i.size=s/\i.bytes=b:=by
 simp_all
theorem U6{ops:Array Oper}{Q:Exit->Act->A4->Prop}{rest:List Oper}{a:Act}{w:A4}{d:Option Nat}{x:Array Operand}{ts:Array D6}{ty:D6}{ps:String}{af:Array Edge}{g:Option (Nat×Bool)}(h:wpList P ops Q ({dst:=d,op:=.call { callee:=.builtin .copy,args:=x,argTypes:=ts },type:=ty,pos:=ps,after:=af,guard:=g }::rest) a w):
  wpList P ops Q ({dst:=d,op:=.call { callee:=.builtin .copy,args:=x,argTypes:=ts },type:=ty,pos:=ps,after:=af,guard:=g }::rest) a w:=h
theorem PY[Inhabited α](enc:α->AT)(w:A4)(g q:Nat)(d:Array α):w.grownBy (HF enc (HK w q) g 0 d) (some g):=
 ⟨rfl,rfl,rfl,κ,λk _ hne=>by
  grind [HF,Sort.mapBlock,HK]⟩
theorem nG{w:A4}{sl:AT}{l:List (Option Addr)}{i:Nat}(ho:w.ownsRow 0 80 1 sl l.length (l.map AI))(hi:i<l.length):
  ∃g cap,sl=SlB g l.length cap/\C5 AS 290 #[sl,InB i,InB ((i+1:Nat):Int)] w λe w'=>
   e=.returned (SlB g (l.length-1) cap)/\w'.ownsRow 0 80 1 (SlB g (l.length-1) cap) (l.length-1) ((rH i l).map AI)/\w.grownBy w' (some g):=by
 obtain⟨g,cap,rfl,_,hg,hn,hm,_,hH⟩:=Lib.holds_of_ownsRow ho (by
  rintro rfl;rcases ho.2 with⟨_,h⟩|⟨g,cap,cur,h,_⟩
  .omega
  .cases h)
 refine⟨g,cap,rfl,?_⟩;obtain⟨i0,q0,_,q5,_⟩:=E5 GC;have hc:=AnyE.slices_Delete Tryz.eDelete (α:=Option Addr) AI (λ_=>rfl) none Tryz.zeroValue80 i0 q0 q5 g 0 cap i (i+1) l.toArray w hH ζ (by simp[B1]at hm;omega) ζ ω;refine hc.mono ?_;rintro e w' ⟨rfl,q,rfl⟩;have q4:(rH i l).length=l.length-1:=by have:=Lg hi;omega
 have e2:l.toArray.toList.take i++l.toArray.toList.drop (i+1)++List.replicate (i+1-i) (none:Option Addr)=rH i l++[none]:=by
  simp[rH,show i+1-i=1 from ζ]
 rw[e2];refine⟨ε,?_,PY _ _ _ _ _⟩;have h2:=Lib.ownsRow_putRow (q:=q) (k:=l.length-1) ho (ys:=rH i l++[none]) ε ζ;grind
theorem MU{w:A4}{q off c:Nat}{x:AT}{cur:Array AT}{t t':D6}(hg:w.1[g]?=some (.cells cur t (0,0)))(hq:w.1[q]?=some (.cells #[x] t' (0,0)))(hne:q≠g):
  D0 AS (A5 #[106,106] #[4] #[SlB q 1 1,.slice (some ⟨g,off,none⟩) n c]) w=.ok (.bool false) w:=by
 have f1:∀o,w.frozen? ⟨q,o,none⟩=false:=λo=>fk hq;have f2:∀o,w.frozen? ⟨g,o,none⟩=false:=λo=>fk hg;have q4:(q != g)=true:=ε;have q5:(q==g)=false:=ε;have r1:∀a,D0 AS (Sem.frozen a HH) w=.ok (w.frozen? a) w:=λa=>θ;have r2:D0 AS (Sem.shape q HH) w=.ok (some (t',1)) w:=by simp[D0,HA,hq]
 have r3:D0 AS (Sem.shape g HH) w=.ok (some (t,cur.size)) w:=by simp[D0,HA,hg]
 obtain⟨i0,q0,_,q6,_⟩:=E5 GC;have u:=underlying106;rw[show A5 #[106,106] #[4] #[SlB q 1 1,.slice (some ⟨g,off,none⟩) n c]=(underlying 106 >>= _)from rfl];simp[run_underlying u,r1,r2,r3,sizeOf,typeInfo,q0,q6,frozen,f1,f2,q4,q5,noView,viewAt,mayBeOne,stringish,shape,Result.andThen]
theorem PB{w:A4}{q off c:Nat}{x:AT}{cur:Array AT}{t t':D6}(hg:w.1[g]?=some (.cells cur t (0,0)))(hq:w.1[q]?=some (.cells #[x] t' (0,0)))(hne:q≠g):
  (callFunc 310 #[SlB q 1 1,.slice (some ⟨g,off,none⟩) n c]).run AS w=.ok (.value (.bool false)) w:=by
 rw[run_callFunc_extern (e:=A5 #[106,106] #[4]) func310 δ rfl δ δ,MU hg hq hne];rfl
def G7(l:List (Option Addr))(i:Nat)(x:Option Addr)(sl:AT)(w:A4)(e:Ending)(w':A4):Prop:=
 ∃g cap,e=.returned (SlB g (l.length+1) cap)/\w'.ownsRow 0 80 1 (SlB g (l.length+1) cap) (l.length+1) ((rN i x l).map AI)/\w.grownBy w' sl.ownBlock/\(sl.ownBlock=some g\/w.1.size<=g)
section
variable{w:A4}{sl:AT}{l:List (Option Addr)}{x:Option Addr}{q:Nat}
theorem gP(ho:w.ownsRow 0 80 1 sl l.length (l.map AI))(hq:w.1[q]?=some (.cells #[.pointer x] 80 (0,0)))(hb:l.length<=1000000000000):
  C5 AS 291 #[sl,InB l.length,SlB q 1 1] w (G7 l l.length x sl w):=by
 obtain⟨i0,q9,hz0,qb,hz2⟩:=E5 GC;obtain⟨N,hN⟩:∃N,N=l.length:=⟨_,rfl⟩
 obtain⟨a,c,rfl⟩:∃a c,sl=.slice a l.length c:=by
  rcases ho.2 with⟨h,h2⟩|⟨g,cap,cur,h,_⟩
  .grind
  grind
 have q8:l.length<=c:=by
  rcases ho.2 with⟨h,h2⟩|⟨g,cap,cur,h,_,_,h3,_⟩
  .omega
  grind
 have q0:CeB w q 0=some (.pointer x):=ck hq;have qg:(N:Int)<=9223372036854775807:=ζ;have q5:=Ab (show∀g cap w',w'.ownsRow 0 80 1 (SlB g (N+1) cap) (N+1) (l.map AI++[.pointer x])->w.grownBy w' (HI a N c).ownBlock->((HI a N c).ownBlock=some g\/g=w.1.size)->G7 l N x (.slice a N c) w (.returned (SlB g (N+1) cap)) w' from λg cap w' h1 h2 h3=>by
  refine⟨g,cap,by rw[hN],?_,h2,ε⟩;grind [rN,B1,List.take_length])
 rw[<-hN]at ho |-;have HO:=Ab ho;have HL:=Ab (show(l.map AI).length=N by simp[hN]);have qf:N<=c:=ζ;have qe:c<=B1:=by
  rcases ho.2 with⟨h,_⟩|⟨g,cap,cur,h,_,_,_,h4,_⟩
  .grind
  grind
 have qd:N<=1000000000000:=ζ;have q7:(c=N)\/¬c=N:=Classical.em _;clear ho q8 hN hq hb;rcases q7 with q7|q7;all_goals go_enter func291,ntmps291
 all_goals go_wp2_with (at_builtin;refine õ _ rfl _ _ 106 rfl 0 80 i0 (.pointer none) 1 8 underlying106 q9 hz0 qb hz2 rfl η _ _ _ rfl HO.u ⟨q,0,none⟩ 1 1 [.pointer x] rfl rfl (λj u hj=>by
   cases j with
   |zero=>cases hj;exact q0
          |succ j=>simp at hj) (λu hu=>by simp at hu;subst hu;rfl) η (by unfold B1;omega) ζ ζ w.1.size rfl ?_;intro g2 q6 w2 h1 h2 h3 _;have q4:=Ab (q5.u g2 q6 w2 h1 h2 h3);clear h1 h2 h3)
 all_goals (go_ret;exact q4.u)
end
theorem O1{w:A4}{ops:Array Oper}{rest:List Oper}{o:Oper}{a:Act}{Q:Exit->Act->A4->Prop}(qf:o.guard=none)(s x:Operand)(t tn e:D6)(i:TypeInfo)(z:AT)(kn kq:IntKind)(ho:o.op=.call { callee:=.builtin .append,args:=#[s,x],argTypes:=#[t,tn] })(ht:P.underlying t=some (.slice e))(qi:P.underlying tn=some (.int kn))(hi:P.info? e=some i)(hz:i.zero=some z)(qh:i.size=1)(qk:i.bytes=8)(qj:z.cells.size=1)(g off q0 q4:Nat)(hs:a.eval s=.slice (some ⟨g,off,none⟩) q0 q4)(q5:List AT)(hl:q5.length=q0)(hold:∀j u,q5[j]?=some u->w.cell? ((⟨g,off,none⟩:Addr).add j)=some u)(k:Nat)(h0:0<k)(hx:a.eval x=.int kq k)(hg:q4<q0+k)(qm:q0+k<=10000000000000)(qb:Nat)(q9:q0+k=qb)(h:∀q6 (cur:List AT) w1,qb<=q6->q6<=B1->cur.length=q6->cur.take q0=q5->Hid (w1.1[w.1.size]?=some (.cells cur.toArray e (0,0)))->Bl w w1->wpList P ops Q rest (a.put o.dst (.slice (some ⟨w.1.size,0,none⟩) qb q6)) w1):wpList P ops Q (o::rest) a w:=by
 subst q9;refine wpList_plain qf λK hK=>?_;have qe:(Builtin.firstCells i.size q0 (.slice (some ⟨g,off,none⟩) q0 q4)).run P w.drew=.ok q5.toArray w.drew:=by
  rw[qh];exact run_firstCells_some w.drew 1 q0 ⟨g,off,none⟩ q0 q4 q5 ζ hold
 have q8:=growslice_fits (bytes:=i.bytes) hg ε;have hr:=Lib.run_append_grow_zeros (P:=P) w t tn o.type e i z kq kn ht qi hi hz (some ⟨g,off,none⟩) q0 q4 q5 qe k h0 ζ hg ζ ε q8;have qg:=grownCap_ge w (q0+k) q4 e;have qd:D1 w (q0+k) q4 e<=B1:=grownCap_le_maxLen w (q0+k) q4 e (by unfold B1;omega);have q7:=h _ (q5++(A1 z.cells k++A1 z.cells (D1 w (q0+k) q4 e-(q0+k))).toList) (w.drew.alloc (.cells (q5.toArray++A1 z.cells k++A1 z.cells (D1 w (q0+k) q4 e-(q0+k))) e)) qg qd (by
   simp only[Ñ,Array.length_toList,Array.size_append,size_zeroCells,qj];omega) ε (by
   have e1:(q5++(A1 z.cells k++A1 z.cells (D1 w (q0+k) q4 e-(q0+k))).toList).toArray=q5.toArray++A1 z.cells k++A1 z.cells (D1 w (q0+k) q4 e-(q0+k)):=by
    grind
   rw[e1];exact Ê w.drew _) ⟨rfl,rfl,rfl,φ,λj hj=>heap_alloc_old w.drew (.cells _ _) hj⟩
 unfold Oper.wp execOp;simp only[ho,resolve,invoke,builtin,Sem.run_bind,Sem.run_pure,Result.andThen_ok,List.map_toArray,Ð,ÿ,hs,hx,hr];exact hK _ _ q7
theorem SC{w:A4}{q:Nat}{v:AT}(h:CeB w q 0=some v):∀j u,([v]:List AT)[j]?=some u->w.cell? ((⟨q,0,none⟩:Addr).add j)=some u:=by
 intro j u hj;cases j with
 |zero=>cases hj;exact h
 |succ j=>simp at hj
theorem NX{x:Option Addr}:∀u∈[AI x],u.oneCell'=true:=by
 intro u hu;simp at hu;subst hu;rfl
theorem Nq{l:List α}{i j:Nat}{u:α}(h:(l.take i)[j]?=some u):l[j]?=some u:=by
 grind
theorem PT{l:List (Option Addr)}{i:Nat}{x:Option Addr}{cur:List AT}(hi:i<=l.length)(hc:l.length+1<=cur.length)(ht:cur.take i=(l.map AI).take i):
  (A2 (A2 cur i [.pointer x]) (i+1) ((l.map AI).drop i)).take (l.length+1)=(rN i x l).map AI/\(A2 (A2 cur i [.pointer x]) (i+1) ((l.map AI).drop i)).length=cur.length:=by
 have h1:(cur.take i).length=i:=ε;unfold A2 rN;constructor
 .have e1:(C0 i cur++([AI x]++C1 (i+[AI x].length) cur)).take (i+1)=C0 i cur++[AI x]:=by
   grind
  rw[e1,ht];rw[ă,Ð,List.map_take,List.map_drop];have h2:(C0 i (List.map AI l)++[AI x]++C1 i (List.map AI l)).length=l.length+1:=ω;grind
 grind
section
variable{w:A4}{sl:AT}{l:List (Option Addr)}{x:Option Addr}{q i:Nat}
theorem ZR(ho:w.ownsRow 0 80 1 (SlB g l.length l.length) l.length (l.map AI))(hq:w.1[q]?=some (.cells #[.pointer x] 80 (0,0)))(hi:i<l.length)(hb:l.length<=1000000000000):
  C5 AS 291 #[SlB g l.length l.length,InB i,SlB q 1 1] w (G7 l i x (SlB g l.length l.length) w):=by
 obtain⟨i0,qf,hz0,qh,hz2⟩:=E5 GC;have hsz:(Tryz.prog.info? 80).map (·.size)=some 1:=by rw[qf];simp[qh]
 have q4:∀j u,(l.map AI)[j]?=some u->w.cell? ((⟨g,0,none⟩:Addr).add j)=some u:=λj u h=>ho.cells (g:=g) rfl j u h;have hlt:g<w.1.size/\q<w.1.size:=⟨(Bt ho g rfl).1,(È.1 hq).1⟩
 obtain⟨N,hN⟩:∃N,N=l.length:=⟨_,rfl⟩
 have qn:CeB w q 0=some (.pointer x):=ck hq;have HC:=Ab q4;have HQ:=Ab qn;have HN:=Ab hN;have qz:i<N:=ζ;have qt:N<=1000000000000:=ζ;have hne:¬(i:Int)=(N:Int):=ζ;have qv:(i:Int)<=N:=ζ;have q5:=Ab (show∀q0 (cur:List AT) w3,l.length+1<=q0->q0<=B1->cur.length=q0->cur.take i=(l.map AI).take i->w3.1[w.1.size]?=some (.cells (A2 (A2 cur i [.pointer x]) (i+1) ((l.map AI).drop i)).toArray 80 (0,0))->Bl w w3->G7 l i x (SlB g l.length l.length) w (.returned (.slice (some ⟨w.1.size,0,none⟩) (l.length+1) q0)) w3 from λq0 cur w3 h1 h2 h3 h4 h5 hb3=>by
  obtain⟨r1,r2⟩:=PT (x:=x) ζ (show l.length+1<=cur.length from ζ) h4;refine⟨w.1.size,q0,rfl,⟨by simp[Je x (show i<=l.length from ζ)],À ⟨w.1.size,q0,_,rfl,Ď _,h5,h1,h2,by simp[r2,h3],?_⟩⟩,⟨hb3.os,hb3.tape,hb3.output,hb3.size,λk hk _=>hb3.block k hk⟩,À (Á _)⟩;rw[HJ];exact r1)
 rw[<-hN]at q5 hb |-;clear ho hq hi q4 qn hN;go_enter func291,ntmps291;have qq:Value.int .i64 ((N:Int)+1-(i:Int))=InB ((N+1-i:Nat):Int):=by rw[show(N:Int)+1-(i:Int)=((N+1-i:Nat):Int)from ζ]
 go_wp2_with (first
  |(at_builtin;refine O1 rfl _ _ 106 3 80 i0 (.pointer none) .i64 .i64 rfl underlying106 underlying3 qf hz0 qh hz2 rfl g 0 i N rfl ((l.map AI).take i) (by have:=HN.u;simp;omega) (λj u hj=>HC.u j u (Nq hj)) (N+1-i) ζ qq ζ ζ (N+1) ζ ?_;intro q0 cur w1 h1 h2 h3 h4 h5 hb1;have qo:=(hb1.cell (p:=⟨q,0,none⟩) hlt.2).trans HQ.u;have qu:¬q0=i:=ζ;have qm:=Ab qo;have qi:=Ab hb1;have H4:=Ab h4;clear qo hb1 h4)
  |((with_reducible refine U6 ?_);go_loud (refine wpList_copy_splice rfl _ _ 106 106 rfl 80 underlying106 hsz (some ⟨w.1.size,i,none⟩) (some ⟨q,0,none⟩) (N+1-i) (q0-i) 1 1 rfl rfl w.1.size i cur 80 h5.u [.pointer x] (by simp[E0];omega) (λ_=>⟨rfl,⟨q,0,none⟩,rfl,SC qm.u⟩) ω NX w.1.size w qi.u (Á _) ?_);intro w2 h6 hb2;have qd:=Ab hb2;clear hb2))
 have qr:¬q0=i+1:=ζ;have q6:Hid ((A2 cur i [AI x]).length=q0):=by
  have:=length_splice cur i [AI x] ω;rw[h3]at this;exact this
 have q8:Hid (∀j v,((l.map AI).drop i)[j]?=some v->w2.cell? ((⟨g,i,none⟩:Addr).add j)=some v):=λj v hj=>by
  rw[CL]at hj;have h9:=HC.u (i+j) v hj;rw[HB]at h9 |-;rw[ė]at h9;exact(qd.u.cell (p:=⟨g,i+j,none⟩) hlt.1).trans h9
 have q9:Hid (((l.map AI).drop i).length=N-i):=by have:=HN.u;show _=_;simp;omega
 have q7:∀u∈(l.map AI).drop i,u.oneCell'=true:=λu hu=>by
  obtain⟨y,_,rfl⟩:=Ò.1 (List.mem_of_mem_drop hu);rfl
 have z1:IntKind.i64.wrap ((i:Int)+1)=((i+1:Nat):Int):=by rw[Č];omega
 have qw:((i+1:Nat):Int)<=(N:Int)+1:=ζ;have qy:(0:Int)<=(i:Int)+1:=ζ;obtain⟨w4,qb⟩:∃w4,w4=w2.drew.setRow w.1.size ((A2 cur i [AI x]).toArray.toList.take (i+1)++(l.map AI).drop i++(A2 cur i [AI x]).toArray.toList.drop (i+1+((l.map AI).drop i).length)).toArray:=⟨_,rfl⟩
 have qg:∀ty,(C6 #[106,106] ty #[.slice (some ⟨w.1.size,i+1,none⟩) (N-i) (q0-(i+1)),.slice (some ⟨g,i,none⟩) (N-i) (N-i)]).run AS w2.drew=.ok (goInt ((l.map AI).drop i).length) w4:=λty=>by
  rw[qb];exact D2 (P:=AS) w2.drew 106 106 ty 80 w.1.size (i+1) (N-i) (q0-(i+1)) ⟨g,i,none⟩ (N-i) (N-i) (A2 cur i [.pointer x]).toArray 80 ((l.map AI).drop i) underlying106 hsz h6.u (by rw[q9.u];simp) q8.u (by rw[q9.u];show _<=(A2 cur i [AI x]).toArray.size;rw[Ň,q6.u];omega) q7
 have qj:=Ab (show Bl w w4 from by rw[qb];exact below_setRow (w:=w2.drew) (bx qd.u) (Á _) _);have qk:=Ab (show w4.1[w.1.size]?=some (.cells (A2 (A2 cur i [.pointer x]) (i+1) ((l.map AI).drop i)).toArray 80 (0,0))from by
  rw[qb,E1 w2.drew w.1.size _ _ 80 _ h6.u];simp[A2])
 have qe:=Ab (q5.u q0 cur w4 (by have:=HN.u;omega) h2 h3 H4.u qk.u qj.u);rw[show((l.map AI).drop i).length=N-i from q9.u]at qg;clear qb qj qk q5 q7 q9 q8 q6 H4 h6 qd h5 h2 h3 qi qm HC HQ qq hz0 qh hz2 qf hsz;have z0:¬N=i:=ζ;go_region_law (fail);all_goals (go_wp2_with fail;go_ret;exact qe.u)
end
section
variable{w:A4}{sl:AT}{l:List (Option Addr)}{x:Option Addr}{q i:Nat}
theorem ZQ{cap:Nat}(ho:w.ownsRow 0 80 1 (SlB g l.length cap) l.length (l.map AI))(hq:w.1[q]?=some (.cells #[.pointer x] 80 (0,0)))(qq:q≠g)(hi:i<l.length)(qd:l.length<cap)(hb:l.length<=1000000000000):
  C5 AS 291 #[SlB g l.length cap,InB i,SlB q 1 1] w (G7 l i x (SlB g l.length cap) w):=by
 obtain⟨i0,qo,hz0,qu,hz2⟩:=E5 GC;have hsz:(Tryz.prog.info? 80).map (·.size)=some 1:=by rw[qo];simp[qu]
 obtain⟨cur,hg,qh,qz,q4⟩:∃cur:List AT,w.1[g]?=some (.cells cur.toArray 80 (0,0))/\cap<=B1/\cur.length=cap/\cur.take l.length=l.map AI:=by
  rcases ho.2 with⟨h,_⟩|⟨g',qv,cur,h,_,h2,_,h4,h5,h6⟩
  .cases h
  .injection h with h7 _ h8;injection h7 with h7;injection h7 with h7;subst h7;subst h8;exact⟨cur.toList,by simpa using h2,h4,by simpa using h5,by simpa using h6⟩
 obtain⟨N,hN⟩:∃N,N=l.length:=⟨_,rfl⟩
 have qm:CeB w q 0=some (.pointer x):=ck hq;have za:=λ(off n c:Nat)=>PB (off:=off) (n:=n) (c:=c) hg hq qq;have hlt:g<w.1.size/\q<w.1.size:=ε;have qf:((cur.drop i).take (N-i)).length=N-i:=ω;have qe:∀W:A4,W.1[g]?=w.1[g]? ->∀j v,((cur.drop i).take (N-i))[j]?=some v->W.cell? ((⟨g,i,none⟩:Addr).add j)=some v:=λW hW j v hj=>by
  have h1:=Nq hj;rw[CL]at h1;rw[HB,Ç (w:=w) hW];simp[World.cell?,hg,h1]
 have qb:∀u∈(cur.drop i).take (N-i),u.oneCell'=true:=λu hu=>by
  obtain⟨j,hj⟩:=List.getElem?_of_mem hu;rw[DA]at hj;split at hj
  .rename_i z8;rw[CL]at hj;have h2:(cur.take l.length)[i+j]?=some u:=by rw[DA,if_pos ζ];exact hj
   rw[q4,Þ]at h2;obtain⟨y,_,rfl⟩:=à.1 h2;rfl
  .cases hj
 obtain⟨q0,q5⟩:∃q0,q0=A2 cur (i+1) ((cur.drop i).take (N-i)):=⟨_,rfl⟩
 have qg:q0.length=cap:=by
  grind [A2,D9,E2]
 have qr:∀ty,(C6 #[106,106] ty #[.slice (some ⟨g,i+1,none⟩) (N-i) (cap-(i+1)),.slice (some ⟨g,i,none⟩) (N+1-i) (cap-i)]).run AS w.drew=.ok (goInt ((N-i:Nat))) (w.drew.setRow g (cur.toArray.toList.take (i+1)++(cur.drop i).take (N-i)++cur.toArray.toList.drop (i+1+((cur.drop i).take (N-i)).length)).toArray):=λty=>by
  have h:=D2 (P:=AS) w.drew 106 106 ty 80 g (i+1) (N-i) (cap-(i+1)) ⟨g,i,none⟩ (N+1-i) (cap-i) cur.toArray 80 ((cur.drop i).take (N-i)) underlying106 hsz hg (by rw[qf];simp[E0];omega) (qe w.drew rfl) (by rw[qf,Ň];omega) qb;rw[qf]at h |-;exact h
 have qi:(w.drew.setRow g (cur.toArray.toList.take (i+1)++(cur.drop i).take (N-i)++cur.toArray.toList.drop (i+1+((cur.drop i).take (N-i)).length)).toArray).1[g]?=some (.cells q0.toArray 80 (0,0)):=by
  rw[E1 w.drew g _ _ 80 _ hg,q5];simp[A2]
 have q6:w.grownBy (w.drew.setRow g (cur.toArray.toList.take (i+1)++(cur.drop i).take (N-i)++cur.toArray.toList.drop (i+1+((cur.drop i).take (N-i)).length)).toArray) (some g):=⟨rfl,rfl,rfl,by simp[HD],λk _ hne=>setRow_other w.drew g k _ (λe=>hne (by rw[e]))⟩
 generalize w.drew.setRow g (cur.toArray.toList.take (i+1)++(cur.drop i).take (N-i)++cur.toArray.toList.drop (i+1+((cur.drop i).take (N-i)).length)).toArray=w4 at*;have q8:CeB w4 q 0=some (.pointer x):=(Ç (a:=⟨q,0,none⟩) (q6.block q hlt.2 (λe=>qq (Î e)))).trans qm;have q9:∀w5:A4,w5.1[g]?=some (.cells (A2 q0 i [.pointer x]).toArray 80 (0,0))->w4.grownBy w5 (some g)->G7 l i x (SlB g l.length cap) w (.returned (SlB g (l.length+1) cap)) w5:=λw5 h5 hk5=>by
  refine⟨g,cap,rfl,⟨by simp[Je x (show i<=l.length from ζ)],À ⟨g,cap,_,rfl,Ď _,h5,ζ,qh,?_,?_⟩⟩,⟨hk5.os.trans q6.os,hk5.tape.trans q6.tape,hk5.output.trans q6.output,Ã q6.size hk5.size,λk hk hne=>(hk5.block k (Õ hk q6.size) hne).trans (q6.block k hk hne)⟩,Å rfl⟩
  .grind [A2,D9,E2]
  .have e1:A2 q0 i [AI x]=A2 (A2 cur i [.pointer x]) (i+1) ((l.map AI).drop i):=by
    have e3:(l.map AI).drop i=(cur.drop i).take (N-i):=by
     rw[<-q4,hN,List.drop_take]
    rw[e3,q5];have z9:(cur.take i).length=i:=by rw[İ];omega
    have z0:(cur.take (i+1)).length=i+1:=by rw[İ];omega
    unfold A2;simp only[É,á,ė];rw[B4 ζ,F5,Ft ζ];rw[CR,B3 ζ,z0,ő,Œ,Ù];have e4:(C0 i cur++([AI x]++C1 (i+1) cur)).take (i+1)=C0 i cur++[AI x]:=by
     grind
    rw[e4];have e5:C1 (i+1+((cur.drop i).take (N-i)).length) (C0 i cur++([AI x]++C1 (i+1) cur))=C1 (i+1+((cur.drop i).take (N-i)).length) cur:=by
     rw[<-ē,CR,B3 ε,Ù,ŉ];simp_all
    rw[e5];simp
   have hr:=(PT (x:=x) (cur:=cur) (i:=i) ζ (show l.length+1<=cur.length from ζ) (by rw[<-q4,F5,Ft ζ])).1;rw[HJ,List.toList_toArray,e1];exact hr
 have qt:∀ty,(C6 #[106,106] ty #[.slice (some ⟨g,i,none⟩) (N+1-i) (cap-i),SlB q 1 1]).run AS w4=.ok (goInt (1:Nat)) (w4.setRow g (q0.toArray.toList.take i++[AI x]++q0.toArray.toList.drop (i+[AI x].length)).toArray):=λty=>
  D2 (P:=AS) w4 106 106 ty 80 g i (N+1-i) (cap-i) ⟨q,0,none⟩ 1 1 q0.toArray 80 [.pointer x] underlying106 hsz qi (by simp[E0];omega) (SC q8) ω NX
 have qn:(w4.setRow g (q0.toArray.toList.take i++[AI x]++q0.toArray.toList.drop (i+[AI x].length)).toArray).1[g]?=some (.cells (A2 q0 i [.pointer x]).toArray 80 (0,0)):=by
  rw[E1 w4 g _ _ 80 _ qi];simp[A2]
 have hk5:w4.grownBy (w4.setRow g (q0.toArray.toList.take i++[AI x]++q0.toArray.toList.drop (i+[AI x].length)).toArray) (some g):=⟨rfl,rfl,rfl,by simp[HD],λk _ hne=>setRow_other w4 g k _ (λe=>hne (by rw[e]))⟩
 generalize w4.setRow g (q0.toArray.toList.take i++[AI x]++q0.toArray.toList.drop (i+[AI x].length)).toArray=w5 at*;have q7:=Ab (q9 w5 qn hk5);have z7:i<N:=ζ;have z1:N<=1000000000000:=ζ;have hne:¬(i:Int)=(N:Int):=ζ;have z3:(i:Int)<=N:=ζ;have qj:¬(cap:Int)<(N:Int)+1:=ζ;have qk:(N:Int)+1<=(cap:Int):=ζ;have qy:(cap:Int)<=9223372036854775807:=by unfold B1 at qh;omega
 have z2:¬cap=i:=ζ;have qw:¬cap=i+1:=ζ;rw[<-hN]at q7 |-;clear ho hq hi hg qz q4 hN qm qf qe qb q5 qg qi q6 q8 q9 qd hb qh qn hk5 hz0 qu hz2 qo hsz hlt;have zb:IntKind.i64.wrap ((i:Int)+1)=((i+1:Nat):Int):=by rw[Č];omega
 have z4:((i+1:Nat):Int)<=(N:Int)+1:=ζ;have z5:(0:Int)<=(i:Int)+1:=ζ;have z6:(i:Int)<=(N:Int)+1:=ζ;go_enter func291,ntmps291;go_wp2_with fail;go_region_law (fail);all_goals (go_wp2_with fail;go_ret;exact q7.u)
theorem nF(ho:w.ownsRow 0 80 1 sl l.length (l.map AI))(hq:w.1[q]?=some (.cells #[.pointer x] 80 (0,0)))(q0:sl.ownBlock≠some q)(hi:i<=l.length)(hb:l.length<=1000000000000):
  C5 AS 291 #[sl,InB i,SlB q 1 1] w (G7 l i x sl w):=by
 by_cases he:i=l.length
 .subst he;exact gP ho hq hb
 .rcases ho.2 with⟨_,h⟩|⟨g,cap,cur,rfl,_,_,h3,_⟩
  .omega
  .by_cases hc:cap=l.length
   .subst hc;exact ZR ho hq ζ hb
   .exact ZQ ho hq ε ζ ζ hb
end
theorem Pt.first{P:AT->pL->Prop}(k:Lit):∀{l:List (Lit×A3 AT)}{m:List (Lit×pL)},Pt P l m->D3 (.map l) k=true ->
  ∃i key c x,m.findIdx? (λp=>p.1.sameKey k)=some i/\m[i]?=some (key,c)/\m.find? (λp=>p.1.sameKey k)=some (key,c)/\(∀z,(G2 l).atKey k z=.held x)/\P x c
 |[],[],_,h=>by cases h
 |a::r,b::s,⟨⟨kk,x,e,g⟩,t⟩,h=>by
  by_cases hk:a.1.sameKey k=true
  .have hb:b.1.sameKey k=true:=ε;refine⟨0,b.1,b.2,x,?_,rfl,?_,λz=>?_,g⟩
   .grind
   .grind
   .rw[Co,Jk (p:=λp=>p.1.sameKey k) hk];exact e
  .have hb:¬b.1.sameKey k=true:=ε;have h2:D3 (.map r) k=true:=by
    have h3:(a.1.sameKey k || r.any λp=>p.1.sameKey k)=true:=h;rw[Bool.eq_false_iff.2 hk,Bool.false_or]at h3;exact h3
   obtain⟨i,key,c,x',e1,e2,e3,e4,e5⟩:=Pt.first k t h2;refine⟨i+1,key,c,x',?_,ε,?_,λz=>?_,e5⟩
   .grind
   .grind
   .rw[Co,KF (p:=λp=>p.1.sameKey k) hk];exact e4 z
def Ex(f:Nat)(w:A4)(n:pN)(t:By)(e:Ending):Prop:=match qA (pT (f+1) n) t with
 |.ok d=>∃i c x,sY (pT (f+1) n) t=some i/\(AM n)[i]?=some c/\d=pT f c/\e=.returned (.tuple #[x,.int .i64 0])/\Ad f w x c
 |.error c=>e=.returned (.tuple #[.pointer none,.int .i64 c])
theorem Ef{c:Nat}{w:A4}{n:pN}(h:qA (pT (f+1) n) t=.error c):Ex f w n t (.returned (.tuple #[.pointer none,.int .i64 c])):=by
 unfold Ex;rw[h]
theorem Ob{i:Nat}{w:A4}{n:pN}{x:AT}(h:qA (pT (f+1) n) t=.ok (pT f c))(h1:sY (pT (f+1) n) t=some i)(h2:(AM n)[i]?=some c)(h3:Ad f w x c):
  Ex f w n t (.returned (.tuple #[x,.int .i64 0])):=by
 unfold Ex;grind
theorem Lh{w:A4}{u:AT}{n:pN}(ht:t.length<=1048576)(hr:Rng w)(h:Ad (f+1) w u n):
  C5 AS 111 #[u,.string ⟨t.toArray⟩] w λe w'=>Ex f w n t e/\Bl w w':=by
 obtain⟨b,g,x,rfl,rfl,h⟩:=h;rcases h with⟨k,hk,_,rfl,h⟩|⟨m,_,rfl,h,q5⟩|⟨s,_,rfl,h⟩|⟨al,sl,ps,rfl,h,ho,hs,ha⟩|⟨es,m,D,rfl,h,ho,hp⟩
 .refine (Ei (k:=k) ζ h).mono ?_;rintro e w' ⟨rfl,hb⟩;exact⟨Ef (c:=11) rfl,hb⟩
 .refine (Ei (k:=3) ζ h).mono ?_;rintro e w' ⟨rfl,hb⟩;exact⟨Ef (c:=11) rfl,hb⟩
 .refine (Ei (k:=4) ζ h).mono ?_;rintro e w' ⟨rfl,hb⟩;exact⟨Ef (c:=11) rfl,hb⟩
 .have hl:=ha.length;refine U9 (R:=Ex f w (pS b g (.slice al [])) t) ht hr h ho (λhi=>Ef (Iy hi)) (λi hi hx=>?_) (λi hx hi=>Ef (JE hx ω));have q4:i<al.length:=ζ;refine Ob (c:=al[i]) (i:=i) ?_ ?_ (by rw[Cs];grind) (ha.get i hi q4)
  .rw[Bn,Kl hx ε,é]
  grind [pT,Bn,sY,pS,Cs,Bc,Cg,Ak]
 .have hh:D3 (.map D:A3 AT) (.string t)=D3 (.map (es.map λp=>(p.1,pT f p.2)):A3 Unit) (.string t):=
   (Pt.mapR (P:=λ_ _=>True) (q:=pT f) (hp.mono λ_ _ _=>trivial)).has _
  have hc:qA (pT (f+1) (pS b g (.map es))) t=(if D3 (.map D:A3 AT) (.string t)then .ok ((G2 (es.map λp=>(p.1,pT f p.2))).atKey (.string t) .nil)else .error 11):=by
   rw[hh];rfl
  refine U8 (R:=Ex f w (pS b g (.map es)) t) ht h ho (λhno=>Ef ε) (λq0=>?_);obtain⟨i,key,c,x,e1,e2,e3,e4,e5⟩:=hp.first (.string t) q0;refine⟨x,e4,Ob (c:=c) (i:=i) ?_ ?_ ?_ e5⟩
  .rw[hc,if_pos q0,Co,List.find?_map,show((λp=>p.1.sameKey (.string t)) ∘ λp:Lit×pN=>(p.1,pT f p.2))=λp=>p.1.sameKey (.string t)from rfl,e3];rfl
  .rw[Bc];unfold sY Ap;simp only;rw[List.findIdx?_map];exact e1
  .rw[Cg,Þ,e2];rfl
theorem WU(fa:Nat)(v:AT)(a:pN):Yc (InT fa v a) where
 call:=λs w u d t ht hr h=>by
  obtain⟨q0,f,p,n,hf,hs,hT,rfl,hp⟩:=h;cases f with
  |zero=>exact hT.elim
  |succ f=>
   refine(Lh ht hr hT).mono ?_;rintro e w' ⟨hk,hb⟩;refine⟨?_,hb⟩;unfold Ex at hk;unfold Nc;cases hc:qA (pT (f+1) n) t with
   |error c=>grind
   |ok d=>
    rw[hc]at hk;obtain⟨i,c,x,h1,h2,rfl,rfl,h3⟩:=hk;have q4:BD p (pT fa a)=some (pT (f+1) n):=by
     rw[<-hf];exact II (f:=f+1) (by rw[hf];exact q0) hs
    refine⟨x,rfl,q0.bel hb,f,p++[i],c,ω,K8 h2 hs,h3.bel hb,rfl,?_⟩;exact JV h1 (show(AW (pT (f+1) n))[i]?=some (pT f c) by rw[Es hT,Þ,h2];rfl) hp q4
theorem dK{fa:Nat}{w:A4}{v pv:AT}{l:List By}(hl:∀t∈l,t.length<=1048576)(hn:l.length<=1048576)(hr:Rng w)(h:Ad fa w v a)(hp:Dl w pv l):
  C5 AS 81 #[pv,v] w λe w'=>Nc (InT fa v a l) (Ag (pT fa a) l) e w'/\Bl w w':=
 oT (WU fa v a) hl hn hr ⟨h,fa,[],a,rfl,rfl,h,rfl,rfl⟩ hp
abbrev plV(pth:AT)(b:Nat)(key:By)(i:Nat):AT:=.agg #[pth,PtB b,.string ⟨key.toArray⟩,InB i]
theorem Ow(w:A4)(o:Obj)(q:Nat):Bl w ((w.alloc o).drewN q):=by
 have h:=(Â w.1.size w).alloc (Á _) o;exact⟨h.os,h.tape,h.output,h.size,h.block⟩
section
variable{w:A4}{b:Nat}{pth:AT}{key:By}{i:Nat}
theorem S0(hk:key.length<=1048576)(h:VB w b 6 n0 [] (.slice none 0 0) (.map (some m)))(ho:w.ownsMap AS 9 RV m n (.map D)){x:AT}(hx:(G2 D).atKey (.string key) (.held (.pointer none))=.held x):
  CB 159 #[plV pth b key i] w x:=by
 have q5:=h.lt;have q0:∀o,(w.alloc o).cell? ⟨b,0,none⟩=some (InB 6):=λo=>(Ç (w:=w) (Ä w o b q5)).trans h.c0;have q6:∀o,(w.alloc o).cell? ⟨b,6,none⟩=some (.map (some m)):=λo=>(Ç (w:=w) (Ä w o b q5)).trans h.c6;have q7:∀o q,(HE 109 (.map (some m)) (.string ⟨key.toArray⟩) false).run AS ((w.alloc o).drewN q)=.ok x ((w.alloc o).drewN q):=λo q=>by
  obtain⟨v,ps,q4,hv⟩:=(A0 (w':=(w.alloc o).drewN q) ho (Ä w o m (CV ho))).lookup C9 underlying109 (DI _) (zd:=.held (.pointer none)) (zp:=[]) rfl (Gy key hk);rw[hx]at hv;obtain⟨rfl,_⟩:=Eb hv rfl;exact q4
 have hl0:∀o,(HE 109 (.map (some m)) (.string ⟨key.toArray⟩) false).run AS (w.alloc o)=.ok x (w.alloc o):=λo=>q7 o 0;clear h ho hx;go_enter func159,ntmps159;go_wp2_with fail;go_quiet(fail);go_wp2;go_ret;exact⟨rfl,Ow _ _ _⟩
theorem gV{sl:AT}(h:VB w b 5 n0 [] sl (.map none))(ho:w.ownsRow 0 80 1 sl ps.length ps)(hi:i<ps.length):
  C5 AS 159 #[plV pth b key i] w λe w'=>e=.returned ps[i]/\Bl w w':=by
 have q4:=h.lt;have q0:∀o,(w.alloc o).cell? ⟨b,0,none⟩=some (InB 5):=λo=>(Ç (w:=w) (Ä w o b q4)).trans h.c0;have q5:∀o,(w.alloc o).cell? ⟨b,5,none⟩=some sl:=λo=>(Ç (w:=w) (Ä w o b q4)).trans h.c5;obtain⟨N,hN⟩:∃N,N=ps.length:=⟨_,rfl⟩
 obtain⟨g,cap,rfl,a1,a2,a3,hc⟩:=AP ho ζ;have qi:∀o,(w.alloc o).cell? ⟨g,i,none⟩=some ps[i]:=λo=>(Ç (w:=w) (Ä w o g a3)).trans (hc i hi);rw[<-hN]at q5 a1;have hlt:i<N:=ζ;have q6:(i:Int)<(N:Int):=ζ;have q7:(N:Int)<=9223372036854775807:=by unfold B1 at a2;omega
 generalize ps[i]=pv at*;clear h ho hc hN hi;go_enter func159,ntmps159;go_wp2_with fail;go_quiet(fail);go_wp2;go_ret;exact⟨rfl,Ow _ _ _⟩
theorem eU{sl:AT}(h:VB w b 5 n0 [] sl (.map none))(ho:w.ownsRow 0 80 1 sl ps.length ps)(hi:i<ps.length):
  C5 AS 250 #[plV pth b key i,.pointer pu] w λe w'=>e=.returned (.tuple #[])/\∃g,sl.ownBlock=some g/\w'.ownsRow 0 80 1 sl ps.length (ps.set i (.pointer pu))/\w.grownBy w' (some g):=by
 have q6:=h.lt;have q0:∀o,(w.alloc o).cell? ⟨b,0,none⟩=some (InB 5):=λo=>(Ç (w:=w) (Ä w o b q6)).trans h.c0;have q5:∀o,(w.alloc o).cell? ⟨b,5,none⟩=some sl:=λo=>(Ç (w:=w) (Ä w o b q6)).trans h.c5;obtain⟨N,hN⟩:∃N,N=ps.length:=⟨_,rfl⟩
 obtain⟨g,cap,rfl,a1,a2,a3,hc⟩:=AP ho ζ;have qi:∀o,(w.alloc o).cell? ⟨g,i,none⟩=some ps[i]:=λo=>(Ç (w:=w) (Ä w o g a3)).trans (hc i hi);have zi:∀o,(w.alloc o).frozen? ⟨g,i,none⟩=false:=λo=>(ho.alloc o).frozenAt i;have q4:Hid (∀o,Value.ownBlock (SlB g ps.length cap)=some g/\(((w.setCell ⟨g,i,none⟩ (.pointer pu)).alloc o).drew).ownsRow 0 80 1 (SlB g ps.length cap) ps.length (ps.set i (.pointer pu))/\w.grownBy (((w.setCell ⟨g,i,none⟩ (.pointer pu)).alloc o).drew) (some g)):=Ab (λo=>by
  have h1:=ho.stored i (.pointer pu);have h3:=h1.2.andThen (CH (w.setCell ⟨g,i,none⟩ (.pointer pu)) o none) (λj hj=>by cases hj);exact⟨rfl,h1.1.alloc o,⟨h3.os,h3.tape,h3.output,h3.size,h3.block⟩⟩)
 have q9:∀o q,((w.alloc o).drewN q).cell? ⟨g,i,none⟩=some ps[i]:=λo _=>qi o;have qd:∀o q,((w.alloc o).drewN q).frozen? ⟨g,i,none⟩=false:=λo _=>zi o;have qb:∀o,((w.alloc o).drew).cell? ⟨g,i,none⟩=some ps[i]:=λo=>qi o;have qe:∀o,((w.alloc o).drew).frozen? ⟨g,i,none⟩=false:=λo=>zi o;have hlt:i<N:=ζ;have q7:(i:Int)<(N:Int):=ζ;have q8:(N:Int)<=9223372036854775807:=by unfold B1 at a2;omega
 rw[<-hN]at q5 a1 q4 |-;generalize ps[i]=pv at*;clear h ho hc hN hi;go_enter func250,ntmps250;go_wp2_with fail;go_region_law (fail);all_goals exact Ĝ (þ rfl _ _ _) rfl ⟨rfl,g,q4.u _⟩
end
section
variable{w:A4}{b:Nat}{pth:AT}{key:By}{i:Nat}
theorem O4(hk:key.length<=1048576)(hn:n<B1)(ho:w.ownsMap AS 9 RV m n (.map D))(o:Obj):
  ∃w3,(Instr.mapUpdate 109 (.map (some m)) (.string ⟨key.toArray⟩) (.pointer pu)).run AS ((w.alloc o).drew)=.ok () w3/\w3.ownsMap AS 9 RV m (n+1) (G3 (.map D) (.string key) (.held (.pointer pu)))/\w.grownBy w3 (some m):=by
 have h0:((w.alloc o).drew).ownsMap AS 9 RV m n (.map D):=(ho.alloc o).drew;obtain⟨w3,q0,h1,h2⟩:=h0.update C9 underlying109 hn (Gy key hk) (val:=.pointer pu) (d:=.held (.pointer pu)) (ps:=[]) rfl;have h3:=CH w o none;have h4:w.grownBy ((w.alloc o).drew) none:=⟨h3.os,h3.tape,h3.output,h3.size,h3.block⟩
 refine⟨w3,q0,h1,?_⟩;exact⟨h2.os.trans h4.os,h2.tape.trans h4.tape,h2.output.trans h4.output,Ã h4.size h2.size,λj hj hne=>(h2.block j (Õ hj h4.size) hne).trans (h4.block j hj φ)⟩
theorem eS(hk:key.length<=1048576)(hn:n<B1)(h:VB w b 6 n0 [] (.slice none 0 0) (.map (some m)))(ho:w.ownsMap AS 9 RV m n (.map D)):
  C5 AS 250 #[plV pth b key i,.pointer pu] w λe w'=>e=.returned (.tuple #[])/\w'.ownsMap AS 9 RV m (n+1) (G3 (.map D) (.string key) (.held (.pointer pu)))/\w.grownBy w' (some m):=by
 have q5:=h.lt;have q0:∀o,(w.alloc o).cell? ⟨b,0,none⟩=some (InB 6):=λo=>(Ç (w:=w) (Ä w o b q5)).trans h.c0;have q6:∀o,(w.alloc o).cell? ⟨b,6,none⟩=some (.map (some m)):=λo=>(Ç (w:=w) (Ä w o b q5)).trans h.c6;have HU:=O4 (pu:=pu) hk hn ho;clear h ho;obtain⟨W,hW⟩:=B2 HU;have q7:=λo=>(hW o).1;have q4:=Ab (λo=>(hW o).2.1);have HG:=Ab (λo=>(hW o).2.2);clear hW HU;go_enter func250,ntmps250;go_wp2_with fail;go_region_law (fail);all_goals (
  go_wp2;exact Ì (þ rfl _ _ _) rfl ⟨rfl,q4.u _,HG.u _⟩)
theorem UE(hk:key.length<=1048576)(hn:n<B1)(h:VB w b 6 n0 [] (.slice none 0 0) (.map (some m)))(ho:w.ownsMap AS 9 RV m n (.map D)):
  C5 AS 249 #[plV pth b key i,.pointer pu] w λe w'=>e=.returned (.tuple #[])/\w'.ownsMap AS 9 RV m (n+1) (G3 (.map D) (.string key) (.held (.pointer pu)))/\w.grownBy w' (some m):=by
 have q5:=h.lt;have q0:∀o,(w.alloc o).cell? ⟨b,0,none⟩=some (InB 6):=λo=>(Ç (w:=w) (Ä w o b q5)).trans h.c0;have q6:∀o,(w.alloc o).cell? ⟨b,6,none⟩=some (.map (some m)):=λo=>(Ç (w:=w) (Ä w o b q5)).trans h.c6;have HU:=O4 (pu:=pu) hk hn ho;clear h ho;obtain⟨W,hW⟩:=B2 HU;have q7:=λo=>(hW o).1;have q4:=Ab (λo=>(hW o).2.1);have HG:=Ab (λo=>(hW o).2.2);clear hW HU;go_enter func249,ntmps249;go_wp2_with fail;go_region_law (fail);all_goals (
  go_wp2;exact Ì (þ rfl _ _ _) rfl ⟨rfl,q4.u _,HG.u _⟩)
end
section
variable{w:A4}{b:Nat}{pth:AT}{key:By}{i:Nat}
theorem bG(hk:key.length<=1048576)(ho:w.ownsMap AS 9 RV m n (.map D))(x:Obj×D6):
  ∃w3,(F2 #[109,9] x.2 #[.map (some m),.string ⟨key.toArray⟩]).run AS ((w.alloc x.1).drew)=.ok (.tuple #[]) w3/\w3.ownsMap AS 9 RV m n (HM (.map D) (.string key))/\w.grownBy w3 (some m):=by
 have h0:((w.alloc x.1).drew).ownsMap AS 9 RV m n (.map D):=(ho.alloc x.1).drew;obtain⟨w3,q0,h1,h2⟩:=h0.drop C9 underlying109 (Gy key hk) x.2;have h3:=CH w x.1 none;have h4:w.grownBy ((w.alloc x.1).drew) none:=⟨h3.os,h3.tape,h3.output,h3.size,h3.block⟩
 have h5:=h2.grown;refine⟨w3,q0,h1,?_⟩;exact⟨h5.os.trans h4.os,h5.tape.trans h4.tape,h5.output.trans h4.output,Ã h4.size h5.size,λj hj hne=>(h5.block j (Õ hj h4.size) hne).trans (h4.block j hj φ)⟩
theorem TS(hk:key.length<=1048576)(h:VB w b 6 n0 [] (.slice none 0 0) (.map (some m)))(ho:w.ownsMap AS 9 RV m n (.map D)):
  C5 AS 246 #[plV pth b key i] w λe w'=>e=.returned (.tuple #[])/\w'.ownsMap AS 9 RV m n (HM (.map D) (.string key))/\w.grownBy w' (some m):=by
 have q5:=h.lt;have q0:∀o,(w.alloc o).cell? ⟨b,0,none⟩=some (.int .i64 6):=λo=>(Ç (w:=w) (Ä w o b q5)).trans h.c0;have q6:∀o,(w.alloc o).cell? ⟨b,6,none⟩=some (.map (some m)):=λo=>(Ç (w:=w) (Ä w o b q5)).trans h.c6;have HU:=bG hk ho;clear h ho;obtain⟨W,hW⟩:=B2 HU;have q7:∀o ty,(F2 #[109,9] ty #[.map (some m),.string ⟨key.toArray⟩]).run AS ((w.alloc o).drew)=.ok (.tuple #[]) (W (o,ty)):=ε;have q4:=Ab (λx=>(hW x).2.1);have HG:=Ab (λx=>(hW x).2.2);clear hW HU;go_enter func246,ntmps246;go_wp2_with fail;go_region_law (fail);all_goals (
  go_wp2_with fail;exact Ì (þ rfl _ _ _) rfl ⟨rfl,q4.u _,HG.u _⟩)
end
def cX(r:Except Nat Nat):AT:=match r with
 |.ok i=>.tuple #[InB i,InB 0]
 |.error c=>.tuple #[InB 0,InB c]
theorem Ph{w:A4}{b:Nat}{sl:AT}(ht:t.length<=1048576)(hr:Rng w)(h:VB w b 5 n0 [] sl (.map none))(ho:w.ownsRow 0 80 1 sl ps.length ps):
  CB 244 #[PtB b,.string ⟨t.toArray⟩] w (cX (Cc ps.length t)):=by
 have c5:=h.c5;have hI:=Ab (Hu t w ht hr);have q0:=EI ho;obtain⟨N,hN⟩:∃N,N=ps.length:=⟨_,rfl⟩
 obtain⟨a,c,rfl⟩:=BK ho;obtain⟨V,hV⟩:∃V,V=cX (Cc ps.length t):=⟨_,rfl⟩
 rw[<-hV];rw[<-hN]at c5 hV q0;have q5:(N:Int)<=9223372036854775807:=by unfold B1 at q0;omega
 by_cases hd:t=[45]
 .have HV:=Ab (show V=.tuple #[InB N,InB 0] by rw[hV,Cc,if_pos hd];rfl);have e1:(t==[45])=true:=ε;have e2:(t != [45])=false:=ε;clear h ho hN hV hd q0;go_enter func244,ntmps244;go_wp2;go_ret2;exact⟨by rw[HV.u];rfl,Â _ _⟩
 .have e1:(t==[45])=false:=ε;have e2:(t != [45])=true:=ε;cases hi:qG t with
  |none=>
   have HV:=Ab (show V=.tuple #[InB 0,InB 12] by rw[hV,Cc,if_neg hd,hi];rfl);rw[hi]at hI;clear h ho hN hV hd hi q0;go_enter func244,ntmps244;go_wp2_with fail;refine hI.u.mono ?_;rintro e w2⟨rfl,hb⟩;unfold FY;go_wp2;go_ret2;exact⟨by rw[HV.u];rfl,hb⟩
  |some i=>
   rw[hi]at hI;by_cases hlt:N<i
   .have HV:=Ab (show V=.tuple #[InB 0,InB 11] by rw[hV,Cc,if_neg hd,hi];simp only;rw[if_pos hlt];rfl);have q4:(N:Int)<(i:Int):=ζ;clear h ho hN hV hd hi q0;go_enter func244,ntmps244;go_wp2_with fail;refine hI.u.mono ?_;rintro e w2⟨rfl,hb⟩;unfold FY;go_wp2;go_ret2;exact⟨by rw[HV.u];rfl,hb⟩
   .have HV:=Ab (show V=.tuple #[InB i,InB 0] by rw[hV,Cc,if_neg hd,hi];simp only;rw[if_neg hlt];rfl);have q4:¬(N:Int)<(i:Int):=ζ;clear h ho hN hV hd hi q0;go_enter func244,ntmps244;go_wp2_with fail;refine hI.u.mono ?_;rintro e w2⟨rfl,hb⟩;unfold FY;go_wp2;go_ret2;exact⟨by rw[HV.u];rfl,hb⟩
