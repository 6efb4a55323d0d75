import Derived.Test.YtdpomdelmdofmaaGreatDoorRea30
open List renaming mem_cons_of_mem->AI,mem_cons_self->AS,any_eq_true->A1,map_cons->A5,mem_filter->Bs,mem_of_getElem?->BY,sum_cons->CD,pairwise_cons->CH,mem_map->CL,filter_cons->C1,length_cons->C2,length_nil->DD,mem_cons->D0
open Go.Lit renaming string->AT
open Go.Maps renaming has->A2
open Nat renaming le_trans->A3,le_refl->Dt,zero_le->D3
open Go.WideAt renaming sameKey_eq->A4,atKey_mem->CR
open Go.DataW renaming map->A6,insert->D2
open Go renaming World->D1
open Or renaming inl->E0
namespace Go.Proofs.YtdpomdelmdofmaaGreatDoor
open Go.Proofs.Tryz Go.RowKit Go.Maps
variable{w:D1}{k:By}
def NE(L D:Nat)(rv iv:Value)(ch:Bool)(Tb:dS)(Mb:Nat->Prop)(wb:D1)(T:dS)(M:Nat->Prop)(js:List dX)(p:List Nat)(b g f:Nat)(path:List By)(ev ps:List (Lit×To))(w w3:D1)(t:Nat)(wr:D1):Prop:=
 ∃jn Tt Mt ct,Bv L wr D rv jn iv ch Tb Mb wb Tt Mt (js++(AW (eC f) path (ps.take t) ev).2)/\eD p Tt=some (dW b g (.map ct))/\ct.map (fun p=>(p.1,dV f p.2))=(AW (eC f) path (ps.take t) ev).1 /\
  er L Tt=er L (eI p (dW b g (.map ct)) T)/\JEx (fun k=>M k\/(w.heap.size<=k/\k<w3.heap.size)) Mt w3 wr
section
variable{d x:Int}{f:Nat}
theorem YM{L:Nat}{p:List Nat}{D b g t vb:Nat}{rv iv:Value}{ch:Bool}{Tb T m0:dS}{Mb M F:Nat->Prop}{wb w3 wr w1:D1}{js:List dX}{path:List By}{ev ps:List (Lit×To)}{lv:Int}{q:To}{xa:Option Addr}{xl xc:Nat}(ih:Jt d x f)(hL:f+1+p.length=L)(qx:L<=top+1)(h0:eD p T=some m0)(hq:ps[t]? = some (.string k,q))(hlv:1<=lv)(he:fA d x f lv ev)(hp:fA d x f lv ps)(zl:2+Ak f ev<=1000000)(hpc:2+Ak f ps<=1000000)(zm:js.length+(2+Ak f ps)<=1000000000)(zo:path.length+1<=p.length)(hF:∀k,F k->M k)(qy:NE L D rv iv ch Tb Mb wb T M js p b g f path ev ps w w3 t wr)(hb1:Below wr.heap.size wr w1)(htk:Aw w1 (fun j=>wr.heap.size<=j) (.slice xa xl xc) (path++[k]))(hr:Rep f F wr (.pointer (some ⟨vb,0,none⟩)) q):
  Calls Tryz.prog 162 #[.pointer (some ⟨D,0,none⟩),plV (.slice xa xl xc) b k 0,.pointer (some ⟨vb,0,none⟩)] w1 fun e w'=>e=.returned (.tuple #[])/\NE L D rv iv ch Tb Mb wb T M js p b g f path ev ps w w3 (t+1) w':=by
 subst hL;obtain⟨jn,Tt,Mt,ct,hJ,hs,hv,z7,hX⟩:=qy;obtain⟨q5,qp⟩:=hJ.grow hb1 (fun j=>wr.heap.size<=j/\j<w1.heap.size) (fun _ h=>h);obtain⟨M1,qn⟩:∃M1,M1=fun j=>Mt j\/(wr.heap.size<=j/\j<w1.heap.size):=⟨_,rfl⟩
 rw[<- qn] at q5 qp;have qb:Aw w1 (GA (f+1+p.length) Tb wb M1) (.slice xa xl xc) (path++[k]):=htk.move fun j hj hl=>⟨rfl,by grind,E0 (A3 hJ.up.1 hj)⟩
 have qw:∀j,F j->M1 j:=fun j hj=>by rw[qn];exact E0 (hX.kept j (E0 (hF j hj))).1
 have hne:=Yb hp.skey hq;have qj:=Jk (KG f) hlv (B:=1000000) path (ps.take t) ev he ⟨hp.1.sublist (List.take_sublist _ _),fun r hr=>hp.2 r (List.mem_of_mem_take hr)⟩ (fun r _ c hc=>by
  have:=E3 (f:=f) hc
  grind [eC,AW,A0,dV,Ak,dT,El,dW])
 have zj:Az ct:=Tl (dV f) (hv▸qj.1.skey);have qq:=Pe (f:=f) hq;have z8:ct.length<=ev.length+t:=by
  have h1:=Oy (eC f) path (ps.take t) ev
  grind
 have zq:t<ps.length:=by grind
 have z6:=Ds f ev;have ze:=Ds f ps;have qi:k.length<=1048576:=by have:=FA k;omega
 have qt:B7 (dW b g (.map ct)) k:=⟨by rw[BH,List.length_map];omega,qi⟩
 have qh:(js++(AW (eC f) path (ps.take t) ev).2).length+dT f q<=1000000000:=by
  grind [eC,AW,A0,dV,Ak,dT,El,dW]
 have zg:=BY hq;obtain⟨_,zf⟩:=hp.2 _ zg;have zh:dT f q<=1000000:=by omega
 have qr:=hr.bel hb1;obtain⟨b',pk,pn,zr,psl,pmv,eb,qk,qf,_⟩:=Dk qr;injection eb with eb;injection eb with eb;injection eb with eb;subst eb;have q7:∀ {ct1:List (Lit×dS)} {j:List dX} {w':D1},ct1.map (fun p=>(p.1,dV f p.2))=(A0 (eC f) path (.string k,q) (AW (eC f) path (ps.take t) ev).1).1->j=(A0 (eC f) path (.string k,q) (AW (eC f) path (ps.take t) ev).1).2 ->
   BU (f+1+p.length) D rv iv ch Tb Mb wb (eI p (dW b g (.map ct1)) Tt) M1 (js++(AW (eC f) path (ps.take t) ev).2++j) w1 w'->NE (f+1+p.length) D rv iv ch Tb Mb wb T M js p b g f path ev ps w w3 (t+1) w':=by
  rintro ct1 j w' h1 rfl ⟨zi,T2,M2,e2,q9,q6⟩;obtain⟨⟨n2,za,qo⟩,qg⟩:=Y8 (f:=f+1) h0 z7 (fun n1 _=>e2);obtain⟨qv,rfl,z1⟩:=Y7 qo;have q4:ps.take (t+1)=ps.take t++[(.string k,q)]:=by rw[List.take_add_one,hq];rfl
  refine⟨zi,T2,M2,qv,?_,za,?_,qg _ qo,(hX.trans qp).trans q6⟩
  ·rw[q4,El,<- List.append_assoc];exact q9
  ·rw[q4,El,z1,h1]
 obtain⟨u,hu⟩:=Ad.at (f:=f+1) q5.tr hs;have zk:(plW w1 xa xl xc b k 0).heap.size=w1.heap.size+1:=by simp
 have qd:∀c,(AT k,c)∈ct->Aj (AW (eC f) path (ps.take t) ev).1 (.string k)=some (dV f c):=fun c hc=>BA qj.1.skey (by grind);have qe:(∀r∈ct,r.1≠AT k)->Aj (AW (eC f) path (ps.take t) ev).1 (.string k)=none:=fun h=>CQ (by grind);cases hn:fY q with
 | true=>
  rw[hn] at qf;rcases CP ct k with⟨c,hc⟩|hno
  ·have qm:AV (dW b g (.map ct)) 0 k c:=Or.inr (by grind);obtain⟨_,_,_,a4⟩:=qm.apart (BI (f:=f+1) hs q5.nd);obtain⟨yv,qu⟩:=hu.kidAt a4;obtain⟨yb,rfl,_⟩:=qu.ptr;have q8:A0 (eC f) path (.string k,q) (AW (eC f) path (ps.take t) ev).1=(eR (.string k) (AW (eC f) path (ps.take t) ev).1,[(0,path++[k],dV f c)]):=by
    unfold A0;simp only;rw[if_pos hn,qd c hc];rfl
   refine Nn (y:=⟨yb,0,none⟩) qk qf ((Ea (i:=0) (key:=k) (hu.bel CY) qm qi).mono ?_) (fun w2 hb2=>?_)
   ·rintro e w' ⟨⟨y,rfl,hy⟩,hb2⟩;obtain rfl:=hy.uniq qu
    grind
   ·obtain⟨q9,q6⟩:=q5.bel hb2;refine (Kr q9 hs qm qt (by omega) (qb.move fun j hj hl=>⟨hb2.block j hl,hj⟩) (by omega)).mono ?_;rintro e w' ⟨rfl,q0,_⟩;refine⟨rfl,q7 (ct1:=eR (.string k) ct) ?_ ?_ (q0.low q6)⟩
    ·rw[q8,EW,hv]
    ·rw[q8]
  ·have q8:A0 (eC f) path (.string k,q) (AW (eC f) path (ps.take t) ev).1=((AW (eC f) path (ps.take t) ev).1,[]):=by
    grind [eC,AW,A0]
   refine (PM (pa:=xa) (pl:=xl) (pc:=xc) qk qf ((JY (i:=0) (key:=k) (hu.bel CY) hno qi).mono ?_)).mono ?_
   ·grind
   ·rintro e w' ⟨rfl,hb2⟩;obtain⟨q9,q6⟩:=q5.bel hb2;refine⟨rfl,q7 (ct1:=ct) (j:=[]) (by grind) (by rw[q8]) ⟨jn,Tt,M1,?_,by grind,q6⟩⟩;rw[q5.tr.put_self (f:=f+1) hs]
 | false=>
  rw[hn] at qf;refine Ou qk qf fun w2 hb2=>?_;obtain⟨q9,q6⟩:=q5.bel hb2;obtain⟨o,zb,zc,zn⟩:∃o:Option dS,At0 (dW b g (.map ct)) 0 k o/\Aj (AW (eC f) path (ps.take t) ev).1 (.string k)=o.map (dV f) /\ ∀c,o=some c->(AT k,c)∈ct:=by
   rcases CP ct k with⟨c,hc⟩|hno
   ·exact⟨some c,Or.inr (by grind),qd c hc,by grind⟩
   ·exact⟨none,⟨b,g,ct,rfl,hno⟩,qe hno,fun c' h=>by cases h⟩
  have q8:A0 (eC f) path (.string k,q) (AW (eC f) path (ps.take t) ev).1=(eE (.string k) (eC f (o.map (dV f)) (path++[k]) q).1 (AW (eC f) path (ps.take t) ev).1,(eC f (o.map (dV f)) (path++[k]) q).2):=by
   unfold A0;simp only;rw[if_neg (by grind),zc];rfl
  refine (ih (i:=0) (lv:=lv+1) rfl qx q9 hs zb qt qh (qb.move fun j hj hl=>⟨hb2.block j hl,hj⟩) (by grind) (fun h=>by simp at h) (qr.bel hb2) qw (by omega) zf zh ?_).mono ?_
  ·intro c hc;have h1:(AT k,dV f c)∈(AW (eC f) path (ps.take t) ev).1:=by grind
   refine⟨(qj.1.2 _ h1).2,?_⟩;have h2:=E3 (f:=f) (Ox h1 hne)
   grind [eC,AW,A0,dV,Ak,dT,El,dW]
  ·rintro e w' ⟨rfl,c',q0,qz⟩;rw[YA] at q0;refine⟨rfl,q7 (ct1:=eE (.string k) c' ct) ?_ ?_ (q0.low q6)⟩
   ·rw[q8,FQ,hv,qz]
   ·rw[q8]
end
theorem V6{f:Nat}{u:Value}{c:dS}(h:Ad (f+1) w u c)(ho:fI (dV (f+1) c)=true):∃b g es,c=dW b g (.map es):=by
 obtain⟨b,g,y,rfl,_,h⟩:=h;rcases h with⟨k,_,_,rfl,_⟩|⟨n,_,rfl,_⟩|⟨s,_,rfl,_⟩|⟨al,sl,ps,rfl,_⟩|⟨es,n,D,rfl,_⟩
 ·cases ho
 ·cases ho
 ·cases ho
 ·cases ho
 grind
section
variable{d x:Int}
theorem Z0{f:Nat}(ih:Jt d x f){L:Nat}{p:List Nat}{D i:Nat}{rv jn iv:Value}{ch:Bool}{Tb T m c:dS}{Mb M F:Nat->Prop}{wb:D1}{js:List dX}{key:By}{pa:Option Addr}{pl pc:Nat}{path:List By}{v:Value}{ps:List (Lit×To)}{lv:Int}(hL:f+1+1+p.length=L)(qg:L<=top+1)(hJ:Bv L w D rv jn iv ch Tb Mb wb T M js)(hs:eD p T=some m)(hf:AV m i key c)(hr:B7 m key)(qv:js.length+dT (f+1) (.map ps)<=1000000000)(qm:Aw w (GA L Tb wb M) (.slice pa pl pc) path)(qx:path.length<=p.length)(q9:path=[] -> ∃c,Value.slice pa pl pc=.slice none 0 c)(hv:Rep (f+1) F w v (.map ps))(hF:∀k,F k->M k)(hlv:1<=lv)(hg:dY d x (f+1) lv (.map ps))(hsz:dT (f+1) (.map ps)<=1000000)(qd:dY d x (f+1) lv (dV (f+1) c)/\dT (f+1) (dV (f+1) c)<=1000000)(hob:fI (dV (f+1) c)=true):
  Calls Tryz.prog 120 #[.pointer (some ⟨D,0,none⟩),plV (.slice pa pl pc) (eK m) key i,v] w fun e w'=>e=.returned (.tuple #[])/\SK L D rv iv ch Tb Mb wb p T m i key (some c) M js (f+1) path (.map ps) w w':=by
 subst hL;have qr:top<=1000000:=by decide
 obtain⟨u,hu⟩:=Ad.at (f:=f+1+1) hJ.tr hs;obtain⟨a1,a2,a3,a4⟩:=hf.apart (BI (f:=f+1+1) hs hJ.nd);obtain⟨yv,hc⟩:=hu.kidAt a4;obtain⟨b,g,es,rfl⟩:=V6 hc hob;obtain⟨j,hj,q7⟩:=hf.kid;have qb:eD (p++[j]) T=some (dW b g (.map es)):=Hb hj hs;obtain⟨rfl,Dp,hvb,_⟩:=D7 hc;obtain⟨pb,pk,pn,qz,psl,pmv,rfl,qy,_⟩:=Dk hv;obtain⟨hd,q0⟩:=Bt hg;obtain⟨ev,qe⟩:∃ev,ev=es.map fun p=>(p.1,dV f p.2):=⟨_,rfl⟩
 have q6:dV (f+1) (dW b g (.map es))=.map ev:=by rw[qe];rfl
 rw[q6] at qd;obtain⟨_,hem⟩:=Bt qd.1;have qp:dT (f+1) (.map ps)=2+Ak f ps:=CN f ps;have qo:dT (f+1) (.map ev)=2+Ak f ev:=CN f ev;have qn:eP ps=fB ps:=JM q0.1 q0.skey.2;have qw:(fB ps).length=ps.length:=by grind [fB,dV,dT]
 have hb:Below w.heap.size w (plW w pa pl pc (eK m) key i):=CY;have qu:(plW w pa pl pc (eK m) key i).heap.size=w.heap.size+1:=by simp
 have qk:=Ds f ps;refine (Sx (MI:=NE (f+1+1+p.length) D rv iv ch Tb Mb wb T M js (p++[j]) b g f path ev ps w) ((Ea (hu.bel hb) hf hr.2).mono ?_) hvb (fun k hk=>(hJ.low k (hF k hk)).1) hv (by omega) ?_ qm (by omega) q9 ?_ ?_ ?_).mono ?_
 ·rintro e w' ⟨⟨y,rfl,hy⟩,hb2⟩;obtain rfl:=hy.uniq hc
  grind
 ·rw[qn];intro k hk;obtain⟨t,ht,rfl⟩:=List.mem_iff_getElem.1 hk;obtain⟨q,hq⟩:=QI q0.skey.2 ht;have h1:=Pe (f:=f) hq;have h2:=FA (fB ps)[t];omega
 ·intro w3 hb3;obtain⟨qf,_⟩:=hJ.grow hb3 (fun j=>w.heap.size<=j/\j<w3.heap.size) (fun _ h=>h);refine⟨jn,T,_,es,?_,qb,?_,?_,JEx.refl _ _⟩
  ·show Bv _ _ _ _ _ _ _ _ _ _ _ _ (js++[])
   grind
  ·exact qe.symm
  ·have h1:Ad (f+1+(p++[j]).length) w rv T:=by
    have e:f+1+(p++[j]).length=f+1+1+p.length:=by grind
    rw[e];exact hJ.tr
   rw[h1.put_self qb]
 ·rintro w3 t wr hb3 ⟨_,_,_,_,_,_,_,_,hX⟩;refine⟨hX.size,fun k hk hl=>(hX.kept k ?_).2⟩;rcases hk with hk|hk|hk
  ·grind
  ·exact E0 hk.1
  omega
 ·rintro w3 t ht wr w1 xv vb hb3 qh hb1 ⟨xa,xl,xc,rfl⟩ htk hrq;obtain⟨k,hk⟩:∃k,k=(eP ps)[t]:=⟨_,rfl⟩
  rw[<- hk] at htk hrq |-;have qq:t<(fB ps).length:=by grind
  obtain⟨q,hq⟩:=QI q0.skey.2 qq;have hk2:k=(fB ps)[t]:=by
   grind
  rw[<- hk2] at hq;have qj:(A6 ps).atKey (.string k) .nil=q:=CR .nil (by exact trivial) (apart_of_rising q0.1) (BY hq);rw[qj] at hrq;exact YM ih (by grind) qg qb hq hlv hem q0 (by omega) (by omega) (by omega) (by grind) hF qh hb1 htk hrq
 ·rintro e w' ⟨rfl,w3,hb3,qt,Tt,Mt,ct,q1,q2,q3,q4,q5⟩;have q8:ps.take (eP ps).length=ps:=by grind
  rw[q8] at q1 q3;have hm:eC (f+1) (some (.map ev)) path (.map ps)=(.map (AW (eC f) path ps ev).1,(AW (eC f) path ps ev).2):=FE _ _ _ _;obtain⟨qf,qi⟩:=hJ.grow hb3 (fun j=>w.heap.size<=j/\j<w3.heap.size) (fun _ h=>h);refine⟨rfl,dW b g (.map ct),⟨qt,Tt,Mt,?_,?_,qi.trans q5⟩,?_⟩
  ·rw[q4,Oc _ hj hs,q7];rfl
  ·grind
  ·show _=(eC (f+1) (some (dV (f+1) (dW b g (.map es)))) path (.map ps)).1;rw[q6,hm,<- q3];rfl
theorem My:∀f:Nat,Jt d x f
 | 0=>fun _ _ _ _ _ _ _ _ _ _ hv _ _ _ _ _=>hv.elim
 | f+1=>fun hL q4 hJ hs ho hr q6 q5 q7 q0 hv hF hlv hg hsz hc=>by
  rename_i L p w D i rv jn iv ch Tb T m o Mb M F wb js key pa pl pc path v pt lv;by_cases hob:∃c,o=some c/\fI (dV (f+1) c)=true/\fI pt=true
  ·obtain⟨c,rfl,h1,h2⟩:=hob;obtain⟨ps,rfl⟩:∃ps,pt=.map ps:=by
    cases pt with
    | map ps=>grind
    | _=>cases h2
   exact Z0 (My f) hL q4 hJ hs ho hr q6 q5 q7 q0 hv hF hlv hg hsz (hc c rfl) h1
  ·refine YN hL q4 hJ hs ho hr (by omega) q5 hv (jZ hg (by omega)) fun c e=>?_
   grind
end
theorem BG(f:Nat)(p:Lit×To)(l:List (Lit×To)):Ak f (p::l)=(Ag (strOf p.1)).length+2+dT f p.2+Ak f l:=by
 rfl
theorem BF(f:Nat)(P:Lit×To->Bool):∀l:List (Lit×To),Ak f (l.filter P)<=Ak f l
 | []=>Dt _
 | p::l=>by
  have h:=BF f P l;rw[C1,BG];split
  ·rw[BG];omega
  ·omega
theorem Fx{f:Nat}{k:By}{v:To}:∀ {es:List (Lit×To)},(AT k,v)∈es->Ak f (eR (.string k) es)+((Ag k).length+2+dT f v)<=Ak f es
 | p::r,h=>by
  rw[BG];unfold eR;rw[C1];rcases D0.1 h with rfl|h
  ·rw[if_neg (by simp[Da.2 rfl])];have:=BF f (fun p=>!p.1.sameKey (.string k)) r;exact A3 (Nat.add_le_add_right this _) (Nat.le_of_eq (Nat.add_comm _ _))
  ·have:=Fx (f:=f) h;unfold eR at this;split
   ·rw[BG];omega
   ·omega
theorem IV(f:Nat)(x:Lit×To):∀l:List (Lit×To),Ak f (D2 x l)=(Ag (strOf x.1)).length+2+dT f x.2+Ak f l
 | []=>by rfl
 | a::l=>by
  unfold D2;split
  ·rfl
  ·rw[BG,IV f x l,BG];omega
theorem DH(f:Nat)(k:By)(c:To)(es:List (Lit×To)):Ak f (eE (.string k) c es)=(Ag k).length+2+dT f c+Ak f (eR (.string k) es):=by
 unfold eE;rw[IV];rfl
theorem Qq:∀ (f:Nat) (p:To),dT f (Bx f p)<=dT f p
 | 0,_=>Dt _
 | f+1,p=>by
  cases hob:fI p with
  | false=>rw[Iu hob];omega
  | true=>
   obtain⟨eV,rfl⟩:∃eV,p=.map eV:=by
    cases p with
    | map eV=>grind
    | _=>cases hob
   show 2+Ak f ((eV.filter fun q=>!fY q.2).map fun q=>(q.1,Bx f q.2))<=2+Ak f eV;have h1:∀l:List (Lit×To),Ak f (l.map fun q=>(q.1,Bx f q.2))<=Ak f l:=by
    intro l;induction l with
    | nil=>grind
    | cons a l ih=>
     rw[A5,BG,BG];have:=Qq f a.2
     grind
   have h2:=BF f (fun q=>!fY q.2) eV
   grind
section
variable{d x:Int}
def kA(f:Nat)(o:Option To):Nat:=match o with
 | some v=>dT f v
 | none=>0
def XM(d x:Int)(f:Nat):Prop:=∀ (dU:Int) (o:Option To) (s:List By) (p:To),1<=dU->(∀v,o=some v->dY d x f dU v)->dY d x f dU p->dT f (eC f o s p).1<=kA f o+dT f p
theorem Gi{f:Nat}{es:List (Lit×To)}{p:Lit×To}(h:p∈es):dT f p.2<=Ak f es:=by
 have h1:=E3 (f:=f) h;have h2:dT (f+1) (.map es)=2+Ak f es:=CN f es;omega
theorem QE{f:Nat}(ih:XM d x f){dU:Int}(hlv:1<=dU)(s:List By):∀ (l es:List (Lit×To)),fA d x f dU es->fA d x f dU l->Ak f (AW (eC f) s l es).1<=Ak f es+Ak f l
 | [],es,_,_=>Dt _
 | q::l,es,he,hl=>by
  have q0:fA d x f dU [q]:=⟨List.pairwise_singleton _ _,fun p hp=>hl.2 p (by grind)⟩
  have h1:fA d x f dU (A0 (eC f) s q es).1:=(Jk (KG f) hlv (B:=Ak f es) s [q] es he q0 fun r _ c hc=>Gi hc).1;have h2:=QE ih hlv s l (A0 (eC f) s q es).1 h1 ⟨(CH.1 hl.1).2,fun p hp=>hl.2 p (AI _ hp)⟩;obtain⟨⟨k,ek,_⟩,hq⟩:=hl.2 q AS;obtain⟨qk,qv⟩:=q;simp only at ek hq;subst ek;have h3:Ak f (A0 (eC f) s (.string k,qv) es).1<=Ak f es+((Ag k).length+2+dT f qv):=by
   unfold A0;split
   ·split
    ·grind
    ·have:=BF f (fun p=>!p.1.sameKey (.string k)) es;exact A3 this (Nat.le_add_right _ _)
   ·simp only
    rw[DH];cases hg:Aj es (.string k) with
    | none=>
     have h4:=ih (dU+1) none (s++[Fk (.string k)]) qv (by omega) (fun v h=>by cases h) hq;have h5:=BF f (fun p=>!p.1.sameKey (.string k)) es;have h6:Ak f (eR (.string k) es)<=Ak f es:=h5
     grind [kA,DH,A0]
    | some o=>
     have hm:=Up he hg;have h4:=ih (dU+1) (some o) (s++[Fk (.string k)]) qv (by omega) (fun v h=>by injection h with h;exact h▸(he.2 _ hm).2) hq;have h5:=Fx (f:=f) hm
     grind [kA,DH,A0]
  have h4:Ak f ((AT k,qv)::l)=(Ag k).length+2+dT f qv+Ak f l:=BG _ _ _;show Ak f (AW (eC f) s l (A0 (eC f) s (.string k,qv) es).1).1<=_;omega
theorem TR:∀f:Nat,XM d x f
 | 0=>fun _ _ _ _ _ _ h=>h.elim
 | f+1=>fun dU o s p hlv ho hp=>by
  have q0:=Qq (f+1) p;cases o with
  | none=>exact A3 q0 (Nat.le_add_left _ _)
  | some v=>
   by_cases hob:fI v=true/\fI p=true
   ·obtain⟨h1,h2⟩:=hob;obtain⟨es,rfl⟩:∃es,v=.map es:=by
     cases v with
     | map es=>grind
     | _=>cases h1
    obtain⟨eV,rfl⟩:∃eV,p=.map eV:=by
     cases p with
     | map eV=>grind
     | _=>cases h2
    have e:eC (f+1) (some (.map es)) s (.map eV)=(.map (AW (eC f) s eV es).1,(AW (eC f) s eV es).2):=FE _ _ _ _;rw[e];have h3:=QE (TR f) hlv s eV es (Bt (ho _ rfl)).2 (Bt hp).2;show 2+Ak f (AW (eC f) s eV es).1<=(2+Ak f es)+(2+Ak f eV)
    omega
   ·have e:(eC (f+1) (some v) s p).1=Bx (f+1) p:=by
     cases v<;>cases p<;>first|rfl|exact absurd ⟨rfl,rfl⟩ hob
    grind
theorem TU{B P:Nat}{o:dX}(h:iE d x B P o)(hd:d<=500)(hP:P<=200000):GC d x B o:=by
 refine⟨A3 h.2.1 hP,fun h1=>?_⟩;obtain⟨f,dU,hlv,hg,hs⟩:=h.2.2 h1;have g1:=Fa (s:=1-dU) hg;rw[show dU+(1-dU)=1 by omega] at g1;have g2:dY d x f 1 o.2.2:=CS (by omega) g1;refine⟨Ci g2 (by grind [top]),hd,?_⟩;have g3:dY d x (max f top) 1 o.2.2:=Ci g2 (by grind [top]);have e1:=Fs g2 (Nat.le_max_left f top);have e2:=Fs (Ci (f:=top) g2 (by grind [top])) (Nat.le_max_right f top);omega
end
def Bz(f:Nat)(xs:List (Lit×To))(k:By):Nat:=match Aj xs (.string k) with
 | some v=>(Ag k).length+2+dT f v
 | none=>0
theorem OO{j:By}{xs:List (Lit×To)}(h:Az xs)(hne:j≠k):Aj (eR (.string k) xs) (.string j)=Aj xs (.string j):=by
 rcases CP xs j with⟨c,hc⟩|hno
 ·rw[BA h hc,BA (Mz h) (FP.2 ⟨hc,fun e=>hne (by injection e)⟩)]
 ·rw[CQ hno,CQ fun p hp=>hno p (FP.1 hp).1]
theorem RT{f:Nat}{j:By}{xs:List (Lit×To)}(h:Az xs)(hne:j≠k):Bz f (eR (.string k) xs) j=Bz f xs j:=by
 unfold Bz;rw[OO h hne]
theorem Hg(f:Nat):∀ {l:List By} {xs:List (Lit×To)},Az xs->l.Nodup->(l.map (Bz f xs)).sum<=Ak f xs
 | [],_,_,_=>D3 _
 | k::l,xs,h,hn=>by
  have h1:=List.nodup_cons.1 hn;have h2:=Hg f (Mz (k:=.string k) h) h1.2;have h3:l.map (Bz f (eR (.string k) xs))=l.map (Bz f xs):=List.map_congr_left fun j hj=>RT h fun e=>h1.1 (e▸hj);rw[h3] at h2;rw[A5,CD];rcases CP xs k with⟨c,hc⟩|hno
  ·have h4:=Fx (f:=f) hc;have h5:Bz f xs k=(Ag k).length+2+dT f c:=by unfold Bz;rw[BA h hc]
   omega
  ·have h5:Bz f xs k=0:=by unfold Bz;rw[CQ hno]
   have h6:Ak f (eR (.string k) xs)<=Ak f xs:=BF f (fun p=>!p.1.sameKey (.string k)) xs;omega
theorem MX{f:Nat}{m:List By->To->To->List dX}{s:List By}{xs bs:List (Lit×To)}:∀ {l:List By},(∀k∈l,Aj xs (.string k)≠none\/Aj bs (.string k)≠none)->(∀k∈l,∀x y,Aj xs (.string k)=some x->Aj bs (.string k)=some y->(m (s++[k]) x y).length<=dT f x+dT f y) ->
  (AN m s xs bs l).length<=(l.map (Bz f xs)).sum+(l.map (Bz f bs)).sum
 | [],_,_=>D3 _
 | k::l,hk,hm=>by
  have ih:=MX (l:=l) (fun j hj=>hk j (AI _ hj)) fun j hj=>hm j (AI _ hj);have h0:=hk k AS;have h1:=hm k AS;rw[AN,List.length_append,A5,A5,CD,CD];cases hx:Aj xs (.string k) with
  | none=>
   cases hy:Aj bs (.string k) with
   | none=>rw[hx,hy] at h0;simp at h0
   | some y=>
    have e1:Bz f bs k=(Ag k).length+2+dT f y:=by unfold Bz;rw[hy]
    simp only[C2,DD];omega
  | some x=>
   have e1:Bz f xs k=(Ag k).length+2+dT f x:=by unfold Bz;rw[hx]
   cases hy:Aj bs (.string k) with
   | none=>
    simp only[C2,DD];omega
   | some y=>
    have e2:Bz f bs k=(Ag k).length+2+dT f y:=by unfold Bz;rw[hy]
    have h2:=h1 x y hx hy;simp only;omega
noncomputable def gQ(m:To->To->Option To)(xs:List (Lit×To))(k:Lit)(y:To):Option (Option To):=match Aj xs k with
 | some x=>if veq x y=true then some none else if fY y=true then none else (m x y).map some
 | none=>if fY y=true then none else (m (.map []) y).map some
section
variable{m:To->To->Option To}{xs:List (Lit×To)}
theorem Gj(k:Lit)(y:To)(r out:List (Lit×To)):D9 m xs ((k,y)::r) out=(match gQ m xs k y with
  | none=>none
  | some none=>D9 m xs r out
  | some (some z)=>D9 m xs r (eE k z out)):=by
 grind [D9,gQ]
theorem IJ:∀ {l out:List (Lit×To)},(∃q∈l,gQ m xs q.1 q.2=none)->D9 m xs l out=none
 | [],_,⟨_,h,_⟩=>by cases h
 | (k,y)::r,out,⟨q,hq,h⟩=>by
  rw[Gj];cases hm:gQ m xs k y with
  | none=>rfl
  | some o=>
   have hr:∃q∈r,gQ m xs q.1 q.2=none:=by
    grind
   cases o with
   | none=>exact IJ hr
   | some z=>exact IJ hr
def XC(es es':List (Lit×To))(k:Lit):Prop:=A2 (.map es:To) k=A2 (.map es':To) k/\(A6 es).atKey k .nil=(A6 es').atKey k .nil
theorem TS(k:By)(z:To)(es:List (Lit×To)):A2 (.map (eE (.string k) z es):To) (.string k)=true/\(A6 (eE (.string k) z es)).atKey (.string k) .nil=z:=
 ⟨has_put_same (D:=.map es) ⟨_,rfl⟩ (by exact trivial) z,atKey_put_same (D:=.map es) ⟨_,rfl⟩ (by exact trivial) z .nil⟩
theorem KH{k:Lit}{j:Lit}(h:j≠k)(z:To)(es:List (Lit×To)):XC (eE k z es) es j:=
 ⟨has_put_other (D:=.map es) h z,atKey_put_other (D:=.map es) h z .nil⟩
theorem LE:∀ {l out:List (Lit×To)},Az l->Az out->(∀q∈l,gQ m xs q.1 q.2≠none) -> ∃q0,D9 m xs l out=some q0/\Az q0 /\ ∀k:By,
  (∀y,(AT k,y)∈l->(gQ m xs (.string k) y=some none->XC q0 out (.string k)) /\ ∀z,gQ m xs (.string k) y=some (some z)->A2 (.map q0:To) (.string k)=true/\(A6 q0).atKey (.string k) .nil=z) /\
  ((∀p∈l,p.1≠AT k)->XC q0 out (.string k))
 | [],out,_,ho,_=>⟨out,rfl,ho,fun k=>⟨(fun y h=>by cases h),fun _=>⟨rfl,rfl⟩⟩⟩
 | (jl,y)::r,out,hs,ho,hn=>by
  obtain⟨j,ej⟩:=hs.2 _ AS;simp only at ej;subst ej;have hp:=CH.1 hs.1;have q6:Az r:=⟨hp.2,fun p h=>hs.2 p (AI _ h)⟩
  have hne:∀p∈r,p.1≠AT j:=fun p h e=>by
   grind [C6,Gj]
  have q5:∀q∈r,gQ m xs q.1 q.2≠none:=fun q h=>hn q (AI _ h);rw[Gj];have q7:=hn _ AS;simp only at q7;cases hm:gQ m xs (.string j) y with
  | none=>grind
  | some o=>
   cases o with
   | none=>
    obtain⟨q0,e,h1,h2⟩:=LE q6 ho q5
    grind
   | some z=>
    obtain⟨q0,e,h1,h2⟩:=LE (out:=eE (.string j) z out) q6 (Ek ho) q5;refine⟨q0,e,h1,fun k=>⟨fun y' h=>?_,fun h=>?_⟩⟩
    ·rcases D0.1 h with h|h
     ·injection h with e1 e2;injection e1 with e1;subst e1 e2;refine⟨(fun h=>by grind),fun z' hz=>?_⟩;rw[hm] at hz;injection hz with hz;injection hz with hz;subst hz;have h3:=(h2 k).2 hne;have h4:=TS k z out;exact⟨h3.1.trans h4.1,h3.2.trans h4.2⟩
     ·have q4:(AT k) ≠ .string j:=hne _ h;have h3:=(h2 k).1 y' h;have h4:=KH q4 z out;exact⟨fun he=>⟨(h3.1 he).1.trans h4.1,(h3.1 he).2.trans h4.2⟩,h3.2⟩
    ·have q4:(AT k) ≠ .string j:=fun e=>h _ AS e.symm;have h3:=(h2 k).2 fun p hp=>h p (AI _ hp);have h4:=KH q4 z out;exact⟨h3.1.trans h4.1,h3.2.trans h4.2⟩
def Do(xs bs:List (Lit×To)):List (Lit×To):=(xs.filter fun p=>!A2 (.map bs:To) p.1).map fun p=>(p.1,AF 0)
theorem Gm{bs:List (Lit×To)}(h:Az xs):Az (Do xs bs):=by
 unfold Do;refine⟨List.pairwise_map.2 (h.1.filter _),fun p hp=>?_⟩;obtain⟨q,hq,rfl⟩:=CL.1 hp;exact h.2 q (Bs.1 hq).1
theorem Hc{es:List (Lit×To)}(h:Az es):Maps.Canon (.map es:To):=⟨es,rfl,h.1,fun p hp=>by obtain⟨s,e⟩:=h.2 p hp;rw[e];trivial⟩
theorem ON{bs:List (Lit×To)}(h:Az xs)(k:Lit):A2 (.map (Do xs bs):To) k=(A2 (.map xs:To) k && !A2 (.map bs:To) k)/\(A2 (.map (Do xs bs):To) k=true->(A6 (Do xs bs)).atKey k .nil=AF 0):=by
 have key:∀q∈Do xs bs,∃p∈xs,q.1=p.1/\A2 (.map bs:To) p.1=false/\q.2=AF 0:=fun q hq=>by
  unfold Do at hq;obtain⟨p,hp,rfl⟩:=CL.1 hq;have h2:=Bs.1 hp;exact⟨p,h2.1,rfl,by simpa using h2.2,rfl⟩
 constructor
 ·rw[Bool.eq_iff_iff,Bool.and_eq_true];constructor
  ·intro h1;obtain⟨q,hq,hs⟩:=A1.1 (show (Do xs bs).any (fun q=>q.1.sameKey k)=true from h1);obtain⟨p,q0,e1,e2,_⟩:=key q hq;have ek:p.1=k:=by rw[<- e1];exact A4 hs
   exact⟨A1.2 ⟨p,q0,by rw[<- e1];exact hs⟩,by rw[<- ek,e2];rfl⟩
  ·rintro⟨h1,h2⟩;obtain⟨p,q0,hs⟩:=A1.1 (show xs.any (fun q=>q.1.sameKey k)=true from h1);have ek:p.1=k:=A4 hs;refine A1.2 ⟨(p.1,AF 0),CL.2 ⟨p,Bs.2 ⟨q0,?_⟩,rfl⟩,hs⟩;rw[ek];exact h2
 ·intro h1;obtain⟨q,hq,hs⟩:=A1.1 (show (Do xs bs).any (fun q=>q.1.sameKey k)=true from h1);obtain⟨p,q0,e1,e2,e3⟩:=key q hq;have ek:q.1=k:=A4 hs;have q4:=apart_of_rising (Gm (bs:=bs) h).1;have h3:=CR .nil (by obtain⟨s,e⟩:=(Gm (bs:=bs) h).2 q hq;rw[e];trivial) q4 (show (q.1,q.2)∈Do xs bs from hq);rw[ek] at h3;rw[h3,e3]
end
end Go.Proofs.YtdpomdelmdofmaaGreatDoor
