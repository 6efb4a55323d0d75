import Derived.Test.YtdpomdelmdofmaaGreatDoorRea35
import Derived.Lib.ValidLaws
open Go.Lib renaming decDigits->AI,itoa->C1
open UInt8 renaming ofNat->AS
open List renaming mem_singleton->AT,mem_map->A2,mem_of_getElem?->A3,getElem?_eq_some_iff->A6,flatMap_cons->Bs,mem_cons->BY,pairwise_singleton->CD,not_mem_nil->CH,cons_append->CL,getElem?_modify->C2,getElem?_map->Dt,ext_getElem?->DD,mem_append->D0,append_nil->D1,nil_append->D2,all_cons->FD,all_nil->F2
open Go.Lit renaming string->A1,before->Ft
open Or renaming inr->A4
open List.Pairwise renaming cons->A5
open Option renaming map_eq_some_iff->CR
open Go.DataW renaming map->Dp,slice->F7
open Go.Maps renaming has->D3
open Prod renaming fst->E0,snd->F5
open Bool renaming and_true->F1
namespace Go.Proofs.YtdpomdelmdofmaaGreatDoor
open Go.Proofs.Tryz Go.RowKit Go.Maps
variable{i:Nat}{k:By}{o:To}
theorem M7(es:List (Lit×To))(t:By):Aq (.map es) t=match Aj es (.string t) with
  | some e=>.ok e
  | none=>.error 11:=by
 have e1:Aq (.map es) t=if D3 (.map es:To) (.string t)=true then .ok ((Dp es).atKey (.string t) .nil) else .error 11:=rfl
 rw[e1];unfold Aj
 grind
theorem Lx{es:List (Lit×To)}{t:By}(h:gH (.map es) t=some i):∃e,es[i]? = some (A1 t,e):=by
 have h':es.findIdx? (fun p=>p.1.sameKey (.string t))=some i:=h;obtain⟨hi,hs,_⟩:=List.findIdx?_eq_some_iff_getElem.1 h';refine⟨es[i].2,?_⟩;rw[List.getElem?_eq_getElem hi,<- WideAt.sameKey_eq hs]
theorem Ot{es:List (Lit×To)}(h:Az es)(i:Nat)(x:To):Az (es.modify i fun p=>(p.1,x)):=by
 have hk:=DP x es i;constructor
 ·have h1:(es.map E0).Pairwise (fun k l:Lit=>k.before l=true):=List.pairwise_map.2 h.1
  grind
 ·intro p hp;have h1:p.1∈(es.modify i fun p=>(p.1,x)).map E0:=by grind
  rw[hk] at h1;obtain⟨q,hq,e⟩:=A2.1 h1;rw[<- e];exact h.2 q hq
theorem NJ{v e:To}(a:To)(h:(Bi v)[i]? = some e):(Bi (CM i a v))[i]? = some a:=by
 cases v with
 | slice es y=>
  have h':es[i]? = some e:=h;obtain⟨hi,_⟩:=A6.1 h';show (es.set i a)[i]? = some a
  grind
 | map es=>
  have h':(es.map F5)[i]? = some e:=h;rw[Dt] at h';show ((es.modify i fun p=>(p.1,a)).map F5)[i]? = some a
  grind
 | _=>(have h':([]:List To)[i]? = some e:=h;simp at h')
theorem SW(v a b:To)(i:Nat):CM i a (CM i b v)=CM i a v:=by
 cases v with
 | slice es y=>show F7 ((es.set i b).set i a) y=.slice (es.set i a) y;simp_all
 | map es=>
  show Dp ((es.modify i fun p=>(p.1,b)).modify i fun p=>(p.1,a))=.map (es.modify i fun p=>(p.1,a));congr 1;apply DD
  grind
 | _=>rfl
theorem SX{v e:To}(h:(Bi v)[i]? = some e):CM i e v=v:=by
 cases v with
 | slice es y=>
  have h':es[i]? = some e:=h;obtain⟨hi,he⟩:=A6.1 h';show F7 (es.set i e) y=.slice es y
  grind [List.set_getElem_self]
 | map es=>
  have h':(es.map F5)[i]? = some e:=h;rw[Dt] at h';show Dp (es.modify i fun p=>(p.1,e))=.map es;congr 1;apply DD
  grind
 | _=>rfl
theorem DZ:∀ (q:List Nat) {v n:To} (m n':To),Bj q v=some n->As q m (As q n' v)=As q m v
 | [],_,_,_,_,_=>rfl
 | i::q,v,n,m,n',h=>by
  rw[Bj] at h;cases hk:(Bi v)[i]? with
  | none=>grind
  | some e=>
   rw[hk] at h;rw[As,As,hk];simp only[NJ (As q n' e) hk];rw[SW,DZ q m n' h];rw[As,hk]
theorem Di:∀ (q:List Nat) {v n:To},Bj q v=some n->As q n v=v
 | [],v,n,h=>by grind [Bj,As]
 | i::q,v,n,h=>by
  rw[Bj] at h;cases hk:(Bi v)[i]? with
  | none=>grind
  | some e=>
   rw[hk] at h;rw[As,hk];simp only;rw[Di q h,SX hk]
theorem YV{d x:Int}{f:Nat}{dU:Int}{v e:To}{t:By}(a:To)(h:dY d x (f+1) dU v)(hp:gH v t=some i)(he:(Bi v)[i]? = some e):gH (CM i a v) t=some i/\Aq (CM i a v) t=.ok a:=by
 obtain⟨_,h⟩:=h;rcases h with⟨k,hk,rfl⟩|⟨s,hs,rfl⟩|⟨n,h1,h2,h3,rfl⟩|⟨es,h,rfl⟩|⟨es,h1,h2,rfl⟩
 ·cases hp
 ·cases hp
 ·cases hp
 ·have q0:(match eZ t with
   | none=>none
   | some i=>if i<es.length then some i else none)=some i:=hp
  cases hi:eZ t with
  | none=>grind
  | some j=>
   rw[hi] at q0;simp only at q0;split at q0
   ·rename_i hlt;injection q0 with q0;subst q0;constructor
    ·show (match eZ t with
      | none=>none
      | some i=>if i<(es.set j a).length then some i else none)=some j
     grind
    ·show (match eZ t with
      | none=>Except.error 12
      | some i=>match (es.set j a)[i]? with
       | some e=>.ok e
       | none=>.error 11)=.ok a
     grind
   grind
 ·have hs:Az es:=⟨h1,by grind⟩
  have q4:=Ot hs i a;obtain⟨e0,h3⟩:=Lx hp;have h4:(es.modify i fun p=>(p.1,a))[i]? = some (A1 t,a):=by
   grind
  constructor
  ·show (es.modify i fun p=>(p.1,a)).findIdx? (fun p=>p.1.sameKey (.string t))=some i;have e1:∀l:List (Lit×To),l.findIdx? (fun p=>p.1.sameKey (.string t))=(l.map E0).findIdx? (fun k=>k.sameKey (.string t)):=fun l=>by rw[List.findIdx?_map];rfl
   rw[e1,DP,<- e1];exact hp
  ·show Aq (.map (es.modify i fun p=>(p.1,a))) t=.ok a;rw[M7,BA q4 (A3 h4)]
theorem EM{d x:Int}:∀ {s:List By} {f:Nat} {dU:Int} {v n:To} {q:List Nat} (a:To),dY d x f dU v->Ah v s=.ok n->A8 v s=some q->Ah (As q a v) s=.ok a/\A8 (As q a v) s=some q/\Bj q v=some n
 | [],f,dU,v,n,q,a,h,hf,hq=>by
  injection hf with hf;injection hq with hq;subst hf hq;exact⟨rfl,rfl,rfl⟩
 | t::r,f,dU,v,n,q,a,h,hf,hq=>by
  cases f with
  | zero=>exact h.elim
  | succ f=>
   rw[Ah] at hf;cases hc:Aq v t with
   | error c=>grind
   | ok e=>
    rw[hc] at hf;obtain⟨i,h1,h2⟩:=Gq h hc;rw[A8,h1] at hq;simp only[h2] at hq;obtain⟨q',q0,rfl⟩:=CR.1 hq;obtain⟨g1,g2,g3⟩:=EM a (FV h h2) hf q0;obtain⟨k1,k2⟩:=YV (As q' a e) h h1 h2;have hv:As (i::q') a v=CM i (As q' a e) v:=by rw[As,h2]
    rw[hv];refine⟨?_,?_,?_⟩
    ·rw[Ah,k2];exact g1
    ·rw[A8,k1];simp only[NJ (As q' a e) h2,g2];rfl
    ·rw[Bj,h2];exact g3
section
def jB(i:dX):fO:=(i.1,i.2.1,[],if i.1=1 then .nil else i.2.2)
def lF(u:To)(i:dX)(v:To):Prop:=∃i',gW u (jB i)=.ok (v,[i'])
theorem Er(s:List By)(t:By):DO (s++[t])=some (s,t):=by
 grind [DO]
variable{d x:Int}{B:Nat}{v v1 n y e:To}{s p:List By}{t:By}{j:List dX}
theorem Y0{es:List (Lit×To)}{t:By}:(D3 (.map es:To) (.string t)=true->Aj es (.string t)=some ((Dp es).atKey (.string t) .nil))/\(¬ D3 (.map es:To) (.string t)=true->Aj es (.string t)=none):=by
 constructor<;>intro h
 ·unfold Aj; rw[if_pos h]
 ·unfold Aj; rw[if_neg h]
theorem WM{es:List (Lit×To)}{t:By}(h:Aj es (.string t)=none):¬ D3 (.map es:To) (.string t)=true:=fun h2=>by
 rw[Y0.1 h2] at h;cases h
theorem U2(u:Nat):gF 0 (AI u)=u/\(AI u).all (gS.contains ·)=true/\(1<=u->(AI u)[0]? ≠ some 48):=by
 have q0:∀k,k<10->(AS (48+k)).toNat=48+k:=by
  intro k hk;simp;omega
 have q4:∀k,k<10->gS.contains (AS (48+k))=true:=fun k hk=>by
  have hc:k=0\/k=1\/k=2\/k=3\/k=4\/k=5\/k=6\/k=7\/k=8\/k=9:=by omega
  rcases hc with rfl|rfl|rfl|rfl|rfl|rfl|rfl|rfl|rfl|rfl<;>rfl
 induction u using Nat.strongRecOn with
 | ind u ih=>
  rw[AI];split
  ·rename_i h;refine⟨?_,?_,fun h1 e=>?_⟩
   ·show 0*10+((AS (48+u)).toNat-48)=u;rw[q0 u h];omega
   ·simp only[FD,F2,F1];exact q4 u h
   ·have e':AS (48+u)=48:=by simpa using e
    have:=q0 u h;rw[e'] at this;have q5:(48:UInt8).toNat=48:=rfl;omega
  ·rename_i h;obtain⟨h1,h2,h3⟩:=ih (u / 10) (by omega);refine⟨?_,?_,fun _=>?_⟩
   ·have e:gF 0 (AI (u / 10)++[AS (48+u % 10)])=gF 0 (AI (u / 10))*10+((AS (48+u % 10)).toNat-48):=by unfold gF;rw[List.foldl_append];rfl
    rw[e,h1,q0 _ (by omega)];omega
   ·rw[List.all_append,h2];simp only[FD,F2,F1,Bool.true_and];exact q4 _ (by omega)
   ·have hne:=FH (u / 10);rw[List.getElem?_append_left (List.length_pos_iff.2 hne)];exact h3 (by omega)
theorem Ho(i:Nat)(h:i<=1000000000000):eZ (C1 (i:Int))=some i:=by
 have e:C1 (i:Int)=AI i:=by unfold C1;rw[if_neg (by omega)];rfl
 obtain⟨h1,h2,h3⟩:=U2 i;rw[e,OK ?_,h1]
 ·congr 1;omega
 ·rintro (h|⟨h4,h5⟩|h)
  ·exact FH i h
  ·rcases Nat.eq_zero_or_pos i with rfl|hp
   ·have:AI 0=[48]:=by rw[AI,dif_pos (by omega)];rfl
    rw[this] at h4;simp at h4
   ·exact h3 hp h5
  ·rw[h2] at h;cases h
end
theorem Qb:∀t:By,eO (Bw t)=some t
 | []=>rfl
 | c::r=>by
  have ih:=Qb r;have e:Bw (c::r)=Dd c++Bw r:=rfl;rw[e];unfold Dd;split
  ·rename_i h;subst h;show eO (126::48::Bw r)=_;rw[Eq,if_pos rfl]
   grind
  ·rename_i h;split
   ·rename_i h2;subst h2;show eO (126::49::Bw r)=_;rw[Eq,if_pos rfl]
    grind
   ·show eO (c::Bw r)=_;rw[Eq,if_neg h,ih];rfl
theorem Qc:∀t:By,∀b∈Bw t,b≠47
 | [],_,h=>by cases h
 | c::r,b,h=>by
  have e:Bw (c::r)=Dd c++Bw r:=rfl;rw[e] at h;rcases D0.1 h with h|h
  ·grind [AT,Dd]
  ·exact Qc r b h
theorem Of:∀p:List By,eU (AE p)=[]::p.map Bw
 | []=>rfl
 | t::r=>by
  have ih:=Of r;have e:AE (t::r)=47::(Bw t++AE r):=rfl;rw[e,eU,if_pos rfl];obtain⟨p,eV,h1,h2⟩:=Qu (Qc t) (AE r)
  grind
theorem KN:∀p:List By,gC (p.map Bw)=some p
 | []=>rfl
 | t::r=>by
  show (match eO (Bw t) with
   | none=>none
   | some k=>(gC (r.map Bw)).map (k :: ·))=_
  rw[Qb,KN r];rfl
theorem Kk{a b:By}(ha:Ut a)(hb:Ut b):Ut (a++b):=by
 obtain⟨cs,h1,rfl⟩:=ha;obtain⟨ds,h2,rfl⟩:=hb;exact⟨cs++ds,by grind,by grind⟩
theorem S0{b:UInt8}(h:b.toNat<128):Ut [b]:=⟨[b.toNat],fun c hc=>by rw[AT] at hc;subst hc;exact Or.inl (by omega),by
 rw[Bs,List.flatMap_nil,D1,show eY b.toNat=[AS b.toNat] from Db _ h];simp⟩
theorem Ck:∀ {s:By},(∀b∈s,b.toNat<128)->Ut s
 | [],_=>EZ
 | b::r,h=>Kk (a:=[b]) (S0 (h b (by simp))) (Ck fun c hc=>h c (by simp[hc]))
theorem Qa:∀ (cs:List Nat),(∀c∈cs,Sc c)->Ut (Bw (cs.flatMap eY))
 | [],_=>EZ
 | c::cs,h=>by
  have hc:=h c (by simp);have ih:=Qa cs fun x hx=>h x (by simp[hx]);have e:Bw ((c::cs).flatMap eY)=Bw (eY c)++Bw (cs.flatMap eY):=by rw[Bs];unfold Bw;grind
  rw[e];refine Kk ?_ ih;rcases GU hc 126 (by omega) with⟨rfl,e1⟩|⟨_,e1⟩
  ·rw[e1];exact Ck (by decide)
  ·rcases GU hc 47 (by omega) with⟨rfl,e2⟩|⟨_,e2⟩
   ·rw[e2];exact Ck (by decide)
   ·have q0:∀l:By,(∀x∈l,x≠126)->(∀x∈l,x≠47)->Bw l=l:=by
     intro l;induction l with
     | nil=>intro _ _;rfl
     | cons a r ih=>
      intro h1 h2;have e3:Bw (a::r)=Dd a++Bw r:=rfl;rw[e3,ih (fun x hx=>h1 x (by simp[hx])) (fun x hx=>h2 x (by simp[hx]))];unfold Dd;rw[if_neg (h1 a (by simp)),if_neg (h2 a (by simp))];rfl
    rw[q0 _ e1 e2];exact⟨[c],by grind,by simp⟩
theorem Jf:∀ {p:List By},(∀t∈p,Ut t)->Ut (AE p)
 | [],_=>EZ
 | t::r,h=>by
  obtain⟨cs,h1,h2⟩:=h t (by simp);have h3:Ut (Bw t):=by rw[h2];exact Qa cs h1
  exact Kk (a:=[47]) (S0 (by decide)) (Kk h3 (Jf (by grind)))
theorem VE{s:By}(h:Ut s):Lib.validD s=true:=by
 obtain⟨cs,h1,rfl⟩:=h;induction cs with
 | nil=>rfl
 | cons c cs ih=>
  have hc:=h1 c (by simp);have q0:=ih fun x hx=>h1 x (by simp[hx]);rw[Bs];by_cases hlt:c<128
  ·rw[show eY c=[AS c] from Db c hlt];show Lib.validD (AS c::cs.flatMap eY)=true;rw[Lib.validD_cons _ _ (by simp;omega),q0]
  ·obtain⟨_,h3,h4⟩:=F4 c (by omega) hc (cs.flatMap eY);have hne:eY c++cs.flatMap eY≠[]:=by
    intro e
    simp_all
   have hd:Lib.decodeL (eY c++cs.flatMap eY)=(c,(eY c).length):=by rw[Lib.decodeL_N,<- Eb _ hne];exact h3
   rw[Lib.validD_step _ hne,hd]
   grind
theorem S6{p:List By}(h:∀t∈p,Ut t):fL (AE p)=some p:=by
 unfold fL;rw[VE (Jf h),if_pos rfl,Of];exact KN p
def Iv(d x:Int)(B:Nat)(i:dX):Prop:=i.1<3/\(∀t∈i.2.1,Ut t)/\(i.1≠1->eG d x B i.2.2)
theorem Uh{i:dX}(h:i.1<3)(hu:∀t∈i.2.1,Ut t):CK (AQ i)=some (jB i):=by
 obtain⟨k,p,v⟩:=i;have ht:=S6 hu;simp only at h ht;have hk:k=0\/k=1\/k=2:=by omega
 rcases hk with rfl|rfl|rfl
 ·have e1:AH (AQ (0,p,v)) AZ=some (Ao (AE p)):=rfl;have e2:AH (AQ (0,p,v)) fF=some (Ao Kb):=rfl;have e3:AH (AQ (0,p,v)) AU=some v:=rfl;have e4:AH (AQ (0,p,v)) DG=none:=rfl;unfold CK BS;rw[e1,e2,e3,e4];show (match fL (AE p) with
   | none=>none
   | some p=>_)=_
  rw[ht];rfl
 ·have e1:AH (AQ (1,p,v)) AZ=some (Ao (AE p)):=rfl;have e2:AH (AQ (1,p,v)) fF=some (Ao Fy):=rfl;have e3:AH (AQ (1,p,v)) AU=none:=rfl;have e4:AH (AQ (1,p,v)) DG=none:=rfl;unfold CK BS;rw[e1,e2,e3,e4];show (match fL (AE p) with
   | none=>none
   | some p=>_)=_
  rw[ht];rfl
 ·have e1:AH (AQ (2,p,v)) AZ=some (Ao (AE p)):=rfl;have e2:AH (AQ (2,p,v)) fF=some (Ao EI):=rfl;have e3:AH (AQ (2,p,v)) AU=some v:=rfl;have e4:AH (AQ (2,p,v)) DG=none:=rfl;unfold CK BS;rw[e1,e2,e3,e4];show (match fL (AE p) with
   | none=>none
   | some p=>_)=_
  rw[ht];rfl
theorem KS:∀ (l:List dX) (n:Nat),(∀i∈l,i.1<3 /\ ∀t∈i.2.1,Ut t)->Cy n (l.map AQ)=.ok (l.map jB)
 | [],_,_=>rfl
 | i::l,n,h=>by
  obtain⟨h1,h2⟩:=h i (by simp);rw[List.map_cons,Cy,Uh h1 h2];simp only;rw[KS l (n+1) fun i hi=>h i (by simp[hi])];rfl
theorem ZR{d x:Int}{B:Nat}{l:List dX}(h0:1<=d)(hd:d<=500)(h:∀i∈l,Iv d x B i):dY (d+2) x top 1 (Af (l.map AQ)):=by
 have q0:∀k:Nat,Ut (AM k):=fun k=>by
  unfold AM;split
  ·exact Ck (by decide)
  ·split<;>exact Ck (by decide)
 have key:∀i∈l,dY (d+2) x 2000 2 (AQ i):=by
  intro i hi;obtain⟨h1,h2,h3⟩:=h i hi;have hs:∀s:By,Ut s->dY (d+2) x 1999 3 (Ao s):=fun s hs=>⟨by omega,A4 (Or.inl ⟨s,hs,rfl⟩)⟩
  unfold AQ;split
  ·refine⟨by omega,A4 (A4 (A4 (A4 ⟨_,?_,?_,rfl⟩)))⟩
   ·exact A5 (fun p hp=>by rw[AT] at hp;subst hp;show Ft (A1 _) (A1 _)=true;decide) (CD _ _)
   ·intro p hp;simp only[BY,CH,or_false] at hp;rcases hp with rfl|rfl
    ·exact⟨⟨_,rfl,Ck (by decide)⟩,hs _ (q0 _)⟩
    ·exact⟨⟨_,rfl,Ck (by decide)⟩,hs _ (Jf h2)⟩
  ·rename_i hk;have hf:=h3 hk;have g1:dY (d+2) x top 3 i.2.2:=Fa (s:=2) hf.gd;refine⟨by omega,A4 (A4 (A4 (A4 ⟨_,?_,?_,rfl⟩)))⟩
   ·refine A5 (fun p hp=>?_) (A5 (fun p hp=>?_) (CD _ _))
    ·simp only[BY,CH,or_false] at hp;rcases hp with rfl|rfl<;>(show Ft (A1 _) (A1 _)=true;decide)
    ·rw[AT] at hp;subst hp;show Ft (A1 _) (A1 _)=true;decide
   ·intro p hp;simp only[BY,CH,or_false] at hp;rcases hp with rfl|rfl|rfl
    ·exact⟨⟨_,rfl,Ck (by decide)⟩,hs _ (q0 _)⟩
    ·exact⟨⟨_,rfl,Ck (by decide)⟩,hs _ (Jf h2)⟩
    ·exact⟨⟨_,rfl,Ck (by decide)⟩,Ci (f:=1999) g1 (by omega)⟩
 refine⟨by omega,A4 (A4 (A4 (Or.inl ⟨_,fun e he=>?_,rfl⟩)))⟩;obtain⟨i,hi,rfl⟩:=A2.1 he;exact key i hi
theorem Vi{d x:Int}{B:Nat}{l:List dX}(h0:1<=d)(hd:d<=500)(q0:0<=x)(hx:x<=1000000)(h:∀i∈l,Iv d x B i)(hl:(Br l).length<=2000):∃P,eH (Br l) (d+2) x=(0,some P)/\DA P=.ok (l.map jB):=by
 have hg:=ZR h0 hd h;have r1:=Tq hg q0 hx [] [] (fun l=>rfl) rfl (by intro c t e;cases e) (by simpa[Br] using hl);simp only[D2,D1] at r1;exact⟨_,r1,KS l 0 fun i hi=>⟨(h i hi).1,(h i hi).2.1⟩⟩
section
variable{d x:Int}{B:Nat}
theorem J0:∀ {f:Nat} {dU:Int} {v:To},dY d x f dU v->dU+eQ f v<=d+1
 | 0,_,_,h=>h.elim
 | f+1,dU,v,⟨h0,h⟩=>by
  rcases h with⟨k,hk,rfl⟩|⟨s,hs,rfl⟩|⟨n,h1,h2,h3,rfl⟩|⟨es,h,rfl⟩|⟨es,h1,h2,rfl⟩
  ·show dU+1<=d+1;omega
  ·show dU+1<=d+1;omega
  ·show dU+1<=d+1;omega
  ·rw[Q6];have:=Em (m:=d-dU) (by omega) (l:=es.map (eQ f)) fun y hy=>by
    obtain⟨q,hq,rfl⟩:=A2.1 hy;have:=J0 (h q hq);omega
   omega
  ·rw[Q5];have:=Em (m:=d-dU) (by omega) (l:=es.map fun p=>eQ f p.2) fun y hy=>by
    obtain⟨q,hq,rfl⟩:=A2.1 hy;have:=J0 (h2 q hq).2;omega
   omega
def Ic(d x:Int)(B:Nat):To->List dX->To->Prop
 | v,[],w=>v=w
 | v,i::j,w=>eG d x B v/\Iv d x B i /\ ∃u,lF u i v/\Ic d x B u j w
theorem Ic.append:∀ {a b:List dX} {v u w:To},Ic d x B v a u->Ic d x B u b w->Ic d x B v (a++b) w
 | [],_,_,_,_,h1,h2=>by
  have q0:_=_:=h1
  grind
 | i::a,_,_,_,_,⟨h1,h2,u,h3,h4⟩,h5=>⟨h1,h2,u,h3,h4.append h5⟩
theorem Ic.iv:∀ {j:List dX} {v w:To},Ic d x B v j w -> ∀i∈j,Iv d x B i
 | [],_,_,_,_,h=>by cases h
 | i::j,_,_,⟨_,h2,_,_,h4⟩,k,hk=>by
  rcases BY.1 hk with rfl|hk
  ·exact h2
  ·exact h4.iv k hk
theorem O2(dp:Int):∀ (a b:List fO) (k:Nat) (v:To) (j:List dX),Cc dp k v j (a++b)=match Cc dp k v j a with
  | .error e=>.error e
  | .ok (u,j1)=>Cc dp (k+a.length) u j1 b
 | [],b,k,v,j=>by rw[D2,Cc];rfl
 | o::a,b,k,v,j=>by
  rw[CL,Cc,Cc];cases gW v o with
  | error c=>rfl
  | ok r=>
   obtain⟨v',j'⟩:=r;simp only;split
   ·rw[O2 dp a b (k+1) v' (j++j'),show k+1+a.length=k+(o::a).length by simp;omega]
   ·rfl
theorem QJ(i:Nat):Ut (C1 (i:Int)):=Ck fun b hb=>by
 have e:C1 (i:Int)=AI i:=by unfold C1;rw[if_neg (by omega)];rfl
 rw[e] at hb;have:=F6 i b hb;unfold fK at this;simp at this;omega
theorem GG{s:List By}{t:By}(h:∀u∈s,Ut u)(ht:Ut t):∀u∈s++[t],Ut u:=fun u hu=>by
 rcases D0.1 hu with hu|hu
 ·exact h u hu
 ·rw[AT] at hu;rw[hu];exact ht
end
section
variable{d x:Int}{B:Nat}
theorem jL{t:By}:∀ {s:List By} {v n e:To},Ah v s=.ok n->Aq n t=.ok e->Ah v (s++[t])=.ok e
 | [],v,n,e,h,hc=>by
  injection h with h;subst h;show (match Aq v t with
   | .ok e=>Ah e []
   | .error c=>.error c)=_
  rw[hc];rfl
 | a::s,v,n,e,h,hc=>by
  rw[Ah] at h;rw[CL,Ah];cases hk:Aq v a with
  | error c=>rw[hk] at h;cases h
  | ok w=>
   rw[hk] at h;exact jL h hc
theorem Iy{t:By}{i:Nat}:∀ {s:List By} {v n e:To} {q:List Nat},A8 v s=some q->Bj q v=some n->gH n t=some i->(Bi n)[i]? = some e->A8 v (s++[t])=some (q++[i])
 | [],v,n,e,q,h,h2,hp,he=>by
  injection h with h;subst h;injection h2 with h2;subst h2;show A8 v [t]=some [i];rw[A8,hp];simp only[he];rfl
 | a::s,v,n,e,q,h,h2,hp,he=>by
  rw[A8] at h;rw[CL,A8];cases hk:gH v a with
  | none=>rw[hk] at h;cases h
  | some k=>
   rw[hk] at h;simp only at h |-;cases hv:(Bi v)[k]? with
   | none=>rw[hv] at h;cases h
   | some w=>
    rw[hv] at h;simp only at h |-;obtain⟨q',q0,rfl⟩:=CR.1 h;rw[Bj,hv] at h2;rw[Iy q0 h2 hp he];rfl
theorem Io{i:Nat}{e y:To}:∀ {q:List Nat} {v n:To},Bj q v=some n->(Bi n)[i]? = some e->As (q++[i]) y v=As q (CM i y n) v
 | [],v,n,h,he=>by
  cases h;show (match (Bi v)[i]? with
   | some e=>CM i (As [] y e) v
   | none=>v)=CM i y v
  rw[he];rfl
 | k::q,v,n,h,he=>by
  rw[Bj] at h;cases hv:(Bi v)[k]? with
  | none=>rw[hv] at h;cases h
  | some w=>
   rw[hv] at h;have ih:=Io (y:=y) h he;show (match (Bi v)[k]? with
    | some e=>CM k (As (q++[i]) y e) v
    | none=>v)=(match (Bi v)[k]? with
    | some e=>CM k (As q (CM i y n) e) v
    | none=>v)
   rw[hv];simp only[ih]
theorem LX{es:List (Lit×To)}(y:To)(hs:Az es)(he:es[i]? = some (A1 k,o)):CM i y (.map es)=.map (eE (.string k) y es):=by
 show Dp (es.modify i fun p=>(p.1,y))=_;congr 1;have q0:=Ot hs i y;refine NZ q0 (Ek hs) fun j=>?_;rw[JZ hs];have hkk:=DP y es i;split
 ·rename_i e;subst e;refine BA q0 (A3 (i:=i) ?_);rw[C2,he];simp
 ·rename_i hne;rcases CP es j with⟨c,hc⟩|hn
  ·rw[BA hs hc];obtain⟨m,hm⟩:=List.mem_iff_getElem?.1 hc;have q4:i≠m:=fun e=>by
    subst e;rw[he] at hm;injection hm with hm;injection hm with hm _;injection hm with hm;exact hne hm.symm
   refine BA q0 (A3 (i:=m) ?_);rw[C2,hm];simp[q4]
  ·rw[CQ hn,CQ fun p hp e=>?_];have h1:p.1∈(es.modify i fun p=>(p.1,y)).map E0:=A2.2 ⟨p,hp,rfl⟩;rw[hkk] at h1;obtain⟨r,hr,e2⟩:=A2.1 h1;exact hn r hr (e2.trans e)
variable{s:List By}{D:To}{es:List (Lit×To)}{q:List Nat}{f:Nat}
theorem IX(hg:Aj es (.string k)=some o):Aq (.map es) k=.ok o:=by rw[M7,hg]
theorem Im(hq:A8 D s=some q):iL D s=q:=by unfold iL;rw[hq];rfl
theorem Xa(hf:Ah D s=.ok (.map es))(hq:A8 D s=some q)(hg:Aj es (.string k)=some o):CU D (s++[k])=.ok (As q (.map (eR (.string k) es)) D,[(0,s++[k],o)]):=by
 unfold CU;rw[Er];simp only[hf,IX hg,Im hq];rfl
theorem Xj(hf:Ah D s=.ok (.map es))(hq:A8 D s=some q){y:To}(hg:Aj es (.string k)=none):Cq D (s++[k]) y=.ok (As q (.map (eE (.string k) y es)) D,[(1,s++[k],.nil)]):=by
 unfold Cq;rw[Er];simp only[hf];rw[De,if_neg (WM hg),Im hq];rfl
end
end Go.Proofs.YtdpomdelmdofmaaGreatDoor
