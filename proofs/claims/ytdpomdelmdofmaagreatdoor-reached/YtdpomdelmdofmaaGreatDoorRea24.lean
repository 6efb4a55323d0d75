import Derived.Test.YtdpomdelmdofmaaGreatDoorRea23
open Or renaming inr->AI,inl->A1
open Go.Proofs.Tryz renaming prog->AS
open Go renaming Calls->AT,World->A5,bodyPost_ret->CL,Value->CR,heap_alloc_new->C2,results->FD
open Nat renaming le_refl->A2,lt_of_lt_of_le->Dt
open Go.RowKit renaming Below->A3
open List renaming mem_of_getElem?->A4,map_congr_left->A6,getElem?_map->Bs,map_cons->BY,sum_cons->CD,getElem_append_left->CH,length_append->Dp,mem_map->D0,map_map->D1,length_cons->D2,mem_filter->D3,mem_cons->Ft
open Go.World renaming cell?->C1
open Go.RowKit.Below renaming refl->DD
open Go.Maps renaming has->E0
open Prod renaming snd->F1,fst->F2
set_option maxHeartbeats 2000000
namespace Go.Proofs.YtdpomdelmdofmaaGreatDoor
open Go.Proofs.Tryz Go.RowKit Go.Maps
variable{d dU:Int}{f:Nat}{e:To}{k:By}{es:List (Lit×To)}
theorem CS{d D x:Int}(hd:d<=D):∀ {f:Nat} {dU:Int} {v:To},dY d x f dU v->dY D x f dU v
 | 0,_,_,h=>h.elim
 | f+1,dU,v,⟨h0,h⟩=>by
  refine⟨Int.le_trans h0 hd,?_⟩;rcases h with h|h|h|⟨es,h,rfl⟩|⟨es,h1,h2,rfl⟩
  ·grind
  ·grind
  ·grind
  ·exact AI (AI (AI (A1 ⟨es,fun e he=>CS hd (h e he),rfl⟩)))
  ·exact AI (AI (AI (AI ⟨es,h1,fun p hp=>⟨(h2 p hp).1,CS hd (h2 p hp).2⟩,rfl⟩)))
theorem Fa{d x s:Int}:∀ {f:Nat} {dU:Int} {v:To},dY d x f dU v->dY (d+s) x f (dU+s) v
 | 0,_,_,h=>h.elim
 | f+1,dU,v,⟨h0,h⟩=>by
  refine⟨by omega,?_⟩;have e:dU+s+1=dU+1+s:=by omega
  rcases h with h|h|h|⟨es,h,rfl⟩|⟨es,h1,h2,rfl⟩
  ·grind
  ·grind
  ·grind
  ·exact AI (AI (AI (A1 ⟨es,fun q he=>by rw[e];exact Fa (h q he),rfl⟩)))
  ·exact AI (AI (AI (AI ⟨es,h1,fun p hp=>⟨(h2 p hp).1,by rw[e];exact Fa (h2 p hp).2⟩,rfl⟩)))
theorem Fv{x:Int}:∀ {f:Nat} {dU:Int} {v:To},dY d x f dU v->dU<=d
 | 0,_,_,h=>h.elim
 | _+1,_,_,h=>h.1
theorem Ci{d x:Int}:∀ {g f:Nat} {dU:Int} {v:To},dY d x g dU v->d<dU+f->dY d x f dU v
 | 0,_,_,_,h,_=>h.elim
 | g+1,0,dU,v,⟨h0,_⟩,hf=>by omega
 | g+1,f+1,dU,v,⟨h0,h⟩,hf=>by
  refine⟨h0,?_⟩;rcases h with h|h|h|⟨es,h,rfl⟩|⟨es,h1,h2,rfl⟩
  ·grind
  ·grind
  ·grind
  ·exact AI (AI (AI (A1 ⟨es,fun q he=>Ci (h q he) (by omega),rfl⟩)))
  ·exact AI (AI (AI (AI ⟨es,h1,fun p hp=>⟨(h2 p hp).1,Ci (h2 p hp).2 (by omega)⟩,rfl⟩)))
theorem OR{d D x:Int}:∀ {f:Nat} {dU:Int} {v:To},dY D x f dU v->dU+eQ f v<=d+1->dY d x f dU v
 | 0,_,_,h,_=>h.elim
 | f+1,dU,v,⟨h0,h⟩,hd=>by
  rcases h with⟨k,hk,rfl⟩|⟨s,hs,rfl⟩|⟨n,h1,h2,h3,rfl⟩|⟨es,h,rfl⟩|⟨es,h1,h2,rfl⟩
  ·have:eQ (f+1) (AF k)=1:=rfl;exact⟨by omega,A1 ⟨k,hk,rfl⟩⟩
  ·have:eQ (f+1) (Ao s)=1:=rfl;exact⟨by omega,AI (A1 ⟨s,hs,rfl⟩)⟩
  ·have:eQ (f+1) (Bd n)=1:=rfl;exact⟨by omega,AI (AI (A1 ⟨n,h1,h2,h3,rfl⟩))⟩
  ·rw[Q6] at hd;have q0:=EP (es.map (eQ f));refine⟨by omega,AI (AI (AI (A1 ⟨es,fun q he=>OR (h q he) ?_,rfl⟩)))⟩;have:=Jl (D0.2 ⟨q,he,rfl⟩:eQ f q∈es.map (eQ f));omega
  ·rw[Q5] at hd;have q0:=EP (es.map fun p=>eQ f p.2);refine⟨by omega,AI (AI (AI (AI ⟨es,h1,fun p hp=>⟨(h2 p hp).1,OR (h2 p hp).2 ?_⟩,rfl⟩)))⟩;have:=Jl (D0.2 ⟨p,hp,rfl⟩:eQ f p.2∈es.map fun p=>eQ f p.2);omega
theorem FV{x:Int}{v:To}{i:Nat}(h:dY d x (f+1) dU v)(he:(Bi v)[i]? = some e):dY d x f (dU+1) e:=by
 obtain⟨_,h⟩:=h;rcases h with⟨k,hk,rfl⟩|⟨s,hs,rfl⟩|⟨n,h1,h2,h3,rfl⟩|⟨es,h,rfl⟩|⟨es,h1,h2,rfl⟩
 ·cases he
 ·cases he
 ·cases he
 ·exact h e (A4 he)
 ·obtain⟨p,hp,rfl⟩:=D0.1 (A4 (show (es.map F1)[i]? = some e from he))
  grind
theorem OQ{d x:Int}:∀ {p:List Nat} {f:Nat} {dU:Int} {v n:To},dY d x (f+p.length) dU v->Bj p v=some n->dY d x f (dU+p.length) n
 | [],f,dU,v,n,h,hs=>by
  grind [Bj]
 | i::r,f,dU,v,n,h,hs=>by
  have h':dY d x ((f+r.length)+1) dU v:=h;rw[Bj] at hs;cases hk:(Bi v)[i]? with
  | none=>grind
  | some e=>
   rw[hk] at hs;have ih:=OQ (FV h' hk) hs
   grind
theorem DP{α β:Type}(x:β):∀ (es:List (α×β)) (i:Nat),(es.modify i fun p=>(p.1,x)).map F2=es.map F2
 | [],i=>by simp
 | a::r,0=>by simp
 | a::r,i+1=>by simp[DP x r i]
theorem KI{α β:Type}{x:β}{q:α×β}:∀ {es:List (α×β)} {i:Nat},q∈(es.modify i fun p=>(p.1,x))->q∈es\/q.2=x /\ ∃p∈es,p.1=q.1
 | [],i,h=>by simp at h
 | a::r,0,h=>by
  grind
 | a::r,i+1,h=>by
  rw[List.modify_succ_cons] at h;rcases Ft.1 h with rfl|h
  ·grind
  ·rcases KI h with h|⟨h1,p,h2,h3⟩
   ·grind
   grind
theorem Y4{x:Int}{v:To}{i:Nat}(h:dY d x (f+1) dU v)(he:dY d x f (dU+1) e):dY d x (f+1) dU (CM i e v):=by
 obtain⟨h0,h⟩:=h;rcases h with⟨k,hk,rfl⟩|⟨s,hs,rfl⟩|⟨n,h1,h2,h3,rfl⟩|⟨es,h,rfl⟩|⟨es,h1,h2,rfl⟩
 ·exact⟨h0,A1 ⟨k,hk,rfl⟩⟩
 ·exact⟨h0,AI (A1 ⟨s,hs,rfl⟩)⟩
 ·exact⟨h0,AI (AI (A1 ⟨n,h1,h2,h3,rfl⟩))⟩
 ·refine⟨h0,AI (AI (AI (A1 ⟨es.set i e,fun q hq=>?_,rfl⟩)))⟩
  grind
 ·refine⟨h0,AI (AI (AI (AI ⟨es.modify i fun p=>(p.1,e),?_,fun q hq=>?_,rfl⟩)))⟩
  ·have h3:(es.map F2).Pairwise (fun k l=>k.before l=true):=List.pairwise_map.2 h1;rw[<- DP e es i] at h3
   grind
  ·rcases KI hq with hq|⟨rfl,p,hp,hpk⟩
   ·grind
   grind
theorem KW{d x:Int}:∀ {p:List Nat} {f:Nat} {dU:Int} {v n n':To},dY d x (f+p.length) dU v->Bj p v=some n->dY d x f (dU+p.length) n'->dY d x (f+p.length) dU (As p n' v)
 | [],f,dU,v,n,n',h,hs,hn=>by grind [As,Bj]
 | i::r,f,dU,v,n,n',h,hs,hn=>by
  have h':dY d x ((f+r.length)+1) dU v:=h;rw[Bj] at hs;cases hk:(Bi v)[i]? with
  | none=>grind
  | some e=>
   rw[hk] at hs;rw[show dU+((i::r).length:Nat)=dU+1+(r.length:Nat) by grind] at hn;show dY d x ((f+r.length)+1) dU _;rw[As,hk];exact Y4 h' (KW (FV h' hk) hs hn)
theorem Wv{α:Type}{i:Nat}{c q:α}{l:List α}(h:q∈fN i c l):q=c\/q∈l:=by
 have:=(E6 i c l).mem_iff.1 h
 grind
theorem Wx{α:Type}{i:Nat}{q:α}{l:List α}(h:q∈fC i l):q∈l:=by
 rcases List.mem_append.1 h with h|h
 ·grind
 grind
theorem QP{x:Int}{c:To}(h1:es.Pairwise (fun p q=>p.1.before q.1=true))(h2:∀p∈es,(∃s,p.1=.string s/\Ut s)/\dY d x f (dU+1) p.2)(hk:Ut k)(hc:dY d x f (dU+1) c):
  (eE (.string k) c es).Pairwise (fun p q=>p.1.before q.1=true) /\ ∀p∈eE (.string k) c es,(∃s,p.1=.string s/\Ut s)/\dY d x f (dU+1) p.2:=by
 refine⟨(Ek ⟨h1,fun p hp=>?_⟩).1,fun p hp=>?_⟩
 ·grind
 ·rcases Ft.1 ((Dl (.string k) c es).mem_iff.1 hp) with rfl|hp
  ·grind
  ·exact h2 p (D3.1 hp).1
theorem Us{x:Int}{i:Nat}{v c:To}(h:dY d x (f+1) dU v)(hk:Ut k)(hc:dY d x f (dU+1) c):dY d x (f+1) dU (FT i k c v):=by
 obtain⟨h0,h⟩:=h;rcases h with⟨j,hj,rfl⟩|⟨s,hs,rfl⟩|⟨n,h1,h2,h3,rfl⟩|⟨es,h,rfl⟩|⟨es,h1,h2,rfl⟩
 ·exact⟨h0,A1 ⟨j,hj,rfl⟩⟩
 ·exact⟨h0,AI (A1 ⟨s,hs,rfl⟩)⟩
 ·exact⟨h0,AI (AI (A1 ⟨n,h1,h2,h3,rfl⟩))⟩
 ·refine⟨h0,AI (AI (AI (A1 ⟨fN i c es,fun q hq=>?_,rfl⟩)))⟩;rcases Wv hq with rfl|hq
  ·exact hc
  grind
 ·obtain⟨h3,h4⟩:=QP h1 h2 hk hc;exact⟨h0,AI (AI (AI (AI ⟨eE (.string k) c es,h3,h4,rfl⟩)))⟩
theorem Uq{x:Int}{i:Nat}{v c:To}(h:dY d x (f+1) dU v)(hk:Ut k)(hc:dY d x f (dU+1) c):dY d x (f+1) dU (He i k c v):=by
 obtain⟨h0,h⟩:=h;rcases h with⟨j,hj,rfl⟩|⟨s,hs,rfl⟩|⟨n,h1,h2,h3,rfl⟩|⟨es,h,rfl⟩|⟨es,h1,h2,rfl⟩
 ·exact⟨h0,A1 ⟨j,hj,rfl⟩⟩
 ·exact⟨h0,AI (A1 ⟨s,hs,rfl⟩)⟩
 ·exact⟨h0,AI (AI (A1 ⟨n,h1,h2,h3,rfl⟩))⟩
 ·refine⟨h0,AI (AI (AI (A1 ⟨es.set i c,fun q hq=>?_,rfl⟩)))⟩
  grind
 ·obtain⟨h3,h4⟩:=QP h1 h2 hk hc;exact⟨h0,AI (AI (AI (AI ⟨eE (.string k) c es,h3,h4,rfl⟩)))⟩
theorem Ur{x:Int}{i:Nat}{v:To}(h:dY d x (f+1) dU v):dY d x (f+1) dU (Lr i k v):=by
 obtain⟨h0,h⟩:=h;rcases h with⟨j,hj,rfl⟩|⟨s,hs,rfl⟩|⟨n,h1,h2,h3,rfl⟩|⟨es,h,rfl⟩|⟨es,h1,h2,rfl⟩
 ·exact⟨h0,A1 ⟨j,hj,rfl⟩⟩
 ·exact⟨h0,AI (A1 ⟨s,hs,rfl⟩)⟩
 ·exact⟨h0,AI (AI (A1 ⟨n,h1,h2,h3,rfl⟩))⟩
 ·exact⟨h0,AI (AI (AI (A1 ⟨fC i es,fun q hq=>h q (Wx hq),rfl⟩)))⟩
 ·exact⟨h0,AI (AI (AI (AI ⟨eR (.string k) es,h1.filter _,fun p hp=>h2 p (D3.1 hp).1,rfl⟩)))⟩
def dT:Nat->To->Nat
 | 0,_=>0
 | f+1,d=>match d with
  | .slice es _=>2+(es.map fun e=>dT f e+1).sum
  | .map es=>2+(es.map fun p=>(Ag (strOf p.1)).length+2+dT f p.2).sum
  | d=>(dZ (f+1) d).length
theorem GH(f:Nat)(es:List To):dT (f+1) (Af es)=2+(es.map fun e=>dT f e+1).sum:=rfl
theorem CN(f:Nat)(es:List (Lit×To)):dT (f+1) (Ap es)=2+(es.map fun p=>(Ag (strOf p.1)).length+2+dT f p.2).sum:=rfl
theorem Ir{α:Type}{q r:α->Nat}:∀ {l:List α},(∀a∈l,q a<=r a)->(l.map q).sum<=(l.map r).sum
 | [],_=>A2 _
 | a::l,h=>by
  have h1:=h a (by simp);have h2:=Ir (q:=q) (r:=r) (l:=l) fun b hb=>h b (by simp[hb])
  grind
theorem Lp{α:Type}{q:α->Nat}:∀ (l:List α),(l.map fun a=>2*q a).sum=2*(l.map q).sum
 | []=>rfl
 | a::l=>by simp only[BY,CD,Lp l];omega
theorem Hn(l:List By):(Am l).length+1 ≥ (l.map fun x=>x.length+1).sum:=by
 cases l with
 | nil=>simp
 | cons x r=>grind [Am,MG]
theorem Ql(h1:es.Pairwise (fun p q=>p.1.before q.1=true))(h2:∀p∈es,∃s,p.1=.string s):es.Pairwise (fun p q=>p.1≠q.1):=by
 refine List.Pairwise.imp_of_mem ?_ h1;intro p q hp _ hb e;obtain⟨s,hs⟩:=h2 p hp;rw[<- e,hs] at hb;have h9:bytesBefore s s=true:=hb
 grind [WideAt.bytes_irrefl]
theorem V3{g:Nat}(hp:es.Pairwise (fun p q=>p.1≠q.1))(hk:∀p∈es,∃x,p.1=.string x):
  Dr g es<=(Am ((eP es).map (eX g es))).length+1:=by
 refine Nat.le_trans (Nat.le_of_eq ?_) (Hn _);rw[D1];have h1:((eP es).map ((fun x=>x.length+1) ∘ eX g es)).Perm ((fB es).map ((fun x=>x.length+1) ∘ eX g es)):=(List.mergeSort_perm _ _).map _;rw[h1.sum_nat];unfold fB Dr;rw[D1];congr 1;apply A6;intro p q0;obtain⟨x,hx⟩:=hk p q0;have h2:fT es x=p.2:=by
  unfold fT;exact WideAt.atKey_mem .nil trivial hp (by grind)
 obtain⟨k,v⟩:=p;simp only at hx h2;subst hx;simp only[Function.comp,ent,strOf];rw[iP,h2];omega
theorem BT{d x:Int}:∀ {f:Nat} {dU:Int} {v:To},dY d x f dU v->(dZ f v).length<=dT f v/\dT f v<=2*(dZ f v).length
 | 0,_,_,h=>h.elim
 | f+1,dU,v,⟨h0,h⟩=>by
  rcases h with⟨k,hk,rfl⟩|⟨s,hs,rfl⟩|⟨n,h1,h2,h3,rfl⟩|⟨es,h,rfl⟩|⟨es,h1,h2,rfl⟩
  ·have:dT (f+1) (AF k)=(dZ (f+1) (AF k)).length:=rfl;omega
  ·have:dT (f+1) (Ao s)=(dZ (f+1) (Ao s)).length:=rfl;omega
  ·have:dT (f+1) (Bd n)=(dZ (f+1) (Bd n)).length:=rfl;omega
  ·rw[GH,CV];have a1:=E9 (es.map (dZ f));have a2:=Hn (es.map (dZ f));rw[D1] at a1 a2;have b1:(es.map ((fun x=>x.length+1) ∘ dZ f)).sum<=(es.map fun e=>dT f e+1).sum:=Ir fun e he=>by
    have:=(BT (h e he)).1;grind
   have b2:(es.map fun e=>dT f e+1).sum<=(es.map fun e=>2*((fun x:By=>x.length+1) ∘ dZ f) e).sum:=Ir fun e he=>by
    have:=(BT (h e he)).2;grind
   grind [Lp,D2,Dp]
  ·have hk:∀p∈es,∃s,p.1=.string s:=fun p hp=>by
    grind
   have hne:=Ql h1 hk;rw[CN,GX];have a1:=Qx (g:=f) hne hk;have a2:=V3 (g:=f) hne hk;unfold Dr at a1 a2;have e1:(Am ((eP es).map (eX f es)))=Am (((fB es).mergeSort fun x y=>decide (x<=y)).map fun k=>Ag k++58::dZ f (fT es k)):=rfl;rw[e1] at a1 a2;have b1:(es.map (ent f)).sum<=(es.map fun p=>(Ag (strOf p.1)).length+2+dT f p.2).sum:=Ir fun p hp=>by
    have:=(BT (h2 p hp).2).1;unfold ent;omega
   have b2:(es.map fun p=>(Ag (strOf p.1)).length+2+dT f p.2).sum<=(es.map fun p=>2*ent f p).sum:=Ir fun p hp=>by
    have:=(BT (h2 p hp).2).2;unfold ent;omega
   grind [Lp,D2,Dp]
theorem G9{α:Type}{q:α->Nat}(c:α->Bool):∀ (l:List α),((l.filter c).map q).sum<=(l.map q).sum
 | []=>A2 _
 | a::r=>by
  have:=G9 (q:=q) c r
  grind
theorem Qf{α:Type}{q:α->Nat}(x:α):∀ (l:List α) (i:Nat),((l.set i x).map q).sum<=(l.map q).sum+q x
 | [],i=>by simp
 | a::r,0=>by grind
 | a::r,i+1=>by have:=Qf (q:=q) x r i;grind
theorem Lo{x:Int}{v n:To}{i:Nat}(h:dY d x (f+1) dU v)(hi:(Bi v)[i]? = some n):dT (f+1) (CM i e v)+dT f n=dT (f+1) v+dT f e:=by
 have q4:∀ {α:Type} {q:α->Nat} (y z:α) (l:List α) (i:Nat),l[i]? = some y->((l.set i z).map q).sum+q y=(l.map q).sum+q z:=by
  intro α q y z l;induction l with
  | nil=>grind
  | cons a r ih=>
   intro i h;cases i with
   | zero=>
    grind
   | succ i=>
    grind
 have q0:∀ (l:List (Lit×To)) (i:Nat),(l.map F1)[i]? = some n->((l.modify i fun p=>(p.1,e)).map fun p=>(Ag (strOf p.1)).length+2+dT f p.2).sum+dT f n=(l.map fun p=>(Ag (strOf p.1)).length+2+dT f p.2).sum+dT f e:=by
  intro l;induction l with
  | nil=>grind
  | cons a r ih=>
   grind
 obtain⟨_,h⟩:=h;rcases h with⟨k,hk,rfl⟩|⟨s,hs,rfl⟩|⟨m,h1,h2,h3,rfl⟩|⟨es,h,rfl⟩|⟨es,h1,h2,rfl⟩
 ·cases hi
 ·cases hi
 ·cases hi
 ·have q5:es[i]? = some n:=hi;have:=q4 (q:=fun e=>dT f e+1) n e es i q5;show 2+((es.set i e).map fun e=>dT f e+1).sum+_=2+(es.map fun e=>dT f e+1).sum+_;omega
 ·have:=q0 es i hi;show 2+((es.modify i fun p=>(p.1,e)).map fun p=>(Ag (strOf p.1)).length+2+dT f p.2).sum+_=2+(es.map fun p=>(Ag (strOf p.1)).length+2+dT f p.2).sum+_;omega
theorem Kn{d x:Int}:∀ {p:List Nat} {f:Nat} {dU:Int} {v n n':To},dY d x (f+p.length) dU v->Bj p v=some n->dT (f+p.length) (As p n' v)+dT f n=dT (f+p.length) v+dT f n'
 | [],f,dU,v,n,n',h,hs=>by
  injection hs with hs;subst hs;show dT (f+0) n'+dT f v=dT (f+0) v+dT f n'
  grind
 | i::r,f,dU,v,n,n',h,hs=>by
  have h':dY d x ((f+r.length)+1) dU v:=h;rw[Bj] at hs;cases hk:(Bi v)[i]? with
  | none=>grind
  | some e=>
   rw[hk] at hs;show dT ((f+r.length)+1) _+_=dT ((f+r.length)+1) _+_;rw[As,hk];have ih:=Kn (n':=n') (FV h' hk) hs;have:=Lo (e:=As r n' e) h' hk
   grind
theorem Qe(k:By)(c:To)(es:List (Lit×To)):((eE (.string k) c es).map fun p=>(Ag (strOf p.1)).length+2+dT f p.2).sum<=(es.map fun p=>(Ag (strOf p.1)).length+2+dT f p.2).sum+((Ag k).length+2+dT f c):=by
 rw[((Dl (.string k) c es).map _).sum_nat,BY,CD];have:((eR (.string k) es).map fun p=>(Ag (strOf p.1)).length+2+dT f p.2).sum<=(es.map fun p=>(Ag (strOf p.1)).length+2+dT f p.2).sum:=G9 _ es;have e:strOf (Lit.string k)=k:=rfl
 grind
theorem T9{a x q c:Nat}(h:x<=a+(q+2+c)):2+x<=2+a+c+q+2:=by omega
theorem Tc{i:Nat}{c v:To}:dT (f+1) (FT i k c v)<=dT (f+1) v+dT f c+(Ag k).length+2:=by
 unfold FT jF;split
 ·rename_i es y;show 2+((fN i c es).map fun e=>dT f e+1).sum<=2+(es.map fun e=>dT f e+1).sum+_+_+_;rw[((E6 i c es).map _).sum_nat,BY,CD];omega
 ·rename_i es;have:=Qe (f:=f) k c es;exact T9 this
 ·omega
theorem S8{i:Nat}{c v:To}:dT (f+1) (He i k c v)<=dT (f+1) v+dT f c+(Ag k).length+2:=by
 unfold He jF;split
 ·rename_i es y;have:=Qf (q:=fun e=>dT f e+1) c es i;show 2+((es.set i c).map fun e=>dT f e+1).sum<=2+(es.map fun e=>dT f e+1).sum+_+_+_;omega
 ·rename_i es;have:=Qe (f:=f) k c es;exact T9 this
 ·omega
theorem S9{i:Nat}{v:To}:dT (f+1) (Lr i k v)<=dT (f+1) v:=by
 unfold Lr jF;split
 ·rename_i es y;have h:((fC i es).map fun e=>dT f e+1).sum<=(es.map fun e=>dT f e+1).sum:=by
   by_cases hi:i<es.length
   ·rw[((Gg (List.getElem?_eq_getElem hi)).map (fun e=>dT f e+1)).sum_nat,BY,CD];omega
   ·unfold fC;rw[List.drop_eq_nil_of_le (by omega),List.append_nil,List.take_of_length_le (by omega)];omega
  show 2+((fC i es).map fun e=>dT f e+1).sum<=2+(es.map fun e=>dT f e+1).sum;omega
 ·rename_i es;have:((eR (.string k) es).map fun p=>(Ag (strOf p.1)).length+2+dT f p.2).sum<=(es.map fun p=>(Ag (strOf p.1)).length+2+dT f p.2).sum:=G9 _ es;show 2+((eR (.string k) es).map fun p=>(Ag (strOf p.1)).length+2+dT f p.2).sum<=2+(es.map fun p=>(Ag (strOf p.1)).length+2+dT f p.2).sum;omega
 ·omega
theorem GQ{v:To}:(Bi v).length<=dT (f+1) v:=by
 have h1:∀ {α:Type} {q:α->Nat} (l:List α),(∀a,1<=q a)->l.length<=(l.map q).sum:=by
  intro α q l hq;induction l with
  | nil=>simp
  | cons a r ih=>grind
 unfold Bi;split
 ·rename_i es;have:=h1 (q:=fun p:Lit×To=>(Ag (strOf p.1)).length+2+dT f p.2) es fun p=>by omega
  show (es.map F1).length<=2+(es.map fun p:Lit×To=>(Ag (strOf p.1)).length+2+dT f p.2).sum
  grind
 ·rename_i es y;have:=h1 (q:=fun e:To=>dT f e+1) es fun p=>by omega
  show es.length<=2+(es.map fun e:To=>dT f e+1).sum;omega
 ·simp
theorem NQ{d x:Int}:∀ {p:List Nat} {f:Nat} {dU:Int} {v n:To},dY d x (f+p.length) dU v->Bj p v=some n->dT f n<=dT (f+p.length) v
 | [],f,dU,v,n,h,hs=>by
  grind [Bj]
 | i::r,f,dU,v,n,h,hs=>by
  have h':dY d x ((f+r.length)+1) dU v:=h;rw[Bj] at hs;cases hk:(Bi v)[i]? with
  | none=>grind
  | some e=>
   rw[hk] at hs;have ih:=NQ (FV h' hk) hs;have h1:=Lo (e:=.nil) h' hk;have h2:dT (f+r.length) (.nil:To)=0:=by cases f+r.length<;>rfl
   grind
theorem Fs{d x:Int}:∀ {f g:Nat} {dU:Int} {v:To},dY d x f dU v->f<=g->dT g v=dT f v
 | 0,_,_,_,h,_=>h.elim
 | f+1,0,_,_,_,h=>by omega
 | f+1,g+1,dU,v,⟨h0,h⟩,hg=>by
  rcases h with⟨k,hk,rfl⟩|⟨s,hs,rfl⟩|⟨n,h1,h2,h3,rfl⟩|⟨es,h,rfl⟩|⟨es,h1,h2,rfl⟩
  ·rfl
  ·rfl
  ·rfl
  ·rw[GH,GH];congr 2;exact A6 fun e he=>by rw[Fs (h e he) (by omega)]
  ·rw[CN,CN];congr 2;exact A6 fun p hp=>by rw[Fs (h2 p hp).2 (by omega)]
theorem KM{w:A5}{u:CR}{n:dS}{t:By}{d:To}(h:Ad (f+1) w u n)(hc:Aq (dV (f+1) n) t=.ok d):
  ∃i c x,gH (dV (f+1) n) t=some i/\(AJ n)[i]? = some c/\dV f c=d/\Ad f w x c:=by
 have h0:=h;obtain⟨b,g,x,rfl,rfl,h⟩:=h;rcases h with⟨k,hk,_,rfl,h⟩|⟨m,_,rfl,h,q7⟩|⟨s,_,rfl,h⟩|⟨al,sl,ps,rfl,h,ho,hs,ha⟩|⟨es,m,D,rfl,h,ho,hp⟩
 ·rw[VJ] at hc;cases hc
 ·rw[Yg] at hc;cases hc
 ·rw[Ye] at hc;cases hc
 ·rw[Bq] at hc;obtain⟨i,h1,h2,h3⟩:=Ij hc;rw[Bs] at h2;obtain⟨c,q4,q6⟩:=Option.map_eq_some_iff.1 h2;obtain⟨y,hy⟩:=ha.right (A4 q4);exact⟨i,c,y,h3,q4,q6,hy⟩
 ·have hh:E0 (.map D:DataW CR) (.string t)=E0 (.map (es.map fun p=>(p.1,dV f p.2)):DataW Unit) (.string t):=
   (Pt.mapR (P:=fun _ _=>True) (q:=dV f) (hp.mono fun _ _ _=>trivial)).has _
  have q5:Aq (dV (f+1) (dW b g (.map es))) t=(if E0 (.map D:DataW CR) (.string t) then .ok ((DataW.map (es.map fun p=>(p.1,dV f p.2))).atKey (.string t) .nil) else .error 11):=by
   rw[hh];rfl
  rw[q5] at hc;by_cases q0:E0 (.map D:DataW CR) (.string t)=true
  ·rw[if_pos q0] at hc;injection hc with hc;obtain⟨i,key,c,x,e1,e2,e3,e4,e5⟩:=hp.first (.string t) q0
   refine⟨i,c,x,?_,?_,?_,e5⟩
   ·rw[AX];unfold gH Ap;simp only;rw[List.findIdx?_map];exact e1
   ·rw[BH,Bs,e2];rfl
   ·rw[<- hc,B2,List.find?_map,show ((fun p=>p.1.sameKey (.string t)) ∘ fun p:Lit×dS=>(p.1,dV f p.2))=fun p=>p.1.sameKey (.string t) from rfl,e3];rfl
  grind
theorem BQ(t:By):∀ (s:List By) (d:To),Ah d (s++[t])=(match Ah d s with | .ok n=>Aq n t | .error c=>.error c)
 | [],d=>by
  show (match Aq d t with | .ok e=>Except.ok e | .error c=>.error c)=Aq d t
  grind
 | u::s,d=>by
  rw[List.cons_append,Ah,Ah];cases Aq d u with
  | ok e=>exact BQ t s e
  | error c=>rfl
theorem CG{w:A5}{v:CR}{d:To}:∀ {s:List By} {fa:Nat} {a:dS},Ad fa w v a->Ah (dV fa a) s=.ok d ->
  ∃f q n u,f+1+q.length=fa/\eD q a=some n/\Ad (f+1) w u n/\dV (f+1) n=d/\A8 (dV fa a) s=some q:=by
 intro s fa a h hf
 suffices H:∀ (k:Nat) (s:List By) (d:To),s.length=k->Ah (dV fa a) s=.ok d -> ∃f q n u,f+1+q.length=fa/\eD q a=some n/\Ad (f+1) w u n/\dV (f+1) n=d/\A8 (dV fa a) s=some q from H _ s d rfl hf
 intro k;induction k with
 | zero=>
  intro s d hl hf;obtain rfl:s=[]:=by grind
  injection hf with hf;cases fa with
  | zero=>exact h.elim
  | succ fa=>exact⟨fa,[],a,v,rfl,rfl,h,hf,rfl⟩
 | succ k ih=>
  intro s d hl hf;obtain⟨s0,t,rfl⟩:∃s0 t,s=s0++[t]:=⟨s.dropLast,s.getLast (by grind),(List.dropLast_concat_getLast _).symm⟩
  rw[BQ] at hf;cases hs:Ah (dV fa a) s0 with
  | error c=>grind
  | ok n'=>
   rw[hs] at hf;obtain⟨f,q,n,u,h1,h2,h3,rfl,h5⟩:=ih s0 n' (by grind) hs;obtain⟨i,c,x,e1,e2,e3,e4⟩:=KM h3 hf;cases f with
   | zero=>exact e4.elim
   | succ f=>
    have q0:Bj q (dV fa a)=some (dV (f+1+1) n):=by
     rw[<- h1];exact Ha (f:=f+1+1) (by rw[h1];exact h) h2
    refine⟨f,q++[i],c,x,by simp;omega,Hb e2 h2,e4,e3,?_⟩;exact Ix e1 (show (Bi (dV (f+1+1) n))[i]? = some (dV (f+1) c) by rw[DQ h3,Bs,e2];rfl) h5 q0
theorem LV{fa:Nat}{a n:dS}{w:A5}{v pv u:CR}{l:List By}{q:List Nat}{d:To}(hl:∀t∈l,t.length<=1048576)(hn:l.length<=1048576)(hr:Rng w)(h:Ad fa w v a)(hp:CW w pv l)(hf:Ah (dV fa a) l=.ok d)(hs:eD q a=some n)(hu:Ad (f+1) w u n)(hpos:A8 (dV fa a) l=some q):
  AT AS 81 #[pv,v] w fun e w'=>e=.returned (.tuple #[u,.int .i64 0])/\A3 w.heap.size w w':=by
 refine (XQ hl hn hr h hp).mono ?_;rintro e w' ⟨ho,hb⟩;refine⟨?_,hb⟩;rw[hf] at ho;obtain⟨u2,rfl,_,f2,p2,n2,h1,h2,h3,h4,h5⟩:=ho;rw[hpos] at h5;injection h5 with h5;subst h5;rw[hs] at h2;injection h2 with h2;subst h2;obtain rfl:=h3.uniq hu;rfl
theorem Kf{fa c:Nat}{a:dS}{w:A5}{v pv:CR}{l:List By}(hl:∀t∈l,t.length<=1048576)(hn:l.length<=1048576)(hr:Rng w)(h:Ad fa w v a)(hp:CW w pv l)(hf:Ah (dV fa a) l=.error c):
  AT AS 81 #[pv,v] w fun e w'=>e=.returned (.tuple #[.pointer none,.int .i64 c])/\A3 w.heap.size w w':=by
 refine (XQ hl hn hr h hp).mono ?_;rintro e w' ⟨ho,hb⟩;refine⟨?_,hb⟩;rw[hf] at ho;exact ho
theorem CX.bel{w w':A5}{D R:Nat}{wp jn iv:CR}{ch:Bool}{T a:dS}{x:To}(h:CX w D R wp jn iv ch T a x)(hb:A3 w.heap.size w w'):CX w' D R wp jn iv ch T a x:=
 h.move (hb.block D h.db.lt) fun k hk=>hb.block k (h.tr.lt k hk)
structure JS(w:A5)(D R:Nat)(wp:Option Addr)(jn iv:CR)(ch:Bool)(Tb:dS)(Mb:Nat->Prop)(wb:A5)(T a:dS)(v:To)(M:Nat->Prop)(js:List dX):Prop where
 j:Bv (top+1) w D (.pointer (some ⟨R,0,none⟩)) jn iv ch Tb Mb wb T M js
 t:CX w D R (.pointer wp) jn iv ch T a v
section
variable{w w':A5}{D R:Nat}{wp:Option Addr}{jn iv:CR}{ch:Bool}{Tb T a:dS}{Mb M:Nat->Prop}{wb:A5}{v:To}{js:List dX}
theorem JS.of{g:Nat}{a1:dS}(hJ:Bv (top+1) w D (.pointer (some ⟨R,0,none⟩)) jn iv ch Tb Mb wb T M js)(e:er (top+1) T=er (top+1) (dW R g (.slice [a1] []))):
  ∃wp a,JS w D R wp jn iv ch Tb Mb wb T a (dV top a1) M js:=by
 obtain⟨g',q0,rfl,e2⟩:=hJ.tr.er_arr e;obtain⟨a,rfl⟩:∃a,q0=[a]:=List.length_eq_one_iff.1 (by have:=congrArg List.length e2;simpa using this)
 ·have e3:er top a=er top a1:=by
   have:=congrArg (fun l:List dS=>l[0]?) e2;simpa using this
  obtain⟨xs,cs,g1,_⟩:=hJ.ex;obtain⟨u,hu⟩:∃u,Ad top w u a:=Ad.at (f:=top) (p:=[0]) hJ.tr rfl;obtain⟨b,rfl,_⟩:=hu.ptr;exact⟨some ⟨b,0,none⟩,a,hJ,⟨g1,hJ.tr,⟨g',rfl⟩,hu,by rw[<- E4,e3,E4],hJ.nd,hJ.dD.1⟩⟩
theorem JS.bel(h:JS w D R wp jn iv ch Tb Mb wb T a v M js)(hb:A3 w.heap.size w w'):JS w' D R wp jn iv ch Tb Mb wb T a v M js:=⟨(h.j.bel hb).1,h.t.bel hb⟩
theorem JS.grow(h:JS w D R wp jn iv ch Tb Mb wb T a v M js)(hb:A3 w.heap.size w w')(X:Nat->Prop)(hX:∀k,X k->w.heap.size<=k/\k<w'.heap.size):
  JS w' D R wp jn iv ch Tb Mb wb T a v (fun k=>M k\/X k) js/\JEx M (fun k=>M k\/X k) w w':=⟨⟨(h.j.grow hb X hX).1,h.t.bel hb⟩,(h.j.grow hb X hX).2⟩
theorem IA{g o n cap:Nat}{t:By}{s:List By}{q:List Nat}{m:dS}{u:Option Addr}{d:To}(h:JS w D R wp jn iv ch Tb Mb wb T a v M js)(hr:Rng w)(hp:C7 w g o (s++[t]))(hn:s.length=n)(hc:n+1<=cap)(q0:cap<=maxLen)(hl:∀t∈s,t.length<=1048576)(hnl:n<=1048576)(hf:Ah v s=.ok d)(hs:eD q a=some m)(hu:Ad (f+1) w (.pointer u) m)(hpos:A8 v s=some q):
  AT AS 243 #[.pointer (some ⟨D,0,none⟩),.slice (some ⟨g,o,none⟩) (n+1) cap] w fun e w'=>e=.returned (.tuple #[.pointer u,.string ⟨t.toArray⟩,.int .i64 0])/\A3 w.heap.size w w':=by
 subst hn;have hv:=h.t.str;subst hv;refine (JE (t:=t) (wp:=wp) (R:=fun _ x c=>x=u/\c=0) hc q0 hp.1 ?_ (fun w1 hb1=>Dw (h.t.bel hb1)) (fun w1 hb1=>?_)).mono ?_
 ·rw[hp.2 s.length (by simp)];simp
 ·refine (LV hl hnl (hr.kept hb1) (h.t.bel hb1).sub (AI ⟨g,o,cap,rfl,by omega,q0,Dt hp.1 hb1.size,fun k hk=>?_⟩) hf hs (hu.bel hb1) hpos).mono ?_
  ·have h1:=hp.2 k (by simp;omega);rw[(hb1.cell (p:=⟨g,o+k,none⟩) hp.1).trans h1,CH hk]
  ·rintro e w' ⟨rfl,hb⟩;exact⟨u,0,rfl,⟨rfl,rfl⟩,hb⟩
 ·rintro e w' ⟨x,c,rfl,⟨w2,⟨rfl,rfl⟩,_⟩,hb⟩;exact⟨rfl,hb⟩
theorem Ky{g o n cap c:Nat}{t:By}{s:List By}(h:JS w D R wp jn iv ch Tb Mb wb T a v M js)(hr:Rng w)(hp:C7 w g o (s++[t]))(hn:s.length=n)(hc:n+1<=cap)(q0:cap<=maxLen)(hl:∀t∈s,t.length<=1048576)(hnl:n<=1048576)(hf:Ah v s=.error c):
  AT AS 243 #[.pointer (some ⟨D,0,none⟩),.slice (some ⟨g,o,none⟩) (n+1) cap] w fun e w'=>e=.returned (.tuple #[.pointer none,.string ⟨t.toArray⟩,.int .i64 c])/\A3 w.heap.size w w':=by
 subst hn;have hv:=h.t.str;subst hv;refine (JE (t:=t) (wp:=wp) (R:=fun _ x c'=>x=none/\c'=c) hc q0 hp.1 ?_ (fun w1 hb1=>Dw (h.t.bel hb1)) (fun w1 hb1=>?_)).mono ?_
 ·rw[hp.2 s.length (by simp)];simp
 ·refine (Kf hl hnl (hr.kept hb1) (h.t.bel hb1).sub (AI ⟨g,o,cap,rfl,by omega,q0,Dt hp.1 hb1.size,fun k hk=>?_⟩) hf).mono ?_
  ·have h1:=hp.2 k (by simp;omega);rw[(hb1.cell (p:=⟨g,o+k,none⟩) hp.1).trans h1,CH hk]
  ·rintro e w' ⟨rfl,hb⟩;exact⟨none,c,rfl,⟨rfl,rfl⟩,hb⟩
 ·rintro e w' ⟨x,c',rfl,⟨w2,⟨rfl,rfl⟩,_⟩,hb⟩;exact⟨rfl,hb⟩
end
abbrev plZ:CR:=.agg #[.slice none 0 0,.pointer none,.string ⟨#[]⟩,.int .i64 0]
def ZB(w:A5)(g:Nat):Prop:=w.heap[g]? = some (.cells #[.slice none 0 0,.pointer none,.string ⟨#[]⟩,.int .i64 0] 185 (0,0))
section
variable{w:A5}{g:Nat}
theorem ZB.lt(h:ZB w g):g<w.heap.size:=(Array.getElem?_eq_some_iff.1 h).1
theorem ZB.c0(h:ZB w g):w.cell? ⟨g,0,none⟩=some (.slice none 0 0):=by simp[C1,show w.heap[g]? = _ from h]
theorem ZB.c1(h:ZB w g):w.cell? ⟨g,1,none⟩=some (.pointer none):=by simp[C1,show w.heap[g]? = _ from h]
theorem ZB.c2(h:ZB w g):w.cell? ⟨g,2,none⟩=some (.string ⟨#[]⟩):=by simp[C1,show w.heap[g]? = _ from h]
theorem ZB.c3(h:ZB w g):w.cell? ⟨g,3,none⟩=some (.int .i64 0):=by simp[C1,show w.heap[g]? = _ from h]
theorem ZB.fz(h:ZB w g)(o:Nat):w.frozen? ⟨g,o,none⟩=false:=by simp[World.frozen?,show w.heap[g]? = _ from h]
theorem ZB.low{w':A5}(h:ZB w g)(hb:A3 w.heap.size w w'):ZB w' g:=(hb.block g h.lt).trans h
end
theorem Hw{B:Nat}{w w':A5}(h:A3 B w w')(b:Nat)(hb:B<=b)(x0 x1 x2 x3:CR):A3 B w ((((w'.setCell ⟨b,0,none⟩ x0).setCell ⟨b,1,none⟩ x1).setCell ⟨b,2,none⟩ x2).setCell ⟨b,3,none⟩ x3):=
 Au (Au (Au (Au h b _ hb _) b _ hb _) b _ hb _) b _ hb _
section
variable{w:A5}{D R g o n cap:Nat}{jn iv:CR}{ch:Bool}{t:By}{x y:Option Addr}{c c2:Nat}
theorem Ss{a:Option Addr}(hd:DB w D (.pointer (some ⟨R,0,none⟩)) jn ch iv):
  AT AS 198 #[.pointer (some ⟨D,0,none⟩),.slice a 0 cap] w fun e w'=>e=.returned (.tuple #[plV (.slice none 0 0) R [] 0,.int .i64 0])/\A3 w.heap.size w w':=by
 have q4:=hd.lt;have q0:∀o,(w.alloc o).cell? ⟨D,0,none⟩=some (.pointer (some ⟨R,0,none⟩)):=fun o=>(World.cell?_of_block (w:=w) (Below.heap_alloc w o D q4)).trans hd.c0;have d0:=q0 (.cells #[.slice none 0 0,.pointer none,.string ⟨#[]⟩,.int .i64 0] 185);clear hd q0
 go_enter func198,ntmps198
 go_wp2_with (fail);refine CL (v:=.tuple #[plV (.slice none 0 0) R [] 0,.int .i64 0]) (by simp[FD,results198,go_sem]) rfl ⟨rfl,?_⟩
 exact (DD _ _).alloc (A2 _) _
theorem Sr(hc:c≠0)(hP:∀w1,A3 w.heap.size w w1->AT AS 243 #[.pointer (some ⟨D,0,none⟩),.slice (some ⟨g,o,none⟩) (n+1) cap] w1 fun e w'=>e=.returned (.tuple #[.pointer x,.string ⟨t.toArray⟩,.int .i64 c])/\A3 w1.heap.size w1 w'):
  AT AS 198 #[.pointer (some ⟨D,0,none⟩),.slice (some ⟨g,o,none⟩) (n+1) cap] w fun e w'=>e=.returned (.tuple #[plZ,.int .i64 c])/\A3 w.heap.size w w':=by
 have HP:=Ab hP;have q0:ZB (w.alloc (.cells #[.slice none 0 0,.pointer none,.string ⟨#[]⟩,.int .i64 0] 185)) w.heap.size:=C2 w _;have q4:=Ab ((DD w.heap.size w).alloc (A2 _) (.cells #[.slice none 0 0,.pointer none,.string ⟨#[]⟩,.int .i64 0] 185));have HZ:=Ab q0;have e1:¬ ((n:Int)+1=0):=by omega
 have e2:((c:Int) != 0)=true:=by rw[bne_iff_ne];omega
 have e3:((c:Int)==0)=false:=by rw[beq_eq_false_iff_ne];omega
 have hs:w.heap.size<(w.alloc (.cells #[.slice none 0 0,.pointer none,.string ⟨#[]⟩,.int .i64 0] 185)).heap.size:=q0.lt;clear hP q0
 go_enter func198,ntmps198
 go_wp2_with (fail);generalize w.alloc (.cells #[.slice none 0 0,.pointer none,.string ⟨#[]⟩,.int .i64 0] 185)=wa at *
 refine (Aa HP wa (Aa q4)).mono ?_;rintro e w2 ⟨rfl,hb⟩;have h2:=(Aa HZ).low hb;have g0:=h2.c0;have g1:=h2.c1;have g2:=h2.c2;have g3:=h2.c3;have z:=h2.fz;have HB:=Ab ((Aa q4).trans (hb.mono (by omega)));clear h2 hb
 go_wp2_with (fail);refine CL (v:=.tuple #[plZ,.int .i64 c]) (by simp[FD,results198,go_sem,g0,g1,g2,g3]) rfl ⟨rfl,Hw (Aa HB) _ (A2 _) _ _ _ _⟩
theorem Su(hc:c≠0)(hP:∀w1,A3 w.heap.size w w1->AT AS 243 #[.pointer (some ⟨D,0,none⟩),.slice (some ⟨g,o,none⟩) (n+1) cap] w1 fun e w'=>e=.returned (.tuple #[.pointer x,.string ⟨t.toArray⟩,.int .i64 0])/\A3 w1.heap.size w1 w')(hK:∀w1,A3 w.heap.size w w1->AT AS 111 #[.pointer x,.string ⟨t.toArray⟩] w1 fun e w'=>e=.returned (.tuple #[.pointer y,.int .i64 c])/\A3 w1.heap.size w1 w'):
  AT AS 198 #[.pointer (some ⟨D,0,none⟩),.slice (some ⟨g,o,none⟩) (n+1) cap] w fun e w'=>e=.returned (.tuple #[plZ,.int .i64 c])/\A3 w.heap.size w w':=by
 have HP:=Ab hP;have HK:=Ab hK;have q0:ZB (w.alloc (.cells #[.slice none 0 0,.pointer none,.string ⟨#[]⟩,.int .i64 0] 185)) w.heap.size:=C2 w _;have q4:=Ab ((DD w.heap.size w).alloc (A2 _) (.cells #[.slice none 0 0,.pointer none,.string ⟨#[]⟩,.int .i64 0] 185));have HZ:=Ab q0;have e1:¬ ((n:Int)+1=0):=by omega
 have e2:((c:Int) != 0)=true:=by rw[bne_iff_ne];omega
 have e3:((c:Int)==0)=false:=by rw[beq_eq_false_iff_ne];omega
 have hs:w.heap.size<(w.alloc (.cells #[.slice none 0 0,.pointer none,.string ⟨#[]⟩,.int .i64 0] 185)).heap.size:=q0.lt;clear hP hK q0
 go_enter func198,ntmps198
 go_wp2_with (fail);generalize w.alloc (.cells #[.slice none 0 0,.pointer none,.string ⟨#[]⟩,.int .i64 0] 185)=wa at *
 refine (Aa HP wa (Aa q4)).mono ?_;rintro e w2 ⟨rfl,hb⟩;have h2:=(Aa HZ).low hb;have q6:=Ab h2;have hs2:w.heap.size<w2.heap.size:=h2.lt;have HB:=Ab ((Aa q4).trans (hb.mono (by omega)));clear h2 hb
 go_wp2_with (fail);refine (Aa HK w2 (Aa HB)).mono ?_
 rintro e w3 ⟨rfl,hb⟩;have h2:=(Aa q6).low hb;have g0:=h2.c0;have g1:=h2.c1;have g2:=h2.c2;have g3:=h2.c3;have z:=h2.fz;have q5:=Ab ((Aa HB).trans (hb.mono (by omega)));clear h2 hb
 go_wp2_with (fail);refine CL (v:=.tuple #[plZ,.int .i64 c]) (by simp[FD,results198,go_sem,g0,g1,g2,g3]) rfl ⟨rfl,Hw (Aa q5) _ (A2 _) _ _ _ _⟩
theorem U3{b:Nat}{io:Option Nat}(hP:∀w1,A3 w.heap.size w w1->AT AS 243 #[.pointer (some ⟨D,0,none⟩),.slice (some ⟨g,o,none⟩) (n+1) cap] w1 fun e w'=>e=.returned (.tuple #[.pointer (some ⟨b,0,none⟩),.string ⟨t.toArray⟩,.int .i64 0])/\A3 w1.heap.size w1 w')(hK:∀w1,A3 w.heap.size w w1->AT AS 111 #[.pointer (some ⟨b,0,none⟩),.string ⟨t.toArray⟩] w1 fun e w'=>(∃y,e=.returned (.tuple #[.pointer y,.int .i64 0]))/\A3 w1.heap.size w1 w')(hI:∀w1,A3 w.heap.size w w1->AT AS 147 #[.string ⟨t.toArray⟩] w1 fun e w'=>e=.returned (Fm io)/\A3 w1.heap.size w1 w'):
  AT AS 198 #[.pointer (some ⟨D,0,none⟩),.slice (some ⟨g,o,none⟩) (n+1) cap] w fun e w'=>e=.returned (.tuple #[plV (.slice (some ⟨g,o,none⟩) (n+1) cap) b t (io.getD 0),.int .i64 0])/\A3 w.heap.size w w':=by
 obtain⟨i,bo,q0⟩:∃ (i:Nat) (bo:Bool),Fm io=.tuple #[.int .i64 i,.bool bo]/\io.getD 0=i:=by
  cases io with
  | none=>exact⟨0,false,rfl,rfl⟩
  | some i=>exact⟨i,true,rfl,rfl⟩
 rw[q0.1] at hI;rw[q0.2];clear q0;have HP:=Ab hP;have HK:=Ab hK;have HI:=Ab hI;have q4:ZB (w.alloc (.cells #[.slice none 0 0,.pointer none,.string ⟨#[]⟩,.int .i64 0] 185)) w.heap.size:=C2 w _;have q6:=Ab ((DD w.heap.size w).alloc (A2 _) (.cells #[.slice none 0 0,.pointer none,.string ⟨#[]⟩,.int .i64 0] 185));have HZ:=Ab q4;have e1:¬ ((n:Int)+1=0):=by omega
 have hs:w.heap.size<(w.alloc (.cells #[.slice none 0 0,.pointer none,.string ⟨#[]⟩,.int .i64 0] 185)).heap.size:=q4.lt;clear hP hK hI q4
 go_enter func198,ntmps198
 go_wp2_with (fail);generalize w.alloc (.cells #[.slice none 0 0,.pointer none,.string ⟨#[]⟩,.int .i64 0] 185)=wa at *
 refine (Aa HP wa (Aa q6)).mono ?_;rintro e w2 ⟨rfl,hb⟩;have h2:=(Aa HZ).low hb;have q8:=Ab h2;have hs2:w.heap.size<w2.heap.size:=h2.lt;have HB:=Ab ((Aa q6).trans (hb.mono (by omega)));clear h2 hb
 go_wp2_with (fail);refine (Aa HK w2 (Aa HB)).mono ?_
 rintro e w3 ⟨⟨y,rfl⟩,hb⟩;have h2:=(Aa q8).low hb;have q9:=Ab h2;have qb:w.heap.size<w3.heap.size:=h2.lt;have q5:=Ab ((Aa HB).trans (hb.mono (by omega)));clear h2 hb
 go_wp2_with (fail);refine (Aa HI w3 (Aa q5)).mono ?_
 rintro e w4 ⟨rfl,hb⟩;have h2:=(Aa q9).low hb;have g0:=h2.c0;have g1:=h2.c1;have g2:=h2.c2;have g3:=h2.c3;have z:=h2.fz;have q7:=Ab ((Aa q5).trans (hb.mono (by omega)));clear h2 hb
 go_wp2_with (fail);refine CL (v:=.tuple #[plV (.slice (some ⟨g,o,none⟩) (n+1) cap) b t i,.int .i64 0]) (by simp[FD,results198,go_sem,g0,g1,g2,g3]) rfl ⟨rfl,Hw (Aa q7) _ (A2 _) _ _ _ _⟩
end
section
variable{w:A5}{D R g o n cap b i:Nat}{t:By}{y:Option Addr}{c:Nat}{Q1 Q2 Q3:Option Addr->A5->Prop}{Q4:Option Addr->Nat->Nat->A5->Prop}{Q:A5->Prop}
theorem Xm{a:Option Addr}(hC:AT AS 201 #[.pointer y] w fun e w'=>∃x,e=.returned (.pointer x)/\Hid (Q1 x w'))(hR:∀x w1,Q1 x w1->w1.cell? ⟨D,0,none⟩=some (.pointer (some ⟨R,0,none⟩)))(hP:∀x w1,Q1 x w1->AT AS 160 #[.pointer (some ⟨D,0,none⟩),plV (.slice none 0 0) R [] 0,.pointer x] w1 fun e w'=>e=.returned (.tuple #[])/\Q w'):
  AT AS 197 #[.pointer (some ⟨D,0,none⟩),.slice a 0 cap,.pointer y] w fun e w'=>e=.returned (.int .i64 0)/\Q w':=by
 have HC:=Ab hC;have HR:=Ab hR;have HP:=Ab hP;clear hC hR hP
 go_enter func197,ntmps197
 go_wp2_with (fail);refine (Aa HC).mono ?_
 rintro e w1 ⟨x,rfl,hq⟩;have c0:=Aa HR x w1 (Aa hq)
 go_wp2_with (fail);refine (Aa HP x w1 (Aa hq)).mono ?_
 rintro e w2 ⟨rfl,q0⟩;have q4:=Ab q0;clear q0
 go_wp2_with (fail)
 go_ret;exact⟨rfl,Aa q4⟩
theorem Xl(hc:c≠0)(hC:AT AS 201 #[.pointer y] w fun e w'=>∃x,e=.returned (.pointer x)/\Hid (Q1 x w'))(hP:∀x w1,Q1 x w1->AT AS 243 #[.pointer (some ⟨D,0,none⟩),.slice (some ⟨g,o,none⟩) (n+1) cap] w1 fun e w'=>e=.returned (.tuple #[.pointer none,.string ⟨t.toArray⟩,.int .i64 c])/\Q w'):
  AT AS 197 #[.pointer (some ⟨D,0,none⟩),.slice (some ⟨g,o,none⟩) (n+1) cap,.pointer y] w fun e w'=>e=.returned (.int .i64 c)/\Q w':=by
 have HC:=Ab hC;have HP:=Ab hP;have e1:¬ ((n:Int)+1=0):=by omega
 have e2:((c:Int) != 0)=true:=by rw[bne_iff_ne];omega
 have e3:((c:Int)==0)=false:=by rw[beq_eq_false_iff_ne];omega
 clear hC hP hc
 go_enter func197,ntmps197
 go_wp2_with (fail);refine (Aa HC).mono ?_
 rintro e w1 ⟨x,rfl,hq⟩
 go_wp2_with (fail);refine (Aa HP x w1 (Aa hq)).mono ?_
 rintro e w2 ⟨rfl,q0⟩;have q4:=Ab q0;clear q0
 go_wp2_with (fail)
 go_ret;exact⟨rfl,Aa q4⟩
theorem Pd(hC:AT AS 201 #[.pointer y] w fun e w'=>∃x,e=.returned (.pointer x)/\Hid (Q1 x w'))(hP:∀x w1,Q1 x w1->AT AS 243 #[.pointer (some ⟨D,0,none⟩),.slice (some ⟨g,o,none⟩) (n+1) cap] w1 fun e w'=>e=.returned (.tuple #[.pointer (some ⟨b,0,none⟩),.string ⟨t.toArray⟩,.int .i64 0])/\Q2 x w')(hK:∀x w2,Q2 x w2->w2.cell? ⟨b,0,none⟩=some (.int .i64 6))(hU:∀x w2,Q2 x w2->AT AS 160 #[.pointer (some ⟨D,0,none⟩),plV (.slice (some ⟨g,o,none⟩) (n+1) cap) b t 0,.pointer x] w2 fun e w'=>e=.returned (.tuple #[])/\Q w'):
  AT AS 197 #[.pointer (some ⟨D,0,none⟩),.slice (some ⟨g,o,none⟩) (n+1) cap,.pointer y] w fun e w'=>e=.returned (.int .i64 0)/\Q w':=by
 have HC:=Ab hC;have HP:=Ab hP;have HK:=Ab hK;have HU:=Ab hU;have e1:¬ ((n:Int)+1=0):=by omega
 clear hC hP hK hU
 go_enter func197,ntmps197
 go_wp2_with (fail);refine (Aa HC).mono ?_
 rintro e w1 ⟨x,rfl,hq⟩
 go_wp2_with (fail);refine (Aa HP x w1 (Aa hq)).mono ?_
 rintro e w2 ⟨rfl,q0⟩;have q5:=Ab q0;have c0:=Aa HK x w2 q0;clear q0
 go_wp2_with (fail);refine (Aa HU x w2 (Aa q5)).mono ?_
 rintro e w3 ⟨rfl,q4⟩;have q6:=Ab q4;clear q4
 go_wp2_with (fail)
 go_ret;exact⟨rfl,Aa q6⟩
theorem IU{k:Int}(h5:k≠5)(h6:k≠6)(hC:AT AS 201 #[.pointer y] w fun e w'=>∃x,e=.returned (.pointer x)/\Hid (Q1 x w'))(hP:∀x w1,Q1 x w1->AT AS 243 #[.pointer (some ⟨D,0,none⟩),.slice (some ⟨g,o,none⟩) (n+1) cap] w1 fun e w'=>e=.returned (.tuple #[.pointer (some ⟨b,0,none⟩),.string ⟨t.toArray⟩,.int .i64 0])/\Q w')(hK:∀w2,Q w2->w2.cell? ⟨b,0,none⟩=some (.int .i64 k)):
  AT AS 197 #[.pointer (some ⟨D,0,none⟩),.slice (some ⟨g,o,none⟩) (n+1) cap,.pointer y] w fun e w'=>e=.returned (.int .i64 11)/\Q w':=by
 have HC:=Ab hC;have HP:=Ab hP;have HK:=Ab hK;have e1:¬ ((n:Int)+1=0):=by omega
 clear hC hP hK
 go_enter func197,ntmps197
 go_wp2_with (fail);refine (Aa HC).mono ?_
 rintro e w1 ⟨x,rfl,hq⟩
 go_wp2_with (fail);refine (Aa HP x w1 (Aa hq)).mono ?_
 rintro e w2 ⟨rfl,q0⟩;have q4:=Ab q0;have c0:=Aa HK w2 q0;clear q0
 go_wp2_with (fail)
 go_ret;exact⟨rfl,Aa q4⟩
theorem U6(hc:c≠0)(hC:AT AS 201 #[.pointer y] w fun e w'=>∃x,e=.returned (.pointer x)/\Hid (Q1 x w'))(hP:∀x w1,Q1 x w1->AT AS 243 #[.pointer (some ⟨D,0,none⟩),.slice (some ⟨g,o,none⟩) (n+1) cap] w1 fun e w'=>e=.returned (.tuple #[.pointer (some ⟨b,0,none⟩),.string ⟨t.toArray⟩,.int .i64 0])/\Q2 x w')(hK:∀x w2,Q2 x w2->w2.cell? ⟨b,0,none⟩=some (.int .i64 5))(hS:∀x w2,Q2 x w2->AT AS 244 #[.pointer (some ⟨b,0,none⟩),.string ⟨t.toArray⟩] w2 fun e w'=>e=.returned (.tuple #[.int .i64 0,.int .i64 c])/\Q w'):
  AT AS 197 #[.pointer (some ⟨D,0,none⟩),.slice (some ⟨g,o,none⟩) (n+1) cap,.pointer y] w fun e w'=>e=.returned (.int .i64 c)/\Q w':=by
 have HC:=Ab hC;have HP:=Ab hP;have HK:=Ab hK;have HS:=Ab hS;have e1:¬ ((n:Int)+1=0):=by omega
 have e2:((c:Int) != 0)=true:=by rw[bne_iff_ne];omega
 have e3:((c:Int)==0)=false:=by rw[beq_eq_false_iff_ne];omega
 clear hC hP hK hS hc
 go_enter func197,ntmps197
 go_wp2_with (fail);refine (Aa HC).mono ?_
 rintro e w1 ⟨x,rfl,hq⟩
 go_wp2_with (fail);refine (Aa HP x w1 (Aa hq)).mono ?_
 rintro e w2 ⟨rfl,q0⟩;have q5:=Ab q0;have c0:=Aa HK x w2 q0;clear q0
 go_wp2_with (fail);refine (Aa HS x w2 (Aa q5)).mono ?_
 rintro e w3 ⟨rfl,q4⟩;have q6:=Ab q4;clear q4
 go_wp2_with (fail)
 go_ret;exact⟨rfl,Aa q6⟩
theorem Xn(hC:AT AS 201 #[.pointer y] w fun e w'=>∃x,e=.returned (.pointer x)/\Hid (Q1 x w'))(hP:∀x w1,Q1 x w1->AT AS 243 #[.pointer (some ⟨D,0,none⟩),.slice (some ⟨g,o,none⟩) (n+1) cap] w1 fun e w'=>e=.returned (.tuple #[.pointer (some ⟨b,0,none⟩),.string ⟨t.toArray⟩,.int .i64 0])/\Q2 x w')(hK:∀x w2,Q2 x w2->w2.cell? ⟨b,0,none⟩=some (.int .i64 5))(hS:∀x w2,Q2 x w2->AT AS 244 #[.pointer (some ⟨b,0,none⟩),.string ⟨t.toArray⟩] w2 fun e w'=>e=.returned (.tuple #[.int .i64 i,.int .i64 0])/\Q3 x w')(hN:∀x w3,Q3 x w3->AT AS 245 #[.slice (some ⟨g,o,none⟩) (n+1) cap,.int .i64 i] w3 fun e w'=>∃g2 c2,e=.returned (.slice (some ⟨g2,0,none⟩) (n+1) c2)/\Q4 x g2 c2 w')(hU:∀x g2 c2 w4,Q4 x g2 c2 w4->AT AS 205 #[.pointer (some ⟨D,0,none⟩),plV (.slice (some ⟨g2,0,none⟩) (n+1) c2) b [] i,.pointer x] w4 fun e w'=>e=.returned (.tuple #[])/\Q w'):
  AT AS 197 #[.pointer (some ⟨D,0,none⟩),.slice (some ⟨g,o,none⟩) (n+1) cap,.pointer y] w fun e w'=>e=.returned (.int .i64 0)/\Q w':=by
 have HC:=Ab hC;have HP:=Ab hP;have HK:=Ab hK;have HS:=Ab hS;have HN:=Ab hN;have HU:=Ab hU;have e1:¬ ((n:Int)+1=0):=by omega
 clear hC hP hK hS hN hU
 go_enter func197,ntmps197
 go_wp2_with (fail);refine (Aa HC).mono ?_
 rintro e w1 ⟨x,rfl,hq⟩
 go_wp2_with (fail);refine (Aa HP x w1 (Aa hq)).mono ?_
 rintro e w2 ⟨rfl,q0⟩;have q7:=Ab q0;have c0:=Aa HK x w2 q0;clear q0
 go_wp2_with (fail);refine (Aa HS x w2 (Aa q7)).mono ?_
 rintro e w3 ⟨rfl,q4⟩;have q8:=Ab q4;clear q4 c0
 go_wp2_with (fail);refine (Aa HN x w3 (Aa q8)).mono ?_
 rintro e w4 ⟨g2,c2,rfl,q5⟩;have q9:=Ab q5;clear q5
 go_wp2_with (fail);refine (Aa HU x g2 c2 w4 (Aa q9)).mono ?_
 rintro e w5 ⟨rfl,q6⟩;have qb:=Ab q6;clear q6
 go_wp2_with (fail)
 go_ret;exact⟨rfl,Aa qb⟩
end
end Go.Proofs.YtdpomdelmdofmaaGreatDoor
