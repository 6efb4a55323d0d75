import Derived.Test.YtdpomdelmdofmaaGreatDoorPfx29
open Or renaming inr->AI,inl->AT
open Go.Proofs.Tryz renaming prog->AS
open Go.RowKit renaming Below->A1
open Nat renaming le_refl->A2,lt_of_lt_of_le->DD
open Go renaming bodyPost_ret->A3,Value->A6,Calls->Bs,heap_alloc_new->Dp,results->D0,World->Ft
open List renaming mem_of_getElem?->A4,map_congr_left->A5,getElem?_map->BY,map_cons->CD,sum_cons->CH,getElem_append_left->CL,length_eq_zero_iff->CR,length_append->Dt,mem_map->D1,map_map->D2,length_cons->D3,mem_filter->E0,mem_cons->F2
open Go.RowKit.Below renaming refl->C1
open Go.World renaming cell?->C2
open Go.Maps renaming has->F1
open Prod renaming snd->F5,fst->G0
set_option maxHeartbeats 2000000
namespace Go.Proofs.YtdpomdelmdofmaaGreatDoor
open Go.Proofs.Tryz Go.RowKit Go.Maps
variable{w w':Ft}{v e c:To}{l:List By}{d x Zg:Int}{f i g:Nat}{k t:By}{es:List (Lit×To)}{a:Zf}
theorem CI.form{v:A6}(h:CI w v l):∃a c,v=.slice a l.length c/\l.length<=c\/l.length=0/\v=.slice a l.length c:=by
 rcases h with⟨rfl,a,c,rfl,_⟩|⟨g,o,cap,rfl,h1,_⟩
 ·exact⟨a,c,AI ⟨rfl,rfl⟩⟩
 ·exact⟨_,cap,AT ⟨rfl,h1⟩⟩
theorem Iy{v1 v2:A6}{m:List By}(h1:CI w v1 l)(h2:CI w v2 m):
  Bs AS 202 #[v1,v2] w fun e w'=>e=.returned (.bool (l==m))/\A1 w.heap.size w w':=by
 by_cases q0:l.length=m.length
 ·by_cases hl0:l.length=0
  ·have hl:l=[]:=CR.1 hl0;have hm:m=[]:=CR.1 (by omega);subst hl;subst hm;obtain⟨a1,c1,e1⟩:=h1.form;obtain⟨a2,c2,e2⟩:=h2.form;have q5:v1=.slice a1 0 c1:=e1.elim (fun h=>h.1) (fun h=>h.2);have q4:v2=.slice a2 0 c2:=e2.elim (fun h=>h.1) (fun h=>h.2);subst q5;subst q4;exact PG
  ·rcases h1 with⟨rfl,_⟩|⟨g1,o1,c1,rfl,b1,b2,t1⟩
   ·exact absurd rfl hl0
   ·rcases h2 with⟨rfl,_⟩|⟨g2,o2,c2,rfl,d1,d2,t2⟩
    ·exact absurd q0 hl0
    ·exact PF t1 t2 (by omega) (by omega)
 ·obtain⟨a1,c1,e1⟩:=h1.form;obtain⟨a2,c2,e2⟩:=h2.form;have q5:v1=.slice a1 l.length c1:=e1.elim (fun h=>h.1) (fun h=>h.2);have q4:v2=.slice a2 m.length c2:=e2.elim (fun h=>h.1) (fun h=>h.2);subst q5;subst q4;refine (PE q0).mono ?_;rintro e w' ⟨rfl,hb⟩;have:(l==m)=false:=by rw[beq_eq_false_iff_ne];rintro rfl;exact q0 rfl
  rw[this];exact⟨rfl,hb⟩
theorem Qz{v1 v2:A6}{m:List By}(h1:CI w v1 l)(h2:CI w v2 m):
  Bs AS 203 #[v1,v2] w fun e w'=>e=.returned (.bool (E2 l m))/\A1 w.heap.size w w':=by
 obtain⟨a2,c2,e2⟩:=h2.form;have q0:v2=.slice a2 m.length c2:=e2.elim (fun h=>h.1) (fun h=>h.2);clear e2;subst q0;by_cases hlt:m.length<l.length
 ·rcases h1 with⟨rfl,_⟩|⟨g1,o1,c1,rfl,b1,b2,t1⟩
  ·simp at hlt
  ·have hT:CI w (.slice (some ⟨g1,o1,none⟩) m.length c1) (l.take m.length):=by
    have hl:(l.take m.length).length=m.length:=by rw[List.length_take];omega
    refine AI ⟨g1,o1,c1,by rw[hl],by omega,b2,t1.1,fun k hk=>?_⟩;rw[t1.2 k (by omega)];simp
   have HC:=Ab (Iy hT h2);have HE:=Ab (show E2 l m=(l.take m.length==m) by unfold E2;rw[decide_eq_true hlt,Bool.true_and]);have e1:decide ((m.length:Int)<(l.length:Int))=true:=by rw[decide_eq_true_iff];omega
   have l1:(m.length:Int)<(l.length:Int):=by omega
   have l2:m.length<=c1:=by omega
   have l4:(0:Int)<=(m.length:Int):=by omega
   generalize m.length=M at *;generalize l.length=LL at *;clear hT h2 t1
   go_enter func203,ntmps203
   go_wp2_with (fail);refine (Aa HC).mono ?_
   rintro e w2 ⟨rfl,hb⟩
   go_wp2_with (fail);refine A3 (v:=.bool (l.take M==m)) (by simp[D0,results203,go_sem]) rfl ⟨by rw[Aa HE],hb⟩
 ·have HE:=Ab (show E2 l m=false by unfold E2;rw[decide_eq_false hlt];rfl);obtain⟨a1,c1,f1⟩:=h1.form;have q4:v1=.slice a1 l.length c1:=f1.elim (fun h=>h.1) (fun h=>h.2);clear f1;subst q4;have e1:decide ((m.length:Int)<(l.length:Int))=false:=by rw[decide_eq_false_iff_not];omega
  have l1:¬ (m.length:Int)<(l.length:Int):=by omega
  generalize m.length=M at *;generalize l.length=LL at *;clear h1 h2
  go_enter func203,ntmps203
  go_wp2_with (fail);refine A3 (v:=.bool false) (by simp[D0,results203,go_sem]) rfl ⟨by rw[Aa HE],C1 _ _⟩
theorem CE{d D x:Int}(hd:d<=D):∀ {f:Nat} {Zg:Int} {v:To},Zl d x f Zg v->Zl D x f Zg v
 | 0,_,_,h=>h.elim
 | f+1,Zg,v,⟨h0,h⟩=>by
  refine⟨Int.le_trans h0 hd,?_⟩;rcases h with h|h|h|⟨es,h,rfl⟩|⟨es,h1,h2,rfl⟩
  ·grind
  ·grind
  ·grind
  ·exact AI (AI (AI (AT ⟨es,fun e he=>CE hd (h e he),rfl⟩)))
  ·exact AI (AI (AI (AI ⟨es,h1,fun p hp=>⟨(h2 p hp).1,CE hd (h2 p hp).2⟩,rfl⟩)))
theorem Fp{d x s:Int}:∀ {f:Nat} {Zg:Int} {v:To},Zl d x f Zg v->Zl (d+s) x f (Zg+s) v
 | 0,_,_,h=>h.elim
 | f+1,Zg,v,⟨h0,h⟩=>by
  refine⟨by omega,?_⟩;have e:Zg+s+1=Zg+1+s:=by omega
  rcases h with h|h|h|⟨es,h,rfl⟩|⟨es,h1,h2,rfl⟩
  ·grind
  ·grind
  ·grind
  ·exact AI (AI (AI (AT ⟨es,fun q he=>by rw[e];exact Fp (h q he),rfl⟩)))
  ·exact AI (AI (AI (AI ⟨es,h1,fun p hp=>⟨(h2 p hp).1,by rw[e];exact Fp (h2 p hp).2⟩,rfl⟩)))
theorem E3:∀ {f:Nat} {Zg:Int} {v:To},Zl d x f Zg v->Zg<=d
 | 0,_,_,h=>h.elim
 | _+1,_,_,h=>h.1
theorem Co{d x:Int}:∀ {g f:Nat} {Zg:Int} {v:To},Zl d x g Zg v->d<Zg+f->Zl d x f Zg v
 | 0,_,_,_,h,_=>h.elim
 | g+1,0,Zg,v,⟨h0,_⟩,hf=>by omega
 | g+1,f+1,Zg,v,⟨h0,h⟩,hf=>by
  refine⟨h0,?_⟩;rcases h with h|h|h|⟨es,h,rfl⟩|⟨es,h1,h2,rfl⟩
  ·grind
  ·grind
  ·grind
  ·exact AI (AI (AI (AT ⟨es,fun q he=>Co (h q he) (by omega),rfl⟩)))
  ·exact AI (AI (AI (AI ⟨es,h1,fun p hp=>⟨(h2 p hp).1,Co (h2 p hp).2 (by omega)⟩,rfl⟩)))
theorem Ng{d D x:Int}:∀ {f:Nat} {Zg:Int} {v:To},Zl D x f Zg v->Zg+ZC f v<=d+1->Zl d x f Zg v
 | 0,_,_,h,_=>h.elim
 | f+1,Zg,v,⟨h0,h⟩,hd=>by
  rcases h with⟨k,hk,rfl⟩|⟨s,hs,rfl⟩|⟨n,h1,h2,h3,rfl⟩|⟨es,h,rfl⟩|⟨es,h1,h2,rfl⟩
  ·have:ZC (f+1) (AO k)=1:=rfl;exact⟨by omega,AT ⟨k,hk,rfl⟩⟩
  ·have:ZC (f+1) (Aq s)=1:=rfl;exact⟨by omega,AI (AT ⟨s,hs,rfl⟩)⟩
  ·have:ZC (f+1) (Bv n)=1:=rfl;exact⟨by omega,AI (AI (AT ⟨n,h1,h2,h3,rfl⟩))⟩
  ·rw[WQ] at hd;have q0:=Eo (es.map (ZC f));refine⟨by omega,AI (AI (AI (AT ⟨es,fun q he=>Ng (h q he) ?_,rfl⟩)))⟩;have:=Iq (D1.2 ⟨q,he,rfl⟩:ZC f q∈es.map (ZC f));omega
  ·rw[WP] at hd;have q0:=Eo (es.map fun p=>ZC f p.2);refine⟨by omega,AI (AI (AI (AI ⟨es,h1,fun p hp=>⟨(h2 p hp).1,Ng (h2 p hp).2 ?_⟩,rfl⟩)))⟩;have:=Iq (D1.2 ⟨p,hp,rfl⟩:ZC f p.2∈es.map fun p=>ZC f p.2);omega
theorem Gh(h:Zl d x (f+1) Zg v)(he:(Cj v)[i]? = some e):Zl d x f (Zg+1) e:=by
 obtain⟨_,h⟩:=h;rcases h with⟨k,hk,rfl⟩|⟨s,hs,rfl⟩|⟨n,h1,h2,h3,rfl⟩|⟨es,h,rfl⟩|⟨es,h1,h2,rfl⟩
 ·cases he
 ·cases he
 ·cases he
 ·exact h e (A4 he)
 ·obtain⟨p,hp,rfl⟩:=D1.1 (A4 (show (es.map F5)[i]? = some e from he))
  grind
theorem Ne{d x:Int}:∀ {p:List Nat} {f:Nat} {Zg:Int} {v n:To},Zl d x (f+p.length) Zg v->B5 p v=some n->Zl d x f (Zg+p.length) n
 | [],f,Zg,v,n,h,hs=>by
  grind [B5]
 | i::r,f,Zg,v,n,h,hs=>by
  have h':Zl d x ((f+r.length)+1) Zg v:=h;rw[B5] at hs;cases hk:(Cj v)[i]? with
  | none=>grind
  | some e=>
   rw[hk] at hs;have ih:=Ne (Gh h' hk) hs
   grind
theorem ID{α β:Type}(x:β):∀ (es:List (α×β)) (i:Nat),(es.modify i fun p=>(p.1,x)).map G0=es.map G0
 | [],i=>by simp
 | a::r,0=>by simp
 | a::r,i+1=>by simp[ID x r i]
theorem JI{α β:Type}{x:β}{q:α×β}:∀ {es:List (α×β)} {i:Nat},q∈(es.modify i fun p=>(p.1,x))->q∈es\/q.2=x /\ ∃p∈es,p.1=q.1
 | [],i,h=>by simp at h
 | a::r,0,h=>by
  grind
 | a::r,i+1,h=>by
  rw[List.modify_succ_cons] at h;rcases F2.1 h with rfl|h
  ·grind
  ·rcases JI h with h|⟨h1,p,h2,h3⟩
   ·grind
   grind
theorem WB(h:Zl d x (f+1) Zg v)(he:Zl d x f (Zg+1) e):Zl d x (f+1) Zg (Pz i e v):=by
 obtain⟨h0,h⟩:=h;rcases h with⟨k,hk,rfl⟩|⟨s,hs,rfl⟩|⟨n,h1,h2,h3,rfl⟩|⟨es,h,rfl⟩|⟨es,h1,h2,rfl⟩
 ·exact⟨h0,AT ⟨k,hk,rfl⟩⟩
 ·exact⟨h0,AI (AT ⟨s,hs,rfl⟩)⟩
 ·exact⟨h0,AI (AI (AT ⟨n,h1,h2,h3,rfl⟩))⟩
 ·refine⟨h0,AI (AI (AI (AT ⟨es.set i e,fun q hq=>?_,rfl⟩)))⟩
  grind
 ·refine⟨h0,AI (AI (AI (AI ⟨es.modify i fun p=>(p.1,e),?_,fun q hq=>?_,rfl⟩)))⟩
  ·have h3:(es.map G0).Pairwise (fun k l=>k.before l=true):=List.pairwise_map.2 h1;rw[<- ID e es i] at h3
   grind
  ·rcases JI hq with hq|⟨rfl,p,hp,hpk⟩
   ·grind
   grind
theorem Nf{d x:Int}:∀ {p:List Nat} {f:Nat} {Zg:Int} {v n n':To},Zl d x (f+p.length) Zg v->B5 p v=some n->Zl d x f (Zg+p.length) n'->Zl d x (f+p.length) Zg (Cd p n' v)
 | [],f,Zg,v,n,n',h,hs,hn=>by grind [Cd,B5]
 | i::r,f,Zg,v,n,n',h,hs,hn=>by
  have h':Zl d x ((f+r.length)+1) Zg v:=h;rw[B5] at hs;cases hk:(Cj v)[i]? with
  | none=>grind
  | some e=>
   rw[hk] at hs;rw[show Zg+((i::r).length:Nat)=Zg+1+(r.length:Nat) by grind] at hn;show Zl d x ((f+r.length)+1) Zg _;rw[Cd,hk];exact WB h' (Nf (Gh h' hk) hs hn)
theorem Ug{α:Type}{c q:α}{l:List α}(h:q∈ZS i c l):q=c\/q∈l:=by
 have:=(EF i c l).mem_iff.1 h
 grind
theorem Uh{α:Type}{q:α}{l:List α}(h:q∈ZN i l):q∈l:=by
 rcases List.mem_append.1 h with h|h
 ·grind
 grind
theorem Pe(h1:es.Pairwise (fun p q=>p.1.before q.1=true))(h2:∀p∈es,(∃s,p.1=.string s/\Ut s)/\Zl d x f (Zg+1) p.2)(hk:Ut k)(hc:Zl d x f (Zg+1) c):
  (Zr (.string k) c es).Pairwise (fun p q=>p.1.before q.1=true) /\ ∀p∈Zr (.string k) c es,(∃s,p.1=.string s/\Ut s)/\Zl d x f (Zg+1) p.2:=by
 refine⟨(FF ⟨h1,fun p hp=>?_⟩).1,fun p hp=>?_⟩
 ·grind
 ·rcases F2.1 ((C4 (.string k) c es).mem_iff.1 hp) with rfl|hp
  ·grind
  ·exact h2 p (E0.1 hp).1
theorem Sd(h:Zl d x (f+1) Zg v)(hk:Ut k)(hc:Zl d x f (Zg+1) c):Zl d x (f+1) Zg (FV i k c v):=by
 obtain⟨h0,h⟩:=h;rcases h with⟨j,hj,rfl⟩|⟨s,hs,rfl⟩|⟨n,h1,h2,h3,rfl⟩|⟨es,h,rfl⟩|⟨es,h1,h2,rfl⟩
 ·exact⟨h0,AT ⟨j,hj,rfl⟩⟩
 ·exact⟨h0,AI (AT ⟨s,hs,rfl⟩)⟩
 ·exact⟨h0,AI (AI (AT ⟨n,h1,h2,h3,rfl⟩))⟩
 ·refine⟨h0,AI (AI (AI (AT ⟨ZS i c es,fun q hq=>?_,rfl⟩)))⟩;rcases Ug hq with rfl|hq
  ·exact hc
  grind
 ·obtain⟨h3,h4⟩:=Pe h1 h2 hk hc;exact⟨h0,AI (AI (AI (AI ⟨Zr (.string k) c es,h3,h4,rfl⟩)))⟩
theorem Sa(h:Zl d x (f+1) Zg v)(hk:Ut k)(hc:Zl d x f (Zg+1) c):Zl d x (f+1) Zg (Hc i k c v):=by
 obtain⟨h0,h⟩:=h;rcases h with⟨j,hj,rfl⟩|⟨s,hs,rfl⟩|⟨n,h1,h2,h3,rfl⟩|⟨es,h,rfl⟩|⟨es,h1,h2,rfl⟩
 ·exact⟨h0,AT ⟨j,hj,rfl⟩⟩
 ·exact⟨h0,AI (AT ⟨s,hs,rfl⟩)⟩
 ·exact⟨h0,AI (AI (AT ⟨n,h1,h2,h3,rfl⟩))⟩
 ·refine⟨h0,AI (AI (AI (AT ⟨es.set i c,fun q hq=>?_,rfl⟩)))⟩
  grind
 ·obtain⟨h3,h4⟩:=Pe h1 h2 hk hc;exact⟨h0,AI (AI (AI (AI ⟨Zr (.string k) c es,h3,h4,rfl⟩)))⟩
theorem Sb(h:Zl d x (f+1) Zg v):Zl d x (f+1) Zg (Kk i k v):=by
 obtain⟨h0,h⟩:=h;rcases h with⟨j,hj,rfl⟩|⟨s,hs,rfl⟩|⟨n,h1,h2,h3,rfl⟩|⟨es,h,rfl⟩|⟨es,h1,h2,rfl⟩
 ·exact⟨h0,AT ⟨j,hj,rfl⟩⟩
 ·exact⟨h0,AI (AT ⟨s,hs,rfl⟩)⟩
 ·exact⟨h0,AI (AI (AT ⟨n,h1,h2,h3,rfl⟩))⟩
 ·exact⟨h0,AI (AI (AI (AT ⟨ZN i es,fun q hq=>h q (Uh hq),rfl⟩)))⟩
 ·exact⟨h0,AI (AI (AI (AI ⟨ZF (.string k) es,h1.filter _,fun p hp=>h2 p (E0.1 hp).1,rfl⟩)))⟩
def Zh:Nat->To->Nat
 | 0,_=>0
 | f+1,d=>match d with
  | .slice es _=>2+(es.map fun e=>Zh f e+1).sum
  | .map es=>2+(es.map fun p=>(Ag (strOf p.1)).length+2+Zh f p.2).sum
  | d=>(Zm (f+1) d).length
theorem Jr(f:Nat)(es:List To):Zh (f+1) (Ap es)=2+(es.map fun e=>Zh f e+1).sum:=rfl
theorem CA(f:Nat)(es:List (Lit×To)):Zh (f+1) (Ay es)=2+(es.map fun p=>(Ag (strOf p.1)).length+2+Zh f p.2).sum:=rfl
theorem Ha{α:Type}{q r:α->Nat}:∀ {l:List α},(∀a∈l,q a<=r a)->(l.map q).sum<=(l.map r).sum
 | [],_=>A2 _
 | a::l,h=>by
  have h1:=h a (by simp);have h2:=Ha (q:=q) (r:=r) (l:=l) fun b hb=>h b (by simp[hb])
  grind
theorem Ki{α:Type}{q:α->Nat}:∀ (l:List α),(l.map fun a=>2*q a).sum=2*(l.map q).sum
 | []=>rfl
 | a::l=>by simp only[CD,CH,Ki l];omega
theorem GI(l:List By):(Ax l).length+1 ≥ (l.map fun x=>x.length+1).sum:=by
 cases l with
 | nil=>simp
 | cons x r=>grind [Ax,Ln]
theorem OP(h1:es.Pairwise (fun p q=>p.1.before q.1=true))(h2:∀p∈es,∃s,p.1=.string s):es.Pairwise (fun p q=>p.1≠q.1):=by
 refine List.Pairwise.imp_of_mem ?_ h1;intro p q hp _ hb e;obtain⟨s,hs⟩:=h2 p hp;rw[<- e,hs] at hb;have h9:bytesBefore s s=true:=hb
 grind [WideAt.bytes_irrefl]
theorem TR(hp:es.Pairwise (fun p q=>p.1≠q.1))(hk:∀p∈es,∃x,p.1=.string x):
  C8 g es<=(Ax ((Zz es).map (ZI g es))).length+1:=by
 refine Nat.le_trans (Nat.le_of_eq ?_) (GI _);rw[D2];have h1:((Zz es).map ((fun x=>x.length+1) ∘ ZI g es)).Perm ((ZJ es).map ((fun x=>x.length+1) ∘ ZI g es)):=(List.mergeSort_perm _ _).map _;rw[h1.sum_nat];unfold ZJ C8;rw[D2];congr 1;apply A5;intro p q0;obtain⟨x,hx⟩:=hk p q0;have h2:ZV es x=p.2:=by
  unfold ZV;exact WideAt.atKey_mem .nil trivial hp (by grind)
 obtain⟨k,v⟩:=p;simp only at hx h2;subst hx;simp only[Function.comp,ent,strOf];rw[bD,h2];omega
theorem BX{d x:Int}:∀ {f:Nat} {Zg:Int} {v:To},Zl d x f Zg v->(Zm f v).length<=Zh f v/\Zh f v<=2*(Zm f v).length
 | 0,_,_,h=>h.elim
 | f+1,Zg,v,⟨h0,h⟩=>by
  rcases h with⟨k,hk,rfl⟩|⟨s,hs,rfl⟩|⟨n,h1,h2,h3,rfl⟩|⟨es,h,rfl⟩|⟨es,h1,h2,rfl⟩
  ·have:Zh (f+1) (AO k)=(Zm (f+1) (AO k)).length:=rfl;omega
  ·have:Zh (f+1) (Aq s)=(Zm (f+1) (Aq s)).length:=rfl;omega
  ·have:Zh (f+1) (Bv n)=(Zm (f+1) (Bv n)).length:=rfl;omega
  ·rw[Jr,Dj];have a1:=EJ (es.map (Zm f));have a2:=GI (es.map (Zm f));rw[D2] at a1 a2;have b1:(es.map ((fun x=>x.length+1) ∘ Zm f)).sum<=(es.map fun e=>Zh f e+1).sum:=Ha fun e he=>by
    have:=(BX (h e he)).1;grind
   have b2:(es.map fun e=>Zh f e+1).sum<=(es.map fun e=>2*((fun x:By=>x.length+1) ∘ Zm f) e).sum:=Ha fun e he=>by
    have:=(BX (h e he)).2;grind
   grind [Ki,D3,Dt]
  ·have hk:∀p∈es,∃s,p.1=.string s:=fun p hp=>by
    grind
   have q0:=OP h1 hk;rw[CA,KD];have a1:=OZ (g:=f) q0 hk;have a2:=TR (g:=f) q0 hk;unfold C8 at a1 a2;have e1:(Ax ((Zz es).map (ZI f es)))=Ax (((ZJ es).mergeSort fun x y=>decide (x<=y)).map fun k=>Ag k++58::Zm f (ZV es k)):=rfl;rw[e1] at a1 a2;have b1:(es.map (ent f)).sum<=(es.map fun p=>(Ag (strOf p.1)).length+2+Zh f p.2).sum:=Ha fun p hp=>by
    have:=(BX (h2 p hp).2).1;unfold ent;omega
   have b2:(es.map fun p=>(Ag (strOf p.1)).length+2+Zh f p.2).sum<=(es.map fun p=>2*ent f p).sum:=Ha fun p hp=>by
    have:=(BX (h2 p hp).2).2;unfold ent;omega
   grind [Ki,D3,Dt]
theorem Gv{α:Type}{q:α->Nat}(c:α->Bool):∀ (l:List α),((l.filter c).map q).sum<=(l.map q).sum
 | []=>A2 _
 | a::r=>by
  have:=Gv (q:=q) c r
  grind
theorem OI{α:Type}{q:α->Nat}(x:α):∀ (l:List α) (i:Nat),((l.set i x).map q).sum<=(l.map q).sum+q x
 | [],i=>by simp
 | a::r,0=>by grind
 | a::r,i+1=>by have:=OI (q:=q) x r i;grind
theorem Kh{n:To}(h:Zl d x (f+1) Zg v)(hi:(Cj v)[i]? = some n):Zh (f+1) (Pz i e v)+Zh f n=Zh (f+1) v+Zh f e:=by
 have q4:∀ {α:Type} {q:α->Nat} (y z:α) (l:List α) (i:Nat),l[i]? = some y->((l.set i z).map q).sum+q y=(l.map q).sum+q z:=by
  intro α q y z l;induction l with
  | nil=>grind
  | cons a r ih=>
   intro i h;cases i with
   | zero=>
    grind
   | succ i=>
    grind
 have q0:∀ (l:List (Lit×To)) (i:Nat),(l.map F5)[i]? = some n->((l.modify i fun p=>(p.1,e)).map fun p=>(Ag (strOf p.1)).length+2+Zh f p.2).sum+Zh f n=(l.map fun p=>(Ag (strOf p.1)).length+2+Zh f p.2).sum+Zh f e:=by
  intro l;induction l with
  | nil=>grind
  | cons a r ih=>
   grind
 obtain⟨_,h⟩:=h;rcases h with⟨k,hk,rfl⟩|⟨s,hs,rfl⟩|⟨m,h1,h2,h3,rfl⟩|⟨es,h,rfl⟩|⟨es,h1,h2,rfl⟩
 ·cases hi
 ·cases hi
 ·cases hi
 ·have q5:es[i]? = some n:=hi;have:=q4 (q:=fun e=>Zh f e+1) n e es i q5;show 2+((es.set i e).map fun e=>Zh f e+1).sum+_=2+(es.map fun e=>Zh f e+1).sum+_;omega
 ·have:=q0 es i hi;show 2+((es.modify i fun p=>(p.1,e)).map fun p=>(Ag (strOf p.1)).length+2+Zh f p.2).sum+_=2+(es.map fun p=>(Ag (strOf p.1)).length+2+Zh f p.2).sum+_;omega
theorem Mj{d x:Int}:∀ {p:List Nat} {f:Nat} {Zg:Int} {v n n':To},Zl d x (f+p.length) Zg v->B5 p v=some n->Zh (f+p.length) (Cd p n' v)+Zh f n=Zh (f+p.length) v+Zh f n'
 | [],f,Zg,v,n,n',h,hs=>by
  injection hs with hs;subst hs;show Zh (f+0) n'+Zh f v=Zh (f+0) v+Zh f n'
  grind
 | i::r,f,Zg,v,n,n',h,hs=>by
  have h':Zl d x ((f+r.length)+1) Zg v:=h;rw[B5] at hs;cases hk:(Cj v)[i]? with
  | none=>grind
  | some e=>
   rw[hk] at hs;show Zh ((f+r.length)+1) _+_=Zh ((f+r.length)+1) _+_;rw[Cd,hk];have ih:=Mj (n':=n') (Gh h' hk) hs;have:=Kh (e:=Cd r n' e) h' hk
   grind
theorem OH(k:By)(c:To)(es:List (Lit×To)):((Zr (.string k) c es).map fun p=>(Ag (strOf p.1)).length+2+Zh f p.2).sum<=(es.map fun p=>(Ag (strOf p.1)).length+2+Zh f p.2).sum+((Ag k).length+2+Zh f c):=by
 rw[((C4 (.string k) c es).map _).sum_nat,CD,CH];have:((ZF (.string k) es).map fun p=>(Ag (strOf p.1)).length+2+Zh f p.2).sum<=(es.map fun p=>(Ag (strOf p.1)).length+2+Zh f p.2).sum:=Gv _ es;have e:strOf (Lit.string k)=k:=rfl
 grind
theorem RQ{a x q c:Nat}(h:x<=a+(q+2+c)):2+x<=2+a+c+q+2:=by omega
theorem Q5:Zh (f+1) (FV i k c v)<=Zh (f+1) v+Zh f c+(Ag k).length+2:=by
 unfold FV bQ;split
 ·rename_i es y;show 2+((ZS i c es).map fun e=>Zh f e+1).sum<=2+(es.map fun e=>Zh f e+1).sum+_+_+_;rw[((EF i c es).map _).sum_nat,CD,CH];omega
 ·rename_i es;have:=OH (f:=f) k c es;exact RQ this
 ·omega
theorem QY:Zh (f+1) (Hc i k c v)<=Zh (f+1) v+Zh f c+(Ag k).length+2:=by
 unfold Hc bQ;split
 ·rename_i es y;have:=OI (q:=fun e=>Zh f e+1) c es i;show 2+((es.set i c).map fun e=>Zh f e+1).sum<=2+(es.map fun e=>Zh f e+1).sum+_+_+_;omega
 ·rename_i es;have:=OH (f:=f) k c es;exact RQ this
 ·omega
theorem QZ:Zh (f+1) (Kk i k v)<=Zh (f+1) v:=by
 unfold Kk bQ;split
 ·rename_i es y;have h:((ZN i es).map fun e=>Zh f e+1).sum<=(es.map fun e=>Zh f e+1).sum:=by
   by_cases hi:i<es.length
   ·rw[((FE (List.getElem?_eq_getElem hi)).map (fun e=>Zh f e+1)).sum_nat,CD,CH];omega
   ·unfold ZN;rw[List.drop_eq_nil_of_le (by omega),List.append_nil,List.take_of_length_le (by omega)];omega
  show 2+((ZN i es).map fun e=>Zh f e+1).sum<=2+(es.map fun e=>Zh f e+1).sum;omega
 ·rename_i es;have:((ZF (.string k) es).map fun p=>(Ag (strOf p.1)).length+2+Zh f p.2).sum<=(es.map fun p=>(Ag (strOf p.1)).length+2+Zh f p.2).sum:=Gv _ es;show 2+((ZF (.string k) es).map fun p=>(Ag (strOf p.1)).length+2+Zh f p.2).sum<=2+(es.map fun p=>(Ag (strOf p.1)).length+2+Zh f p.2).sum;omega
 ·omega
theorem Kv:(Cj v).length<=Zh (f+1) v:=by
 have h1:∀ {α:Type} {q:α->Nat} (l:List α),(∀a,1<=q a)->l.length<=(l.map q).sum:=by
  intro α q l hq;induction l with
  | nil=>simp
  | cons a r ih=>grind
 unfold Cj;split
 ·rename_i es;have:=h1 (q:=fun p:Lit×To=>(Ag (strOf p.1)).length+2+Zh f p.2) es fun p=>by omega
  show (es.map F5).length<=2+(es.map fun p:Lit×To=>(Ag (strOf p.1)).length+2+Zh f p.2).sum
  grind
 ·rename_i es y;have:=h1 (q:=fun e:To=>Zh f e+1) es fun p=>by omega
  show es.length<=2+(es.map fun e:To=>Zh f e+1).sum;omega
 ·simp
theorem Mi{d x:Int}:∀ {p:List Nat} {f:Nat} {Zg:Int} {v n:To},Zl d x (f+p.length) Zg v->B5 p v=some n->Zh f n<=Zh (f+p.length) v
 | [],f,Zg,v,n,h,hs=>by
  grind [B5]
 | i::r,f,Zg,v,n,h,hs=>by
  have h':Zl d x ((f+r.length)+1) Zg v:=h;rw[B5] at hs;cases hk:(Cj v)[i]? with
  | none=>grind
  | some e=>
   rw[hk] at hs;have ih:=Mi (Gh h' hk) hs;have h1:=Kh (e:=.nil) h' hk;have h2:Zh (f+r.length) (.nil:To)=0:=by cases f+r.length<;>rfl
   grind
theorem EZ{d x:Int}:∀ {f g:Nat} {Zg:Int} {v:To},Zl d x f Zg v->f<=g->Zh g v=Zh f v
 | 0,_,_,_,h,_=>h.elim
 | f+1,0,_,_,_,h=>by omega
 | f+1,g+1,Zg,v,⟨h0,h⟩,hg=>by
  rcases h with⟨k,hk,rfl⟩|⟨s,hs,rfl⟩|⟨n,h1,h2,h3,rfl⟩|⟨es,h,rfl⟩|⟨es,h1,h2,rfl⟩
  ·rfl
  ·rfl
  ·rfl
  ·rw[Jr,Jr];congr 2;exact A5 fun e he=>by rw[EZ (h e he) (by omega)]
  ·rw[CA,CA];congr 2;exact A5 fun p hp=>by rw[EZ (h2 p hp).2 (by omega)]
theorem JN{u:A6}{n:Zf}{d:To}(h:Ad (f+1) w u n)(hc:AF (Zi (f+1) n) t=.ok d):
  ∃i c x,aQ (Zi (f+1) n) t=some i/\(AH n)[i]? = some c/\Zi f c=d/\Ad f w x c:=by
 have h0:=h;obtain⟨b,g,x,rfl,rfl,h⟩:=h;rcases h with⟨k,hk,_,rfl,h⟩|⟨m,_,rfl,h,q7⟩|⟨s,_,rfl,h⟩|⟨al,sl,ps,rfl,h,ho,hs,ha⟩|⟨es,m,D,rfl,h,ho,hp⟩
 ·rw[Ty] at hc;cases hc
 ·rw[VM] at hc;cases hc
 ·rw[VK] at hc;cases hc
 ·rw[Bn] at hc;obtain⟨i,h1,h2,h3⟩:=GY hc;rw[BY] at h2;obtain⟨c,q4,q5⟩:=Option.map_eq_some_iff.1 h2;obtain⟨y,hy⟩:=ha.right (A4 q4);exact⟨i,c,y,h3,q4,q5,hy⟩
 ·have hh:F1 (.map D:DataW A6) (.string t)=F1 (.map (es.map fun p=>(p.1,Zi f p.2)):DataW Unit) (.string t):=
   (Pt.mapR (P:=fun _ _=>True) (q:=Zi f) (hp.mono fun _ _ _=>trivial)).has _
  have q6:AF (Zi (f+1) (Zj b g (.map es))) t=(if F1 (.map D:DataW A6) (.string t) then .ok ((DataW.map (es.map fun p=>(p.1,Zi f p.2))).atKey (.string t) .nil) else .error 11):=by
   rw[hh];rfl
  rw[q6] at hc;by_cases q0:F1 (.map D:DataW A6) (.string t)=true
  ·rw[if_pos q0] at hc;injection hc with hc;obtain⟨i,key,c,x,e1,e2,e3,e4,e5⟩:=hp.first (.string t) q0
   refine⟨i,c,x,?_,?_,?_,e5⟩
   ·rw[AZ];unfold aQ Ay;simp only;rw[List.findIdx?_map];exact e1
   ·rw[Bx,BY,e2];rfl
   ·rw[<- hc,BZ,List.find?_map,show ((fun p=>p.1.sameKey (.string t)) ∘ fun p:Lit×Zf=>(p.1,Zi f p.2))=fun p=>p.1.sameKey (.string t) from rfl,e3];rfl
  grind
theorem Cs(t:By):∀ (s:List By) (d:To),Ak d (s++[t])=(match Ak d s with | .ok n=>AF n t | .error c=>.error c)
 | [],d=>by
  show (match AF d t with | .ok e=>Except.ok e | .error c=>.error c)=AF d t
  grind
 | u::s,d=>by
  rw[List.cons_append,Ak,Ak];cases AF d u with
  | ok e=>exact Cs t s e
  | error c=>rfl
theorem Cy{v:A6}{d:To}:∀ {s:List By} {fa:Nat} {a:Zf},Ad fa w v a->Ak (Zi fa a) s=.ok d ->
  ∃f q n u,f+1+q.length=fa/\Zo q a=some n/\Ad (f+1) w u n/\Zi (f+1) n=d/\Dq (Zi fa a) s=some q:=by
 intro s fa a h hf
 suffices H:∀ (k:Nat) (s:List By) (d:To),s.length=k->Ak (Zi fa a) s=.ok d -> ∃f q n u,f+1+q.length=fa/\Zo q a=some n/\Ad (f+1) w u n/\Zi (f+1) n=d/\Dq (Zi fa a) s=some q from H _ s d rfl hf
 intro k;induction k with
 | zero=>
  intro s d hl hf;obtain rfl:s=[]:=by grind
  injection hf with hf;cases fa with
  | zero=>exact h.elim
  | succ fa=>exact⟨fa,[],a,v,rfl,rfl,h,hf,rfl⟩
 | succ k ih=>
  intro s d hl hf;obtain⟨s0,t,rfl⟩:∃s0 t,s=s0++[t]:=⟨s.dropLast,s.getLast (by grind),(List.dropLast_concat_getLast _).symm⟩
  rw[Cs] at hf;cases hs:Ak (Zi fa a) s0 with
  | error c=>grind
  | ok n'=>
   rw[hs] at hf;obtain⟨f,q,n,u,h1,h2,h3,rfl,h5⟩:=ih s0 n' (by grind) hs;obtain⟨i,c,x,e1,e2,e3,e4⟩:=JN h3 hf;cases f with
   | zero=>exact e4.elim
   | succ f=>
    have q0:B5 q (Zi fa a)=some (Zi (f+1+1) n):=by
     rw[<- h1];exact Gw (f:=f+1+1) (by rw[h1];exact h) h2
    refine⟨f,q++[i],c,x,by simp;omega,Gx e2 h2,e4,e3,?_⟩;exact Hh e1 (show (Cj (Zi (f+1+1) n))[i]? = some (Zi (f+1) c) by rw[Dw h3,BY,e2];rfl) h5 q0
theorem KN{fa:Nat}{n:Zf}{v pv u:A6}{q:List Nat}{d:To}(hl:∀t∈l,t.length<=1048576)(hn:l.length<=1048576)(hr:Rng w)(h:Ad fa w v a)(hp:CI w pv l)(hf:Ak (Zi fa a) l=.ok d)(hs:Zo q a=some n)(hu:Ad (f+1) w u n)(hpos:Dq (Zi fa a) l=some q):
  Bs AS 81 #[pv,v] w fun e w'=>e=.returned (.tuple #[u,.int .i64 0])/\A1 w.heap.size w w':=by
 refine (Vl hl hn hr h hp).mono ?_;rintro e w' ⟨ho,hb⟩;refine⟨?_,hb⟩;rw[hf] at ho;obtain⟨u2,rfl,_,f2,p2,n2,h1,h2,h3,h4,h5⟩:=ho;rw[hpos] at h5;injection h5 with h5;subst h5;rw[hs] at h2;injection h2 with h2;subst h2;obtain rfl:=h3.uniq hu;rfl
theorem Jl{fa c:Nat}{v pv:A6}(hl:∀t∈l,t.length<=1048576)(hn:l.length<=1048576)(hr:Rng w)(h:Ad fa w v a)(hp:CI w pv l)(hf:Ak (Zi fa a) l=.error c):
  Bs AS 81 #[pv,v] w fun e w'=>e=.returned (.tuple #[.pointer none,.int .i64 c])/\A1 w.heap.size w w':=by
 refine (Vl hl hn hr h hp).mono ?_;rintro e w' ⟨ho,hb⟩;refine⟨?_,hb⟩;rw[hf] at ho;exact ho
theorem CJ.bel{D R:Nat}{wp jn iv:A6}{ch:Bool}{T:Zf}{x:To}(h:CJ w D R wp jn iv ch T a x)(hb:A1 w.heap.size w w'):CJ w' D R wp jn iv ch T a x:=
 h.move (hb.block D h.db.lt) fun k hk=>hb.block k (h.tr.lt k hk)
structure JS(w:Ft)(D R:Nat)(wp:Option Addr)(jn iv:A6)(ch:Bool)(Tb:Zf)(Mb:Nat->Prop)(wb:Ft)(T a:Zf)(v:To)(M:Nat->Prop)(js:List Zk):Prop where
 j:Bm (top+1) w D (.pointer (some ⟨R,0,none⟩)) jn iv ch Tb Mb wb T M js
 t:CJ w D R (.pointer wp) jn iv ch T a v
section
variable{w w':Ft}{D R:Nat}{wp:Option Addr}{jn iv:A6}{ch:Bool}{Tb T a:Zf}{Mb M:Nat->Prop}{wb:Ft}{v:To}{js:List Zk}
theorem JS.of{a1:Zf}(hJ:Bm (top+1) w D (.pointer (some ⟨R,0,none⟩)) jn iv ch Tb Mb wb T M js)(e:er (top+1) T=er (top+1) (Zj R g (.slice [a1] []))):
  ∃wp a,JS w D R wp jn iv ch Tb Mb wb T a (Zi top a1) M js:=by
 obtain⟨g',q0,rfl,e2⟩:=hJ.tr.er_arr e;obtain⟨a,rfl⟩:∃a,q0=[a]:=List.length_eq_one_iff.1 (by have:=congrArg List.length e2;simpa using this)
 ·have e3:er top a=er top a1:=by
   have:=congrArg (fun l:List Zf=>l[0]?) e2;simpa using this
  obtain⟨xs,cs,g1,_⟩:=hJ.ex;obtain⟨u,hu⟩:∃u,Ad top w u a:=Ad.at (f:=top) (p:=[0]) hJ.tr rfl;obtain⟨b,rfl,_⟩:=hu.ptr;exact⟨some ⟨b,0,none⟩,a,hJ,⟨g1,hJ.tr,⟨g',rfl⟩,hu,by rw[<- ED,e3,ED],hJ.nd,hJ.dD.1⟩⟩
theorem JS.bel(h:JS w D R wp jn iv ch Tb Mb wb T a v M js)(hb:A1 w.heap.size w w'):JS w' D R wp jn iv ch Tb Mb wb T a v M js:=⟨(h.j.bel hb).1,h.t.bel hb⟩
theorem JS.grow(h:JS w D R wp jn iv ch Tb Mb wb T a v M js)(hb:A1 w.heap.size w w')(X:Nat->Prop)(hX:∀k,X k->w.heap.size<=k/\k<w'.heap.size):
  JS w' D R wp jn iv ch Tb Mb wb T a v (fun k=>M k\/X k) js/\JEx M (fun k=>M k\/X k) w w':=⟨⟨(h.j.grow hb X hX).1,h.t.bel hb⟩,(h.j.grow hb X hX).2⟩
theorem Hj{o n cap:Nat}{s:List By}{q:List Nat}{m:Zf}{u:Option Addr}{d:To}(h:JS w D R wp jn iv ch Tb Mb wb T a v M js)(hr:Rng w)(hp:CQ w g o (s++[t]))(hn:s.length=n)(hc:n+1<=cap)(q0:cap<=maxLen)(hl:∀t∈s,t.length<=1048576)(hnl:n<=1048576)(hf:Ak v s=.ok d)(hs:Zo q a=some m)(hu:Ad (f+1) w (.pointer u) m)(hpos:Dq v s=some q):
  Bs AS 243 #[.pointer (some ⟨D,0,none⟩),.slice (some ⟨g,o,none⟩) (n+1) cap] w fun e w'=>e=.returned (.tuple #[.pointer u,.string ⟨t.toArray⟩,.int .i64 0])/\A1 w.heap.size w w':=by
 subst hn;have hv:=h.t.str;subst hv;refine (IJ (t:=t) (wp:=wp) (R:=fun _ x c=>x=u/\c=0) hc q0 hp.1 ?_ (fun w1 hb1=>De (h.t.bel hb1)) (fun w1 hb1=>?_)).mono ?_
 ·rw[hp.2 s.length (by simp)];simp
 ·refine (KN hl hnl (hr.kept hb1) (h.t.bel hb1).sub (AI ⟨g,o,cap,rfl,by omega,q0,DD hp.1 hb1.size,fun k hk=>?_⟩) hf hs (hu.bel hb1) hpos).mono ?_
  ·have h1:=hp.2 k (by simp;omega);rw[(hb1.cell (p:=⟨g,o+k,none⟩) hp.1).trans h1,CL hk]
  ·rintro e w' ⟨rfl,hb⟩;exact⟨u,0,rfl,⟨rfl,rfl⟩,hb⟩
 ·rintro e w' ⟨x,c,rfl,⟨w2,⟨rfl,rfl⟩,_⟩,hb⟩;exact⟨rfl,hb⟩
theorem Jz{o n cap c:Nat}{s:List By}(h:JS w D R wp jn iv ch Tb Mb wb T a v M js)(hr:Rng w)(hp:CQ w g o (s++[t]))(hn:s.length=n)(hc:n+1<=cap)(q0:cap<=maxLen)(hl:∀t∈s,t.length<=1048576)(hnl:n<=1048576)(hf:Ak v s=.error c):
  Bs AS 243 #[.pointer (some ⟨D,0,none⟩),.slice (some ⟨g,o,none⟩) (n+1) cap] w fun e w'=>e=.returned (.tuple #[.pointer none,.string ⟨t.toArray⟩,.int .i64 c])/\A1 w.heap.size w w':=by
 subst hn;have hv:=h.t.str;subst hv;refine (IJ (t:=t) (wp:=wp) (R:=fun _ x c'=>x=none/\c'=c) hc q0 hp.1 ?_ (fun w1 hb1=>De (h.t.bel hb1)) (fun w1 hb1=>?_)).mono ?_
 ·rw[hp.2 s.length (by simp)];simp
 ·refine (Jl hl hnl (hr.kept hb1) (h.t.bel hb1).sub (AI ⟨g,o,cap,rfl,by omega,q0,DD hp.1 hb1.size,fun k hk=>?_⟩) hf).mono ?_
  ·have h1:=hp.2 k (by simp;omega);rw[(hb1.cell (p:=⟨g,o+k,none⟩) hp.1).trans h1,CL hk]
  ·rintro e w' ⟨rfl,hb⟩;exact⟨none,c,rfl,⟨rfl,rfl⟩,hb⟩
 ·rintro e w' ⟨x,c',rfl,⟨w2,⟨rfl,rfl⟩,_⟩,hb⟩;exact⟨rfl,hb⟩
end
abbrev plZ:A6:=.agg #[.slice none 0 0,.pointer none,.string ⟨#[]⟩,.int .i64 0]
def ZB(w:Ft)(g:Nat):Prop:=w.heap[g]? = some (.cells #[.slice none 0 0,.pointer none,.string ⟨#[]⟩,.int .i64 0] 185 (0,0))
section
variable{w:Ft}{g:Nat}
theorem ZB.lt(h:ZB w g):g<w.heap.size:=(Array.getElem?_eq_some_iff.1 h).1
theorem ZB.c0(h:ZB w g):w.cell? ⟨g,0,none⟩=some (.slice none 0 0):=by simp[C2,show w.heap[g]? = _ from h]
theorem ZB.c1(h:ZB w g):w.cell? ⟨g,1,none⟩=some (.pointer none):=by simp[C2,show w.heap[g]? = _ from h]
theorem ZB.c2(h:ZB w g):w.cell? ⟨g,2,none⟩=some (.string ⟨#[]⟩):=by simp[C2,show w.heap[g]? = _ from h]
theorem ZB.c3(h:ZB w g):w.cell? ⟨g,3,none⟩=some (.int .i64 0):=by simp[C2,show w.heap[g]? = _ from h]
theorem ZB.fz(h:ZB w g)(o:Nat):w.frozen? ⟨g,o,none⟩=false:=by simp[World.frozen?,show w.heap[g]? = _ from h]
theorem ZB.low(h:ZB w g)(hb:A1 w.heap.size w w'):ZB w' g:=(hb.block g h.lt).trans h
end
theorem GP{B:Nat}(h:A1 B w w')(b:Nat)(hb:B<=b)(x0 x1 x2 x3:A6):A1 B w ((((w'.setCell ⟨b,0,none⟩ x0).setCell ⟨b,1,none⟩ x1).setCell ⟨b,2,none⟩ x2).setCell ⟨b,3,none⟩ x3):=
 An (An (An (An h b _ hb _) b _ hb _) b _ hb _) b _ hb _
section
variable{w:Ft}{D R g o n cap:Nat}{jn iv:A6}{ch:Bool}{t:By}{x y:Option Addr}{c c2:Nat}
theorem Qt{a:Option Addr}(hd:DB w D (.pointer (some ⟨R,0,none⟩)) jn ch iv):
  Bs AS 198 #[.pointer (some ⟨D,0,none⟩),.slice a 0 cap] w fun e w'=>e=.returned (.tuple #[plV (.slice none 0 0) R [] 0,.int .i64 0])/\A1 w.heap.size w w':=by
 have q4:=hd.lt;have q0:∀o,(w.alloc o).cell? ⟨D,0,none⟩=some (.pointer (some ⟨R,0,none⟩)):=fun o=>(World.cell?_of_block (w:=w) (Below.heap_alloc w o D q4)).trans hd.c0;have d0:=q0 (.cells #[.slice none 0 0,.pointer none,.string ⟨#[]⟩,.int .i64 0] 185);clear hd q0
 go_enter func198,ntmps198
 go_wp2_with (fail);refine A3 (v:=.tuple #[plV (.slice none 0 0) R [] 0,.int .i64 0]) (by simp[D0,results198,go_sem]) rfl ⟨rfl,?_⟩
 exact (C1 _ _).alloc (A2 _) _
theorem Qs(hc:c≠0)(hP:∀w1,A1 w.heap.size w w1->Bs AS 243 #[.pointer (some ⟨D,0,none⟩),.slice (some ⟨g,o,none⟩) (n+1) cap] w1 fun e w'=>e=.returned (.tuple #[.pointer x,.string ⟨t.toArray⟩,.int .i64 c])/\A1 w1.heap.size w1 w'):
  Bs AS 198 #[.pointer (some ⟨D,0,none⟩),.slice (some ⟨g,o,none⟩) (n+1) cap] w fun e w'=>e=.returned (.tuple #[plZ,.int .i64 c])/\A1 w.heap.size w w':=by
 have HP:=Ab hP;have q0:ZB (w.alloc (.cells #[.slice none 0 0,.pointer none,.string ⟨#[]⟩,.int .i64 0] 185)) w.heap.size:=Dp w _;have q4:=Ab ((C1 w.heap.size w).alloc (A2 _) (.cells #[.slice none 0 0,.pointer none,.string ⟨#[]⟩,.int .i64 0] 185));have HZ:=Ab q0;have e1:¬ ((n:Int)+1=0):=by omega
 have e2:((c:Int) != 0)=true:=by rw[bne_iff_ne];omega
 have e3:((c:Int)==0)=false:=by rw[beq_eq_false_iff_ne];omega
 have hs:w.heap.size<(w.alloc (.cells #[.slice none 0 0,.pointer none,.string ⟨#[]⟩,.int .i64 0] 185)).heap.size:=q0.lt;clear hP q0
 go_enter func198,ntmps198
 go_wp2_with (fail);generalize w.alloc (.cells #[.slice none 0 0,.pointer none,.string ⟨#[]⟩,.int .i64 0] 185)=wa at *
 refine (Aa HP wa (Aa q4)).mono ?_;rintro e w2 ⟨rfl,hb⟩;have h2:=(Aa HZ).low hb;have g0:=h2.c0;have g1:=h2.c1;have g2:=h2.c2;have g3:=h2.c3;have z:=h2.fz;have HB:=Ab ((Aa q4).trans (hb.mono (by omega)));clear h2 hb
 go_wp2_with (fail);refine A3 (v:=.tuple #[plZ,.int .i64 c]) (by simp[D0,results198,go_sem,g0,g1,g2,g3]) rfl ⟨rfl,GP (Aa HB) _ (A2 _) _ _ _ _⟩
theorem Qu(hc:c≠0)(hP:∀w1,A1 w.heap.size w w1->Bs AS 243 #[.pointer (some ⟨D,0,none⟩),.slice (some ⟨g,o,none⟩) (n+1) cap] w1 fun e w'=>e=.returned (.tuple #[.pointer x,.string ⟨t.toArray⟩,.int .i64 0])/\A1 w1.heap.size w1 w')(hK:∀w1,A1 w.heap.size w w1->Bs AS 111 #[.pointer x,.string ⟨t.toArray⟩] w1 fun e w'=>e=.returned (.tuple #[.pointer y,.int .i64 c])/\A1 w1.heap.size w1 w'):
  Bs AS 198 #[.pointer (some ⟨D,0,none⟩),.slice (some ⟨g,o,none⟩) (n+1) cap] w fun e w'=>e=.returned (.tuple #[plZ,.int .i64 c])/\A1 w.heap.size w w':=by
 have HP:=Ab hP;have HK:=Ab hK;have q0:ZB (w.alloc (.cells #[.slice none 0 0,.pointer none,.string ⟨#[]⟩,.int .i64 0] 185)) w.heap.size:=Dp w _;have q4:=Ab ((C1 w.heap.size w).alloc (A2 _) (.cells #[.slice none 0 0,.pointer none,.string ⟨#[]⟩,.int .i64 0] 185));have HZ:=Ab q0;have e1:¬ ((n:Int)+1=0):=by omega
 have e2:((c:Int) != 0)=true:=by rw[bne_iff_ne];omega
 have e3:((c:Int)==0)=false:=by rw[beq_eq_false_iff_ne];omega
 have hs:w.heap.size<(w.alloc (.cells #[.slice none 0 0,.pointer none,.string ⟨#[]⟩,.int .i64 0] 185)).heap.size:=q0.lt;clear hP hK q0
 go_enter func198,ntmps198
 go_wp2_with (fail);generalize w.alloc (.cells #[.slice none 0 0,.pointer none,.string ⟨#[]⟩,.int .i64 0] 185)=wa at *
 refine (Aa HP wa (Aa q4)).mono ?_;rintro e w2 ⟨rfl,hb⟩;have h2:=(Aa HZ).low hb;have q6:=Ab h2;have hs2:w.heap.size<w2.heap.size:=h2.lt;have HB:=Ab ((Aa q4).trans (hb.mono (by omega)));clear h2 hb
 go_wp2_with (fail);refine (Aa HK w2 (Aa HB)).mono ?_
 rintro e w3 ⟨rfl,hb⟩;have h2:=(Aa q6).low hb;have g0:=h2.c0;have g1:=h2.c1;have g2:=h2.c2;have g3:=h2.c3;have z:=h2.fz;have q5:=Ab ((Aa HB).trans (hb.mono (by omega)));clear h2 hb
 go_wp2_with (fail);refine A3 (v:=.tuple #[plZ,.int .i64 c]) (by simp[D0,results198,go_sem,g0,g1,g2,g3]) rfl ⟨rfl,GP (Aa q5) _ (A2 _) _ _ _ _⟩
theorem SN{b:Nat}{io:Option Nat}(hP:∀w1,A1 w.heap.size w w1->Bs AS 243 #[.pointer (some ⟨D,0,none⟩),.slice (some ⟨g,o,none⟩) (n+1) cap] w1 fun e w'=>e=.returned (.tuple #[.pointer (some ⟨b,0,none⟩),.string ⟨t.toArray⟩,.int .i64 0])/\A1 w1.heap.size w1 w')(hK:∀w1,A1 w.heap.size w w1->Bs AS 111 #[.pointer (some ⟨b,0,none⟩),.string ⟨t.toArray⟩] w1 fun e w'=>(∃y,e=.returned (.tuple #[.pointer y,.int .i64 0]))/\A1 w1.heap.size w1 w')(hI:∀w1,A1 w.heap.size w w1->Bs AS 147 #[.string ⟨t.toArray⟩] w1 fun e w'=>e=.returned (ET io)/\A1 w1.heap.size w1 w'):
  Bs AS 198 #[.pointer (some ⟨D,0,none⟩),.slice (some ⟨g,o,none⟩) (n+1) cap] w fun e w'=>e=.returned (.tuple #[plV (.slice (some ⟨g,o,none⟩) (n+1) cap) b t (io.getD 0),.int .i64 0])/\A1 w.heap.size w w':=by
 obtain⟨i,bo,q4⟩:∃ (i:Nat) (bo:Bool),ET io=.tuple #[.int .i64 i,.bool bo]/\io.getD 0=i:=by
  cases io with
  | none=>exact⟨0,false,rfl,rfl⟩
  | some i=>exact⟨i,true,rfl,rfl⟩
 rw[q4.1] at hI;rw[q4.2];clear q4;have HP:=Ab hP;have HK:=Ab hK;have HI:=Ab hI;have q0:ZB (w.alloc (.cells #[.slice none 0 0,.pointer none,.string ⟨#[]⟩,.int .i64 0] 185)) w.heap.size:=Dp w _;have q6:=Ab ((C1 w.heap.size w).alloc (A2 _) (.cells #[.slice none 0 0,.pointer none,.string ⟨#[]⟩,.int .i64 0] 185));have HZ:=Ab q0;have e1:¬ ((n:Int)+1=0):=by omega
 have hs:w.heap.size<(w.alloc (.cells #[.slice none 0 0,.pointer none,.string ⟨#[]⟩,.int .i64 0] 185)).heap.size:=q0.lt;clear hP hK hI q0
 go_enter func198,ntmps198
 go_wp2_with (fail);generalize w.alloc (.cells #[.slice none 0 0,.pointer none,.string ⟨#[]⟩,.int .i64 0] 185)=wa at *
 refine (Aa HP wa (Aa q6)).mono ?_;rintro e w2 ⟨rfl,hb⟩;have h2:=(Aa HZ).low hb;have q8:=Ab h2;have hs2:w.heap.size<w2.heap.size:=h2.lt;have HB:=Ab ((Aa q6).trans (hb.mono (by omega)));clear h2 hb
 go_wp2_with (fail);refine (Aa HK w2 (Aa HB)).mono ?_
 rintro e w3 ⟨⟨y,rfl⟩,hb⟩;have h2:=(Aa q8).low hb;have q9:=Ab h2;have qb:w.heap.size<w3.heap.size:=h2.lt;have q5:=Ab ((Aa HB).trans (hb.mono (by omega)));clear h2 hb
 go_wp2_with (fail);refine (Aa HI w3 (Aa q5)).mono ?_
 rintro e w4 ⟨rfl,hb⟩;have h2:=(Aa q9).low hb;have g0:=h2.c0;have g1:=h2.c1;have g2:=h2.c2;have g3:=h2.c3;have z:=h2.fz;have q7:=Ab ((Aa q5).trans (hb.mono (by omega)));clear h2 hb
 go_wp2_with (fail);refine A3 (v:=.tuple #[plV (.slice (some ⟨g,o,none⟩) (n+1) cap) b t i,.int .i64 0]) (by simp[D0,results198,go_sem,g0,g1,g2,g3]) rfl ⟨rfl,GP (Aa q7) _ (A2 _) _ _ _ _⟩
end
end Go.Proofs.YtdpomdelmdofmaaGreatDoor
