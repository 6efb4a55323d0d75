import Derived.Test.YtdpomdelmdofmaaGreatDoorUnd20
set_option maxHeartbeats 2000000
namespace Go.Proofs.YtdpomdelmdofmaaGreatDoor
open Go.Proofs.Tryz
open Go.RowKit Go.Maps
theorem CQ.form{w:World}{v:Value}{l:List Sp.By}(h:CQ w v l):∃a c,v = .slice a l.length c/\l.length<=c\/l.length=0/\v = .slice a l.length c:=by
 rcases h with⟨rfl,a,c,rfl,_⟩|⟨g,o,cap,rfl,h1,_⟩
 ·exact⟨a,c,Or.inr ⟨rfl,rfl⟩⟩
 ·exact⟨_,cap,Or.inl ⟨rfl,h1⟩⟩
theorem IF{w:World}{v1 v2:Value}{l m:List Sp.By}(h1:CQ w v1 l)(h2:CQ w v2 m) :
  Calls Tryz.prog 202 #[v1,v2] w fun e w'=>e = .returned (.bool (l == m))/\Below w.heap.size w w':=by
 by_cases hlm:l.length=m.length
 ·by_cases hl0:l.length=0
  ·have hl:l=[]:=List.length_eq_zero_iff.1 hl0;have hm:m=[]:=List.length_eq_zero_iff.1 (by omega);subst hl;subst hm;obtain⟨a1,c1,e1⟩:=h1.form;obtain⟨a2,c2,e2⟩:=h2.form;have e1':v1 = .slice a1 0 c1:=e1.elim (fun h=>h.1) (fun h=>h.2);have e2':v2 = .slice a2 0 c2:=e2.elim (fun h=>h.1) (fun h=>h.2);subst e1';subst e2';exact PG
  ·rcases h1 with⟨rfl,_⟩|⟨g1,o1,c1,rfl,b1,b2,t1⟩
   ·exact absurd rfl hl0
   ·rcases h2 with⟨rfl,_⟩|⟨g2,o2,c2,rfl,d1,d2,t2⟩
    ·exact absurd hlm hl0
    ·exact PF t1 t2 (by omega) (by omega)
 ·obtain⟨a1,c1,e1⟩:=h1.form;obtain⟨a2,c2,e2⟩:=h2.form;have e1':v1 = .slice a1 l.length c1:=e1.elim (fun h=>h.1) (fun h=>h.2);have e2':v2 = .slice a2 m.length c2:=e2.elim (fun h=>h.1) (fun h=>h.2);subst e1';subst e2';refine (PE hlm).mono ?_;rintro e w' ⟨rfl,hb⟩;have:(l == m)=false:=by rw[beq_eq_false_iff_ne];rintro rfl;exact hlm rfl
  rw[this];exact⟨rfl,hb⟩
theorem Qx{w:World}{v1 v2:Value}{l m:List Sp.By}(h1:CQ w v1 l)(h2:CQ w v2 m) :
  Calls Tryz.prog 203 #[v1,v2] w fun e w'=>e = .returned (.bool (Sp.leads l m))/\Below w.heap.size w w':=by
 obtain⟨a2,c2,e2⟩:=h2.form;have e2':v2 = .slice a2 m.length c2:=e2.elim (fun h=>h.1) (fun h=>h.2);clear e2;subst e2';by_cases hlt:m.length<l.length
 ·rcases h1 with⟨rfl,_⟩|⟨g1,o1,c1,rfl,b1,b2,t1⟩
  ·simp at hlt
  ·have hT:CQ w (.slice (some ⟨g1,o1,none⟩) m.length c1) (l.take m.length):=by
    have hl:(l.take m.length).length=m.length:=by rw[List.length_take];omega
    refine Or.inr ⟨g1,o1,c1,by rw[hl],by omega,b2,t1.1,fun k hk=>?_⟩;rw[t1.2 k (by omega)];simp
   have HC:=Ab (IF hT h2);have HE:=Ab (show Sp.leads l m=(l.take m.length == m) by unfold Sp.leads;rw[decide_eq_true hlt,Bool.true_and]);have e1:decide ((m.length:Int)<(l.length:Int))=true:=by rw[decide_eq_true_iff];omega
   have l1:(m.length:Int)<(l.length:Int):=by omega
   have l2:m.length<=c1:=by omega
   have l4:(0:Int)<=(m.length:Int):=by omega
   generalize m.length=M at *;generalize l.length=LL at *;clear hT h2 t1
   go_enter func203,ntmps203
   go_wp2_with (fail);refine (Aa HC).mono ?_
   rintro e w2 ⟨rfl,hb⟩
   go_wp2_with (fail);refine bodyPost_ret (v:=.bool (l.take M == m)) (by simp[results,results203,go_sem]) rfl ⟨by rw[Aa HE],hb⟩
 ·have HE:=Ab (show Sp.leads l m=false by unfold Sp.leads;rw[decide_eq_false hlt];rfl);obtain⟨a1,c1,f1⟩:=h1.form;have f1':v1 = .slice a1 l.length c1:=f1.elim (fun h=>h.1) (fun h=>h.2);clear f1;subst f1';have e1:decide ((m.length:Int)<(l.length:Int))=false:=by rw[decide_eq_false_iff_not];omega
  have l1:¬ (m.length:Int)<(l.length:Int):=by omega
  generalize m.length=M at *;generalize l.length=LL at *;clear h1 h2
  go_enter func203,ntmps203
  go_wp2_with (fail);refine bodyPost_ret (v:=.bool false) (by simp[results,results203,go_sem]) rfl ⟨by rw[Aa HE],Below.refl _ _⟩
end Go.Proofs.YtdpomdelmdofmaaGreatDoor

namespace Go.Proofs.YtdpomdelmdofmaaGreatDoor
open Go.Proofs.Tryz
open Go.RowKit Go.Maps
namespace Sp
theorem CK{d D x:Int}(hd:d<=D):∀ {f:Nat} {lv:Int} {v:V},gd d x f lv v->gd D x f lv v
 | 0,_,_,h=>h.elim
 | f+1,lv,v,⟨h0,h⟩=>by
  refine⟨Int.le_trans h0 hd,?_⟩;rcases h with h|h|h|⟨es,h,rfl⟩|⟨es,h1,h2,rfl⟩
  ·exact Or.inl h
  ·exact Or.inr (Or.inl h)
  ·exact Or.inr (Or.inr (Or.inl h))
  ·exact Or.inr (Or.inr (Or.inr (Or.inl ⟨es,fun e he=>CK hd (h e he),rfl⟩)))
  ·exact Or.inr (Or.inr (Or.inr (Or.inr ⟨es,h1,fun p hp=>⟨(h2 p hp).1,CK hd (h2 p hp).2⟩,rfl⟩)))
theorem EU{d x s:Int}:∀ {f:Nat} {lv:Int} {v:V},gd d x f lv v->gd (d+s) x f (lv+s) v
 | 0,_,_,h=>h.elim
 | f+1,lv,v,⟨h0,h⟩=>by
  refine⟨by omega,?_⟩;have e:lv+s+1=lv+1+s:=by omega
  rcases h with h|h|h|⟨es,h,rfl⟩|⟨es,h1,h2,rfl⟩
  ·exact Or.inl h
  ·exact Or.inr (Or.inl h)
  ·exact Or.inr (Or.inr (Or.inl h))
  ·exact Or.inr (Or.inr (Or.inr (Or.inl ⟨es,fun q he=>by rw[e];exact EU (h q he),rfl⟩)))
  ·exact Or.inr (Or.inr (Or.inr (Or.inr ⟨es,h1,fun p hp=>⟨(h2 p hp).1,by rw[e];exact EU (h2 p hp).2⟩,rfl⟩)))
theorem GM{d x:Int}:∀ {f:Nat} {lv:Int} {v:V},gd d x f lv v->lv<=d
 | 0,_,_,h=>h.elim
 | _+1,_,_,h=>h.1
theorem Cj{d x:Int}:∀ {g f:Nat} {lv:Int} {v:V},gd d x g lv v->d<lv+f->gd d x f lv v
 | 0,_,_,_,h,_=>h.elim
 | g+1,0,lv,v,⟨h0,_⟩,hf=>by omega
 | g+1,f+1,lv,v,⟨h0,h⟩,hf=>by
  refine⟨h0,?_⟩;rcases h with h|h|h|⟨es,h,rfl⟩|⟨es,h1,h2,rfl⟩
  ·exact Or.inl h
  ·exact Or.inr (Or.inl h)
  ·exact Or.inr (Or.inr (Or.inl h))
  ·exact Or.inr (Or.inr (Or.inr (Or.inl ⟨es,fun q he=>Cj (h q he) (by omega),rfl⟩)))
  ·exact Or.inr (Or.inr (Or.inr (Or.inr ⟨es,h1,fun p hp=>⟨(h2 p hp).1,Cj (h2 p hp).2 (by omega)⟩,rfl⟩)))
theorem Nj{d D x:Int}:∀ {f:Nat} {lv:Int} {v:V},gd D x f lv v->lv+dep f v<=d+1->gd d x f lv v
 | 0,_,_,h,_=>h.elim
 | f+1,lv,v,⟨h0,h⟩,hd=>by
  rcases h with⟨k,hk,rfl⟩|⟨s,hs,rfl⟩|⟨n,h1,h2,h3,rfl⟩|⟨es,h,rfl⟩|⟨es,h1,h2,rfl⟩
  ·have:dep (f+1) (BV k)=1:=rfl;exact⟨by omega,Or.inl ⟨k,hk,rfl⟩⟩
  ·have:dep (f+1) (Az s)=1:=rfl;exact⟨by omega,Or.inr (Or.inl ⟨s,hs,rfl⟩)⟩
  ·have:dep (f+1) (Bj n)=1:=rfl;exact⟨by omega,Or.inr (Or.inr (Or.inl ⟨n,h1,h2,h3,rfl⟩))⟩
  ·rw[Pi] at hd;have h0':=ED (es.map (dep f));refine⟨by omega,Or.inr (Or.inr (Or.inr (Or.inl ⟨es,fun q he=>Nj (h q he) ?_,rfl⟩)))⟩;have:=Is (List.mem_map.2 ⟨q,he,rfl⟩:dep f q∈es.map (dep f));omega
  ·rw[Ph] at hd;have h0':=ED (es.map fun p=>dep f p.2);refine⟨by omega,Or.inr (Or.inr (Or.inr (Or.inr ⟨es,h1,fun p hp=>⟨(h2 p hp).1,Nj (h2 p hp).2 ?_⟩,rfl⟩)))⟩;have:=Is (List.mem_map.2 ⟨p,hp,rfl⟩:dep f p.2∈es.map fun p=>dep f p.2);omega
theorem Fu{d x:Int}{f:Nat}{lv:Int}{v e:V}{i:Nat}(h:gd d x (f+1) lv v)(he:(A9 v)[i]? = some e):gd d x f (lv+1) e:=by
 obtain⟨_,h⟩:=h;rcases h with⟨k,hk,rfl⟩|⟨s,hs,rfl⟩|⟨n,h1,h2,h3,rfl⟩|⟨es,h,rfl⟩|⟨es,h1,h2,rfl⟩
 ·cases he
 ·cases he
 ·cases he
 ·exact h e (List.mem_of_getElem? he)
 ·obtain⟨p,hp,rfl⟩:=List.mem_map.1 (List.mem_of_getElem? (show (es.map Prod.snd)[i]? = some e from he));exact (h2 p hp).2
theorem Ni{d x:Int}:∀ {p:List Nat} {f:Nat} {lv:Int} {v n:V},gd d x (f+p.length) lv v->BC p v=some n->gd d x f (lv+p.length) n
 | [],f,lv,v,n,h,hs=>by
  injection hs with hs;subst hs;simpa using h
 | i::r,f,lv,v,n,h,hs=>by
  have h':gd d x ((f+r.length)+1) lv v:=h;rw[BC] at hs;cases hk:(A9 v)[i]? with
  | none=>rw[hk] at hs;cases hs
  | some e =>
   rw[hk] at hs;have ih:=Ni (Fu h' hk) hs;rw[show lv+((i::r).length:Nat)=lv+1+(r.length:Nat) by rw[List.length_cons];omega];exact ih
theorem DM{α β:Type}(x:β):∀ (es:List (α×β)) (i:Nat),(es.modify i fun p=>(p.1,x)).map Prod.fst=es.map Prod.fst
 | [],i=>by simp
 | a::r,0=>by simp
 | a::r,i+1=>by simp[DM x r i]
theorem J0{α β:Type}{x:β}{q:α×β}:∀ {es:List (α×β)} {i:Nat},q∈(es.modify i fun p=>(p.1,x))->q∈es\/q.2=x /\ ∃p∈es,p.1=q.1
 | [],i,h=>by simp at h
 | a::r,0,h=>by
  rw[List.modify_zero_cons] at h;rcases List.mem_cons.1 h with rfl|h
  ·exact Or.inr ⟨rfl,a,by simp,rfl⟩
  ·exact Or.inl (List.mem_cons_of_mem _ h)
 | a::r,i+1,h=>by
  rw[List.modify_succ_cons] at h;rcases List.mem_cons.1 h with rfl|h
  ·exact Or.inl (by simp)
  ·rcases J0 h with h|⟨h1,p,h2,h3⟩
   ·exact Or.inl (List.mem_cons_of_mem _ h)
   ·exact Or.inr ⟨h1,p,List.mem_cons_of_mem _ h2,h3⟩
theorem Wx{d x:Int}{f:Nat}{lv:Int}{v e:V}{i:Nat}(h:gd d x (f+1) lv v)(he:gd d x f (lv+1) e):gd d x (f+1) lv (CU i e v):=by
 obtain⟨h0,h⟩:=h;rcases h with⟨k,hk,rfl⟩|⟨s,hs,rfl⟩|⟨n,h1,h2,h3,rfl⟩|⟨es,h,rfl⟩|⟨es,h1,h2,rfl⟩
 ·exact⟨h0,Or.inl ⟨k,hk,rfl⟩⟩
 ·exact⟨h0,Or.inr (Or.inl ⟨s,hs,rfl⟩)⟩
 ·exact⟨h0,Or.inr (Or.inr (Or.inl ⟨n,h1,h2,h3,rfl⟩))⟩
 ·refine⟨h0,Or.inr (Or.inr (Or.inr (Or.inl ⟨es.set i e,fun q hq=>?_,rfl⟩)))⟩;rcases List.mem_or_eq_of_mem_set hq with hq|rfl
  ·exact h q hq
  ·exact he
 ·refine⟨h0,Or.inr (Or.inr (Or.inr (Or.inr ⟨es.modify i fun p=>(p.1,e),?_,fun q hq=>?_,rfl⟩)))⟩
  ·have h3:(es.map Prod.fst).Pairwise (fun k l=>k.before l=true):=List.pairwise_map.2 h1;rw[<- DM e es i] at h3;exact List.pairwise_map.1 h3
  ·rcases J0 hq with hq|⟨rfl,p,hp,hpk⟩
   ·exact h2 q hq
   ·exact⟨hpk▸(h2 p hp).1,he⟩
theorem Kc{d x:Int}:∀ {p:List Nat} {f:Nat} {lv:Int} {v n n':V},gd d x (f+p.length) lv v->BC p v=some n->gd d x f (lv+p.length) n'->gd d x (f+p.length) lv (Ay p n' v)
 | [],f,lv,v,n,n',h,hs,hn=>by simpa[Ay] using hn
 | i::r,f,lv,v,n,n',h,hs,hn=>by
  have h':gd d x ((f+r.length)+1) lv v:=h;rw[BC] at hs;cases hk:(A9 v)[i]? with
  | none=>rw[hk] at hs;cases hs
  | some e =>
   rw[hk] at hs;rw[show lv+((i::r).length:Nat)=lv+1+(r.length:Nat) by rw[List.length_cons];omega] at hn;show gd d x ((f+r.length)+1) lv _;rw[Ay,hk];exact Wx h' (Kc (Fu h' hk) hs hn)
theorem T8{α:Type}{i:Nat}{c q:α}{l:List α}(h:q∈lins i c l):q=c\/q∈l:=by
 have:=(ES i c l).mem_iff.1 h;exact List.mem_cons.1 this
theorem Ua{α:Type}{i:Nat}{q:α}{l:List α}(h:q∈ldel i l):q∈l:=by
 rcases List.mem_append.1 h with h|h
 ·exact List.mem_of_mem_take h
 ·exact List.mem_of_mem_drop h
theorem O6{d x:Int}{f:Nat}{lv:Int}{k:By}{c:V}{es:List (Lit×V)}(h1:es.Pairwise (fun p q=>p.1.before q.1=true))(h2:∀p∈es,(∃s,p.1 = .string s/\Ut s)/\gd d x f (lv+1) p.2)(hk:Ut k)(hc:gd d x f (lv+1) c) :
  (mput (.string k) c es).Pairwise (fun p q=>p.1.before q.1=true) /\ ∀p∈mput (.string k) c es,(∃s,p.1 = .string s/\Ut s)/\gd d x f (lv+1) p.2:=by
 refine⟨(Cg ⟨h1,fun p hp=>?_⟩).1,fun p hp=>?_⟩
 ·obtain⟨s,hs,_⟩:=(h2 p hp).1;exact⟨s,hs⟩
 ·rcases List.mem_cons.1 ((Df (.string k) c es).mem_iff.1 hp) with rfl|hp
  ·exact⟨⟨k,rfl,hk⟩,hc⟩
  ·exact h2 p (List.mem_filter.1 hp).1
theorem R1{d x:Int}{f:Nat}{lv:Int}{i:Nat}{k:By}{v c:V}(h:gd d x (f+1) lv v)(hk:Ut k)(hc:gd d x f (lv+1) c):gd d x (f+1) lv (CV i k c v):=by
 obtain⟨h0,h⟩:=h;rcases h with⟨j,hj,rfl⟩|⟨s,hs,rfl⟩|⟨n,h1,h2,h3,rfl⟩|⟨es,h,rfl⟩|⟨es,h1,h2,rfl⟩
 ·exact⟨h0,Or.inl ⟨j,hj,rfl⟩⟩
 ·exact⟨h0,Or.inr (Or.inl ⟨s,hs,rfl⟩)⟩
 ·exact⟨h0,Or.inr (Or.inr (Or.inl ⟨n,h1,h2,h3,rfl⟩))⟩
 ·refine⟨h0,Or.inr (Or.inr (Or.inr (Or.inl ⟨lins i c es,fun q hq=>?_,rfl⟩)))⟩;rcases T8 hq with rfl|hq
  ·exact hc
  ·exact h q hq
 ·obtain⟨h3,h4⟩:=O6 h1 h2 hk hc;exact⟨h0,Or.inr (Or.inr (Or.inr (Or.inr ⟨mput (.string k) c es,h3,h4,rfl⟩)))⟩
theorem RZ{d x:Int}{f:Nat}{lv:Int}{i:Nat}{k:By}{v c:V}(h:gd d x (f+1) lv v)(hk:Ut k)(hc:gd d x f (lv+1) c):gd d x (f+1) lv (DH i k c v):=by
 obtain⟨h0,h⟩:=h;rcases h with⟨j,hj,rfl⟩|⟨s,hs,rfl⟩|⟨n,h1,h2,h3,rfl⟩|⟨es,h,rfl⟩|⟨es,h1,h2,rfl⟩
 ·exact⟨h0,Or.inl ⟨j,hj,rfl⟩⟩
 ·exact⟨h0,Or.inr (Or.inl ⟨s,hs,rfl⟩)⟩
 ·exact⟨h0,Or.inr (Or.inr (Or.inl ⟨n,h1,h2,h3,rfl⟩))⟩
 ·refine⟨h0,Or.inr (Or.inr (Or.inr (Or.inl ⟨es.set i c,fun q hq=>?_,rfl⟩)))⟩;rcases List.mem_or_eq_of_mem_set hq with hq|rfl
  ·exact h q hq
  ·exact hc
 ·obtain⟨h3,h4⟩:=O6 h1 h2 hk hc;exact⟨h0,Or.inr (Or.inr (Or.inr (Or.inr ⟨mput (.string k) c es,h3,h4,rfl⟩)))⟩
theorem R0{d x:Int}{f:Nat}{lv:Int}{i:Nat}{k:By}{v:V}(h:gd d x (f+1) lv v):gd d x (f+1) lv (Eu i k v):=by
 obtain⟨h0,h⟩:=h;rcases h with⟨j,hj,rfl⟩|⟨s,hs,rfl⟩|⟨n,h1,h2,h3,rfl⟩|⟨es,h,rfl⟩|⟨es,h1,h2,rfl⟩
 ·exact⟨h0,Or.inl ⟨j,hj,rfl⟩⟩
 ·exact⟨h0,Or.inr (Or.inl ⟨s,hs,rfl⟩)⟩
 ·exact⟨h0,Or.inr (Or.inr (Or.inl ⟨n,h1,h2,h3,rfl⟩))⟩
 ·exact⟨h0,Or.inr (Or.inr (Or.inr (Or.inl ⟨ldel i es,fun q hq=>h q (Ua hq),rfl⟩)))⟩
 ·exact⟨h0,Or.inr (Or.inr (Or.inr (Or.inr ⟨mdel (.string k) es,h1.filter _,fun p hp=>h2 p (List.mem_filter.1 hp).1,rfl⟩)))⟩
end Sp
end Go.Proofs.YtdpomdelmdofmaaGreatDoor

namespace Go.Proofs.YtdpomdelmdofmaaGreatDoor
open Go.Proofs.Tryz
open Go.RowKit Go.Maps
namespace Sp
def sz:Nat->V->Nat
 | 0,_=>0
 | f+1,d=>match d with
  | .slice es _=>2+(es.map fun e=>sz f e+1).sum
  | .map es=>2+(es.map fun p=>(Ah (strOf p.1)).length+2+sz f p.2).sum
  | d=>(can (f+1) d).length
theorem JK(f:Nat)(es:List V):sz (f+1) (Ar es)=2+(es.map fun e=>sz f e+1).sum:=rfl
theorem CY(f:Nat)(es:List (Lit×V)):sz (f+1) (Av es)=2+(es.map fun p=>(Ah (strOf p.1)).length+2+sz f p.2).sum:=rfl
theorem He{α:Type}{q r:α->Nat}:∀ {l:List α},(∀a∈l,q a<=r a)->(l.map q).sum<=(l.map r).sum
 | [],_=>Nat.le_refl _
 | a::l,h=>by
  have h1:=h a (by simp);have h2:=He (q:=q) (r:=r) (l:=l) fun b hb=>h b (by simp[hb]);simp only[List.map_cons,List.sum_cons];omega
theorem Ks{α:Type}{q:α->Nat}:∀ (l:List α),(l.map fun a=>2*q a).sum=2*(l.map q).sum
 | []=>rfl
 | a::l=>by simp only[List.map_cons,List.sum_cons,Ks l];omega
theorem GK(l:List By):(Ai l).length+1 ≥ (l.map fun x=>x.length+1).sum:=by
 cases l with
 | nil=>simp
 | cons x r=>simp[Ai,Lv];omega
theorem OI{es:List (Lit×V)}(h1:es.Pairwise (fun p q=>p.1.before q.1=true))(h2:∀p∈es,∃s,p.1 = .string s):es.Pairwise (fun p q=>p.1≠q.1):=by
 refine List.Pairwise.imp_of_mem ?_ h1;intro p q hp _ hb e;obtain⟨s,hs⟩:=h2 p hp;rw[<- e,hs] at hb;have h9:bytesBefore s s=true:=hb;rw[WideAt.bytes_irrefl] at h9;cases h9
theorem TD{g:Nat}{es:List (Lit×V)}(hp:es.Pairwise (fun p q=>p.1≠q.1))(hk:∀p∈es,∃x,p.1 = .string x) :
  Dl g es<=(Ai ((skeys es).map (item g es))).length+1:=by
 refine Nat.le_trans (Nat.le_of_eq ?_) (GK _);rw[List.map_map];have h1:((skeys es).map ((fun x=>x.length+1) ∘ item g es)).Perm ((keys es).map ((fun x=>x.length+1) ∘ item g es)):=(List.mergeSort_perm _ _).map _;rw[h1.sum_nat];unfold keys Dl;rw[List.map_map];congr 1;apply List.map_congr_left;intro p hpm;obtain⟨x,hx⟩:=hk p hpm;have h2:look es x=p.2:=by
  unfold look;exact WideAt.atKey_mem .nil trivial hp (by rw[<- hx];exact hpm)
 obtain⟨k,v⟩:=p;simp only at hx h2;subst hx;simp only[Function.comp,ent,strOf];rw[item_len,h2];omega
theorem CO{d x:Int}:∀ {f:Nat} {lv:Int} {v:V},gd d x f lv v->(can f v).length<=sz f v/\sz f v<=2*(can f v).length
 | 0,_,_,h=>h.elim
 | f+1,lv,v,⟨h0,h⟩=>by
  rcases h with⟨k,hk,rfl⟩|⟨s,hs,rfl⟩|⟨n,h1,h2,h3,rfl⟩|⟨es,h,rfl⟩|⟨es,h1,h2,rfl⟩
  ·have:sz (f+1) (BV k)=(can (f+1) (BV k)).length:=rfl;omega
  ·have:sz (f+1) (Az s)=(can (f+1) (Az s)).length:=rfl;omega
  ·have:sz (f+1) (Bj n)=(can (f+1) (Bj n)).length:=rfl;omega
  ·rw[JK,CP];have a1:=ET (es.map (can f));have a2:=GK (es.map (can f));rw[List.map_map] at a1 a2;have b1:(es.map ((fun x=>x.length+1) ∘ can f)).sum<=(es.map fun e=>sz f e+1).sum:=He fun e he=>by
    have:=(CO (h e he)).1;show (can f e).length+1<=_;omega
   have b2:(es.map fun e=>sz f e+1).sum<=(es.map fun e=>2*((fun x:By=>x.length+1) ∘ can f) e).sum:=He fun e he=>by
    have:=(CO (h e he)).2;show _<=2*((can f e).length+1);omega
   rw[Ks] at b2;simp only[List.length_cons,List.length_append,List.length_nil];omega
  ·have hk:∀p∈es,∃s,p.1 = .string s:=fun p hp=>by
    obtain⟨s,hs,_⟩:=(h2 p hp).1;exact⟨s,hs⟩
   have hne:=OI h1 hk;rw[CY,IB];have a1:=OU (g:=f) hne hk;have a2:=TD (g:=f) hne hk;unfold Dl at a1 a2;have e1:(Ai ((skeys es).map (item f es)))=Ai (((keys es).mergeSort fun x y=>decide (x<=y)).map fun k=>Ah k++58::can f (look es k)):=rfl;rw[e1] at a1 a2;have b1:(es.map (ent f)).sum<=(es.map fun p=>(Ah (strOf p.1)).length+2+sz f p.2).sum:=He fun p hp=>by
    have:=(CO (h2 p hp).2).1;unfold ent;omega
   have b2:(es.map fun p=>(Ah (strOf p.1)).length+2+sz f p.2).sum<=(es.map fun p=>2*ent f p).sum:=He fun p hp=>by
    have:=(CO (h2 p hp).2).2;unfold ent;omega
   rw[Ks] at b2;simp only[List.length_cons,List.length_append,List.length_nil];omega
theorem Gw{α:Type}{q:α->Nat}(c:α->Bool):∀ (l:List α),((l.filter c).map q).sum<=(l.map q).sum
 | []=>Nat.le_refl _
 | a::r=>by
  have:=Gw (q:=q) c r;rw[List.filter_cons];split
  ·simp only[List.map_cons,List.sum_cons];omega
  ·simp only[List.map_cons,List.sum_cons];omega
theorem OA{α:Type}{q:α->Nat}(x:α):∀ (l:List α) (i:Nat),((l.set i x).map q).sum<=(l.map q).sum+q x
 | [],i=>by simp
 | a::r,0=>by simp only[List.set_cons_zero,List.map_cons,List.sum_cons];omega
 | a::r,i+1=>by have:=OA (q:=q) x r i;simp only[List.set_cons_succ,List.map_cons,List.sum_cons];omega
theorem Kr{f:Nat}{d x:Int}{lv:Int}{v e n:V}{i:Nat}(h:gd d x (f+1) lv v)(hi:(A9 v)[i]? = some n):sz (f+1) (CU i e v)+sz f n=sz (f+1) v+sz f e:=by
 have hset:∀ {α:Type} {q:α->Nat} (y z:α) (l:List α) (i:Nat),l[i]? = some y->((l.set i z).map q).sum+q y=(l.map q).sum+q z:=by
  intro α q y z l;induction l with
  | nil=>intro i h;simp at h
  | cons a r ih =>
   intro i h;cases i with
   | zero =>
    rw[List.getElem?_cons_zero] at h;injection h with h;subst h;simp only[List.set_cons_zero,List.map_cons,List.sum_cons];omega
   | succ i =>
    have:=ih i (by simpa using h);simp only[List.set_cons_succ,List.map_cons,List.sum_cons];omega
 have hmod:∀ (l:List (Lit×V)) (i:Nat),(l.map Prod.snd)[i]? = some n->((l.modify i fun p=>(p.1,e)).map fun p=>(Ah (strOf p.1)).length+2+sz f p.2).sum+sz f n=(l.map fun p=>(Ah (strOf p.1)).length+2+sz f p.2).sum+sz f e:=by
  intro l;induction l with
  | nil=>intro i h;simp at h
  | cons a r ih =>
   intro i h;cases i with
   | zero =>
    rw[List.map_cons,List.getElem?_cons_zero] at h;injection h with h;subst h;simp only[List.modify_zero_cons,List.map_cons,List.sum_cons];omega
   | succ i =>
    have:=ih i (by simpa using h);simp only[List.modify_succ_cons,List.map_cons,List.sum_cons];omega
 obtain⟨_,h⟩:=h;rcases h with⟨k,hk,rfl⟩|⟨s,hs,rfl⟩|⟨m,h1,h2,h3,rfl⟩|⟨es,h,rfl⟩|⟨es,h1,h2,rfl⟩
 ·cases hi
 ·cases hi
 ·cases hi
 ·have hi2:es[i]? = some n:=hi;have:=hset (q:=fun e=>sz f e+1) n e es i hi2;show 2+((es.set i e).map fun e=>sz f e+1).sum+_=2+(es.map fun e=>sz f e+1).sum+_;omega
 ·have:=hmod es i hi;show 2+((es.modify i fun p=>(p.1,e)).map fun p=>(Ah (strOf p.1)).length+2+sz f p.2).sum+_=2+(es.map fun p=>(Ah (strOf p.1)).length+2+sz f p.2).sum+_;omega
theorem JI{d x:Int}:∀ {p:List Nat} {f:Nat} {lv:Int} {v n n':V},gd d x (f+p.length) lv v->BC p v=some n->sz (f+p.length) (Ay p n' v)+sz f n=sz (f+p.length) v+sz f n'
 | [],f,lv,v,n,n',h,hs=>by
  injection hs with hs;subst hs;show sz (f+0) n'+sz f v=sz (f+0) v+sz f n';simp only[Nat.add_zero];omega
 | i::r,f,lv,v,n,n',h,hs=>by
  have h':gd d x ((f+r.length)+1) lv v:=h;rw[BC] at hs;cases hk:(A9 v)[i]? with
  | none=>rw[hk] at hs;cases hs
  | some e =>
   rw[hk] at hs;show sz ((f+r.length)+1) _+_=sz ((f+r.length)+1) _+_;rw[Ay,hk];have ih:=JI (n':=n') (Fu h' hk) hs;have:=Kr (e:=Ay r n' e) h' hk;simp only;omega
theorem Oz{f:Nat}(k:By)(c:V)(es:List (Lit×V)):((mput (.string k) c es).map fun p=>(Ah (strOf p.1)).length+2+sz f p.2).sum<=(es.map fun p=>(Ah (strOf p.1)).length+2+sz f p.2).sum+((Ah k).length+2+sz f c):=by
 rw[((Df (.string k) c es).map _).sum_nat,List.map_cons,List.sum_cons];have:((mdel (.string k) es).map fun p=>(Ah (strOf p.1)).length+2+sz f p.2).sum<=(es.map fun p=>(Ah (strOf p.1)).length+2+sz f p.2).sum:=Gw _ es;have e:strOf (Lit.string k)=k:=rfl;simp only[e];omega
theorem RL{a x q c:Nat}(h:x<=a+(q+2+c)):2+x<=2+a+c+q+2:=by omega
theorem QZ{f i:Nat}{k:By}{c v:V}:sz (f+1) (CV i k c v)<=sz (f+1) v+sz f c+(Ah k).length+2:=by
 unfold CV ved;split
 ·rename_i es y;show 2+((lins i c es).map fun e=>sz f e+1).sum<=2+(es.map fun e=>sz f e+1).sum+_+_+_;rw[((ES i c es).map _).sum_nat,List.map_cons,List.sum_cons];omega
 ·rename_i es;have:=Oz (f:=f) k c es;exact RL this
 ·omega
theorem QX{f i:Nat}{k:By}{c v:V}:sz (f+1) (DH i k c v)<=sz (f+1) v+sz f c+(Ah k).length+2:=by
 unfold DH ved;split
 ·rename_i es y;have:=OA (q:=fun e=>sz f e+1) c es i;show 2+((es.set i c).map fun e=>sz f e+1).sum<=2+(es.map fun e=>sz f e+1).sum+_+_+_;omega
 ·rename_i es;have:=Oz (f:=f) k c es;exact RL this
 ·omega
theorem QY{f i:Nat}{k:By}{v:V}:sz (f+1) (Eu i k v)<=sz (f+1) v:=by
 unfold Eu ved;split
 ·rename_i es y;have h:((ldel i es).map fun e=>sz f e+1).sum<=(es.map fun e=>sz f e+1).sum:=by
   by_cases hi:i<es.length
   ·rw[((FM (List.getElem?_eq_getElem hi)).map (fun e=>sz f e+1)).sum_nat,List.map_cons,List.sum_cons];omega
   ·unfold ldel;rw[List.drop_eq_nil_of_le (by omega),List.append_nil,List.take_of_length_le (by omega)];exact Nat.le_refl _
  show 2+((ldel i es).map fun e=>sz f e+1).sum<=2+(es.map fun e=>sz f e+1).sum;omega
 ·rename_i es;have:((mdel (.string k) es).map fun p=>(Ah (strOf p.1)).length+2+sz f p.2).sum<=(es.map fun p=>(Ah (strOf p.1)).length+2+sz f p.2).sum:=Gw _ es;show 2+((mdel (.string k) es).map fun p=>(Ah (strOf p.1)).length+2+sz f p.2).sum<=2+(es.map fun p=>(Ah (strOf p.1)).length+2+sz f p.2).sum;omega
 ·omega
theorem It{f:Nat}{v:V}:(A9 v).length<=sz (f+1) v:=by
 have h1:∀ {α:Type} {q:α->Nat} (l:List α),(∀a,1<=q a)->l.length<=(l.map q).sum:=by
  intro α q l hq;induction l with
  | nil=>simp
  | cons a r ih=>have:=hq a;simp only[List.map_cons,List.sum_cons,List.length_cons];omega
 unfold A9;split
 ·rename_i es;have:=h1 (q:=fun p:Lit×V=>(Ah (strOf p.1)).length+2+sz f p.2) es fun p=>by omega
  show (es.map Prod.snd).length<=2+(es.map fun p:Lit×V=>(Ah (strOf p.1)).length+2+sz f p.2).sum;rw[List.length_map];omega
 ·rename_i es y;have:=h1 (q:=fun e:V=>sz f e+1) es fun p=>by omega
  show es.length<=2+(es.map fun e:V=>sz f e+1).sum;omega
 ·simp
theorem Mq{d x:Int}:∀ {p:List Nat} {f:Nat} {lv:Int} {v n:V},gd d x (f+p.length) lv v->BC p v=some n->sz f n<=sz (f+p.length) v
 | [],f,lv,v,n,h,hs=>by
  injection hs with hs;subst hs;exact Nat.le_refl _
 | i::r,f,lv,v,n,h,hs=>by
  have h':gd d x ((f+r.length)+1) lv v:=h;rw[BC] at hs;cases hk:(A9 v)[i]? with
  | none=>rw[hk] at hs;cases hs
  | some e =>
   rw[hk] at hs;have ih:=Mq (Fu h' hk) hs;have h1:=Kr (e:=.nil) h' hk;have h2:sz (f+r.length) (.nil:V)=0:=by cases f+r.length<;>rfl
   have h3:sz (f+r.length) e<=sz (f+r.length+1) v:=by omega
   exact Nat.le_trans ih h3
end Sp
end Go.Proofs.YtdpomdelmdofmaaGreatDoor
namespace Go.Proofs.YtdpomdelmdofmaaGreatDoor
open Go.Proofs.Tryz
open Go.RowKit Go.Maps
namespace Sp
theorem Fb{d x:Int}:∀ {f g:Nat} {lv:Int} {v:V},gd d x f lv v->f<=g->sz g v=sz f v
 | 0,_,_,_,h,_=>h.elim
 | f+1,0,_,_,_,h=>by omega
 | f+1,g+1,lv,v,⟨h0,h⟩,hg=>by
  rcases h with⟨k,hk,rfl⟩|⟨s,hs,rfl⟩|⟨n,h1,h2,h3,rfl⟩|⟨es,h,rfl⟩|⟨es,h1,h2,rfl⟩
  ·rfl
  ·rfl
  ·rfl
  ·rw[JK,JK];congr 2;exact List.map_congr_left fun e he=>by rw[Fb (h e he) (by omega)]
  ·rw[CY,CY];congr 2;exact List.map_congr_left fun p hp=>by rw[Fb (h2 p hp).2 (by omega)]
end Sp
end Go.Proofs.YtdpomdelmdofmaaGreatDoor

namespace Go.Proofs.YtdpomdelmdofmaaGreatDoor
open Go.Proofs.Tryz
open Go.RowKit Go.Maps
theorem J3{f:Nat}{w:World}{u:Value}{n:Sp.A}{t:Sp.By}{d:Sp.V}(h:Ae (f+1) w u n)(hc:Sp.Aj (Sp.str (f+1) n) t = .ok d) :
  ∃i c x,Sp.pos (Sp.str (f+1) n) t=some i/\(Sp.AL n)[i]? = some c/\Sp.str f c=d/\Ae f w x c:=by
 have h0:=h;obtain⟨b,g,x,rfl,rfl,h⟩:=h;rcases h with⟨k,hk,_,rfl,h⟩|⟨m,_,rfl,h,hbd⟩|⟨s,_,rfl,h⟩|⟨al,sl,ps,rfl,h,ho,hs,ha⟩|⟨es,m,D,rfl,h,ho,hp⟩
 ·rw[Sp.Tn] at hc;cases hc
 ·rw[Sp.VI] at hc;cases hc
 ·rw[Sp.VG] at hc;cases hc
 ·rw[Sp.Bo] at hc;obtain⟨i,h1,h2,h3⟩:=Sp.G7 hc;rw[List.getElem?_map] at h2;obtain⟨c,hc1,hc2⟩:=Option.map_eq_some_iff.1 h2;obtain⟨y,hy⟩:=ha.right (List.mem_of_getElem? hc1);exact⟨i,c,y,h3,hc1,hc2,hy⟩
 ·have hh:Maps.has (.map D:DataW Value) (.string t)=Maps.has (.map (es.map fun p=>(p.1,Sp.str f p.2)):DataW Unit) (.string t) :=
   (Pt.mapR (P:=fun _ _=>True) (q:=Sp.str f) (hp.mono fun _ _ _=>trivial)).has _
  have hc':Sp.Aj (Sp.str (f+1) (Sp.nd b g (.map es))) t=(if Maps.has (.map D:DataW Value) (.string t) then .ok ((DataW.map (es.map fun p=>(p.1,Sp.str f p.2))).atKey (.string t) .nil) else .error 11):=by
   rw[hh];rfl
  rw[hc'] at hc;by_cases hyes:Maps.has (.map D:DataW Value) (.string t)=true
  ·rw[if_pos hyes] at hc;injection hc with hc;obtain⟨i,key,c,x,e1,e2,e3,e4,e5⟩:=hp.first (.string t) hyes
   refine⟨i,c,x,?_,?_,?_,e5⟩
   ·rw[Sp.Ba];unfold Sp.pos Sp.Av;simp only;rw[List.findIdx?_map];exact e1
   ·rw[Sp.BI,List.getElem?_map,e2];rfl
   ·rw[<- hc,B8,List.find?_map,show ((fun p=>p.1.sameKey (.string t)) ∘ fun p:Lit×Sp.A=>(p.1,Sp.str f p.2))=fun p=>p.1.sameKey (.string t) from rfl,e3];rfl
  ·rw[if_neg hyes] at hc;cases hc
theorem BL(t:Sp.By):∀ (s:List Sp.By) (d:Sp.V),Sp.Ag d (s++[t])=(match Sp.Ag d s with | .ok n=>Sp.Aj n t | .error c=>.error c)
 | [],d=>by
  show (match Sp.Aj d t with | .ok e=>Except.ok e | .error c=>.error c)=Sp.Aj d t;cases Sp.Aj d t<;>rfl
 | u::s,d=>by
  rw[List.cons_append,Sp.Ag,Sp.Ag];cases Sp.Aj d u with
  | ok e=>exact BL t s e
  | error c=>rfl
theorem CC{w:World}{v:Value}{d:Sp.V}:∀ {s:List Sp.By} {fa:Nat} {a:Sp.A},Ae fa w v a->Sp.Ag (Sp.str fa a) s = .ok d ->
  ∃f q n u,f+1+q.length=fa/\Sp.sub q a=some n/\Ae (f+1) w u n/\Sp.str (f+1) n=d/\Sp.Bz (Sp.str fa a) s=some q:=by
 intro s fa a h hf
 suffices H:∀ (k:Nat) (s:List Sp.By) (d:Sp.V),s.length=k->Sp.Ag (Sp.str fa a) s = .ok d -> ∃f q n u,f+1+q.length=fa/\Sp.sub q a=some n/\Ae (f+1) w u n/\Sp.str (f+1) n=d/\Sp.Bz (Sp.str fa a) s=some q from H _ s d rfl hf
 intro k;induction k with
 | zero =>
  intro s d hl hf;obtain rfl:s=[]:=List.length_eq_zero_iff.1 hl;injection hf with hf;cases fa with
  | zero=>exact h.elim
  | succ fa=>exact⟨fa,[],a,v,rfl,rfl,h,hf,rfl⟩
 | succ k ih =>
  intro s d hl hf;obtain⟨s0,t,rfl⟩:∃s0 t,s=s0++[t]:=⟨s.dropLast,s.getLast (fun e=>by rw[e] at hl;cases hl),(List.dropLast_concat_getLast _).symm⟩
  rw[BL] at hf;cases hs:Sp.Ag (Sp.str fa a) s0 with
  | error c=>rw[hs] at hf;cases hf
  | ok n' =>
   rw[hs] at hf;obtain⟨f,q,n,u,h1,h2,h3,rfl,h5⟩:=ih s0 n' (by simpa using hl) hs;obtain⟨i,c,x,e1,e2,e3,e4⟩:=J3 h3 hf;cases f with
   | zero=>exact e4.elim
   | succ f =>
    have hvs:Sp.BC q (Sp.str fa a)=some (Sp.str (f+1+1) n):=by
     rw[<- h1];exact Gx (f:=f+1+1) (by rw[h1];exact h) h2
    refine⟨f,q++[i],c,x,by simp;omega,Gy e2 h2,e4,e3,?_⟩;exact Sp.Hi e1 (show (Sp.A9 (Sp.str (f+1+1) n))[i]? = some (Sp.str (f+1) c) by rw[DN h3,List.getElem?_map,e2];rfl) h5 hvs
theorem KS{fa f:Nat}{a n:Sp.A}{w:World}{v pv u:Value}{l:List Sp.By}{q:List Nat}{d:Sp.V}(hl:∀t∈l,t.length<=1048576)(hn:l.length<=1048576)(hr:Rng w)(h:Ae fa w v a)(hp:CQ w pv l)(hf:Sp.Ag (Sp.str fa a) l = .ok d)
  (hs:Sp.sub q a=some n) (hu:Ae (f+1) w u n) (hpos:Sp.Bz (Sp.str fa a) l=some q) :
  Calls Tryz.prog 81 #[pv,v] w fun e w'=>e = .returned (.tuple #[u,.int .i64 0])/\Below w.heap.size w w':=by
 refine (Vf hl hn hr h hp).mono ?_;rintro e w' ⟨ho,hb⟩;refine⟨?_,hb⟩;rw[hf] at ho;obtain⟨u2,rfl,_,f2,p2,n2,h1,h2,h3,h4,h5⟩:=ho;rw[hpos] at h5;injection h5 with h5;subst h5;rw[hs] at h2;injection h2 with h2;subst h2;obtain rfl:=h3.uniq hu;rfl
theorem JD{fa c:Nat}{a:Sp.A}{w:World}{v pv:Value}{l:List Sp.By}(hl:∀t∈l,t.length<=1048576)(hn:l.length<=1048576)(hr:Rng w)(h:Ae fa w v a)(hp:CQ w pv l)(hf:Sp.Ag (Sp.str fa a) l = .error c) :
  Calls Tryz.prog 81 #[pv,v] w fun e w'=>e = .returned (.tuple #[.pointer none,.int .i64 c])/\Below w.heap.size w w':=by
 refine (Vf hl hn hr h hp).mono ?_;rintro e w' ⟨ho,hb⟩;refine⟨?_,hb⟩;rw[hf] at ho;exact ho
theorem C8.bel{w w':World}{D R:Nat}{wp jn iv:Value}{ch:Bool}{T a:Sp.A}{x:Sp.V}(h:C8 w D R wp jn iv ch T a x)(hb:Below w.heap.size w w'):C8 w' D R wp jn iv ch T a x :=
 h.move (hb.block D h.db.lt) fun k hk=>hb.block k (h.tr.lt k hk)
structure JS(w:World)(D R:Nat)(wp:Option Addr)(jn iv:Value)(ch:Bool)(Tb:Sp.A)(Mb:Nat->Prop)(wb:World)(T a:Sp.A)(v:Sp.V)(M:Nat->Prop)(js:List Sp.Opn):Prop where
 j:Bm (top+1) w D (.pointer (some ⟨R,0,none⟩)) jn iv ch Tb Mb wb T M js
 t:C8 w D R (.pointer wp) jn iv ch T a v
section
variable{w w':World}{D R:Nat}{wp:Option Addr}{jn iv:Value}{ch:Bool}{Tb T a:Sp.A}{Mb M:Nat->Prop}{wb:World}{v:Sp.V}{js:List Sp.Opn}
theorem JS.of{g:Nat}{a1:Sp.A}(hJ:Bm (top+1) w D (.pointer (some ⟨R,0,none⟩)) jn iv ch Tb Mb wb T M js)(e:Sp.er (top+1) T=Sp.er (top+1) (Sp.nd R g (.slice [a1] []))) :
  ∃wp a,JS w D R wp jn iv ch Tb Mb wb T a (Sp.str top a1) M js:=by
 obtain⟨g',al',rfl,e2⟩:=hJ.tr.er_arr e;obtain⟨a,rfl⟩:∃a,al'=[a]:=List.length_eq_one_iff.1 (by have:=congrArg List.length e2;simpa using this)
 ·have e3:Sp.er top a=Sp.er top a1:=by
   have:=congrArg (fun l:List Sp.A=>l[0]?) e2;simpa using this
  obtain⟨xs,cs,g1,_⟩:=hJ.ex;obtain⟨u,hu⟩:∃u,Ae top w u a:=Ae.at (f:=top) (p:=[0]) hJ.tr rfl;obtain⟨b,rfl,_⟩:=hu.ptr;exact⟨some ⟨b,0,none⟩,a,hJ,⟨g1,hJ.tr,⟨g',rfl⟩,hu,by rw[<- Sp.EP,e3,Sp.EP],hJ.nd,hJ.dD.1⟩⟩
theorem JS.bel(h:JS w D R wp jn iv ch Tb Mb wb T a v M js)(hb:Below w.heap.size w w'):JS w' D R wp jn iv ch Tb Mb wb T a v M js:=⟨(h.j.bel hb).1,h.t.bel hb⟩
theorem JS.grow(h:JS w D R wp jn iv ch Tb Mb wb T a v M js)(hb:Below w.heap.size w w')(X:Nat->Prop)(hX:∀k,X k->w.heap.size<=k/\k<w'.heap.size) :
  JS w' D R wp jn iv ch Tb Mb wb T a v (fun k=>M k\/X k) js/\JEx M (fun k=>M k\/X k) w w':=⟨⟨(h.j.grow hb X hX).1,h.t.bel hb⟩,(h.j.grow hb X hX).2⟩
theorem Hj{g o n cap f:Nat}{t:Sp.By}{s:List Sp.By}{q:List Nat}{m:Sp.A}{u:Option Addr}{d:Sp.V}(h:JS w D R wp jn iv ch Tb Mb wb T a v M js)(hr:Rng w)(hp:CX w g o (s++[t]))(hn:s.length=n)(hc:n+1<=cap)(hcm:cap<=maxLen)(hl:∀t∈s,t.length<=1048576)(hnl:n<=1048576)
  (hf:Sp.Ag v s = .ok d) (hs:Sp.sub q a=some m) (hu:Ae (f+1) w (.pointer u) m) (hpos:Sp.Bz v s=some q) :
  Calls Tryz.prog 243 #[.pointer (some ⟨D,0,none⟩),.slice (some ⟨g,o,none⟩) (n+1) cap] w fun e w'=>e = .returned (.tuple #[.pointer u,.string ⟨t.toArray⟩,.int .i64 0])/\Below w.heap.size w w':=by
 subst hn;have hv:=h.t.str;subst hv;refine (IR (t:=t) (wp:=wp) (R:=fun _ x c=>x=u/\c=0) hc hcm hp.1 ?_ (fun w1 hb1=>Ek (h.t.bel hb1)) (fun w1 hb1=>?_)).mono ?_
 ·rw[hp.2 s.length (by simp)];simp
 ·refine (KS hl hnl (hr.kept hb1) (h.t.bel hb1).sub (Or.inr ⟨g,o,cap,rfl,by omega,hcm,Nat.lt_of_lt_of_le hp.1 hb1.size,fun k hk=>?_⟩) hf hs (hu.bel hb1) hpos).mono ?_
  ·have h1:=hp.2 k (by simp;omega);rw[(hb1.cell (p:=⟨g,o+k,none⟩) hp.1).trans h1,List.getElem_append_left hk]
  ·rintro e w' ⟨rfl,hb⟩;exact⟨u,0,rfl,⟨rfl,rfl⟩,hb⟩
 ·rintro e w' ⟨x,c,rfl,⟨w2,⟨rfl,rfl⟩,_⟩,hb⟩;exact⟨rfl,hb⟩
theorem JT{g o n cap c:Nat}{t:Sp.By}{s:List Sp.By}(h:JS w D R wp jn iv ch Tb Mb wb T a v M js)(hr:Rng w)(hp:CX w g o (s++[t]))(hn:s.length=n)(hc:n+1<=cap)(hcm:cap<=maxLen)(hl:∀t∈s,t.length<=1048576)(hnl:n<=1048576)(hf:Sp.Ag v s = .error c) :
  Calls Tryz.prog 243 #[.pointer (some ⟨D,0,none⟩),.slice (some ⟨g,o,none⟩) (n+1) cap] w fun e w'=>e = .returned (.tuple #[.pointer none,.string ⟨t.toArray⟩,.int .i64 c])/\Below w.heap.size w w':=by
 subst hn;have hv:=h.t.str;subst hv;refine (IR (t:=t) (wp:=wp) (R:=fun _ x c'=>x=none/\c'=c) hc hcm hp.1 ?_ (fun w1 hb1=>Ek (h.t.bel hb1)) (fun w1 hb1=>?_)).mono ?_
 ·rw[hp.2 s.length (by simp)];simp
 ·refine (JD hl hnl (hr.kept hb1) (h.t.bel hb1).sub (Or.inr ⟨g,o,cap,rfl,by omega,hcm,Nat.lt_of_lt_of_le hp.1 hb1.size,fun k hk=>?_⟩) hf).mono ?_
  ·have h1:=hp.2 k (by simp;omega);rw[(hb1.cell (p:=⟨g,o+k,none⟩) hp.1).trans h1,List.getElem_append_left hk]
  ·rintro e w' ⟨rfl,hb⟩;exact⟨none,c,rfl,⟨rfl,rfl⟩,hb⟩
 ·rintro e w' ⟨x,c',rfl,⟨w2,⟨rfl,rfl⟩,_⟩,hb⟩;exact⟨rfl,hb⟩
end
end Go.Proofs.YtdpomdelmdofmaaGreatDoor

set_option maxHeartbeats 2000000
namespace Go.Proofs.YtdpomdelmdofmaaGreatDoor
open Go.Proofs.Tryz
open Go.RowKit Go.Maps
abbrev plZ:Value:=.agg #[.slice none 0 0,.pointer none,.string ⟨#[]⟩,.int .i64 0]
def ZB(w:World)(g:Nat):Prop:=w.heap[g]? = some (.cells #[.slice none 0 0,.pointer none,.string ⟨#[]⟩,.int .i64 0] 185 (0,0))
section
variable{w:World}{g:Nat}
theorem ZB.lt(h:ZB w g):g<w.heap.size:=(Array.getElem?_eq_some_iff.1 h).1
theorem ZB.c0(h:ZB w g):w.cell? ⟨g,0,none⟩=some (.slice none 0 0):=by simp[World.cell?,show w.heap[g]? = _ from h]
theorem ZB.c1(h:ZB w g):w.cell? ⟨g,1,none⟩=some (.pointer none):=by simp[World.cell?,show w.heap[g]? = _ from h]
theorem ZB.c2(h:ZB w g):w.cell? ⟨g,2,none⟩=some (.string ⟨#[]⟩):=by simp[World.cell?,show w.heap[g]? = _ from h]
theorem ZB.c3(h:ZB w g):w.cell? ⟨g,3,none⟩=some (.int .i64 0):=by simp[World.cell?,show w.heap[g]? = _ from h]
theorem ZB.fz(h:ZB w g)(o:Nat):w.frozen? ⟨g,o,none⟩=false:=by simp[World.frozen?,show w.heap[g]? = _ from h]
theorem ZB.low{w':World}(h:ZB w g)(hb:Below w.heap.size w w'):ZB w' g:=(hb.block g h.lt).trans h
end
theorem GV{B:Nat}{w w':World}(h:Below B w w')(b:Nat)(hb:B<=b)(x0 x1 x2 x3:Value):Below B w ((((w'.setCell ⟨b,0,none⟩ x0).setCell ⟨b,1,none⟩ x1).setCell ⟨b,2,none⟩ x2).setCell ⟨b,3,none⟩ x3) :=
 Aq (Aq (Aq (Aq h b _ hb _) b _ hb _) b _ hb _) b _ hb _
section
variable{w:World}{D R g o n cap:Nat}{jn iv:Value}{ch:Bool}{t:Sp.By}{x y:Option Addr}{c c2:Nat}
theorem Qr{a:Option Addr}(hd:DB w D (.pointer (some ⟨R,0,none⟩)) jn ch iv) :
  Calls Tryz.prog 198 #[.pointer (some ⟨D,0,none⟩),.slice a 0 cap] w fun e w'=>e = .returned (.tuple #[plV (.slice none 0 0) R [] 0,.int .i64 0])/\Below w.heap.size w w':=by
 have hDl:=hd.lt;have q0:∀o,(w.alloc o).cell? ⟨D,0,none⟩=some (.pointer (some ⟨R,0,none⟩)):=fun o=>(World.cell?_of_block (w:=w) (Below.heap_alloc w o D hDl)).trans hd.c0;have d0:=q0 (.cells #[.slice none 0 0,.pointer none,.string ⟨#[]⟩,.int .i64 0] 185);clear hd q0
 go_enter func198,ntmps198
 go_wp2_with (fail);refine bodyPost_ret (v:=.tuple #[plV (.slice none 0 0) R [] 0,.int .i64 0]) (by simp[results,results198,go_sem]) rfl ⟨rfl,?_⟩
 exact (Below.refl _ _).alloc (Nat.le_refl _) _
theorem Qq(hc:c≠0)(hP:∀w1,Below w.heap.size w w1->Calls Tryz.prog 243 #[.pointer (some ⟨D,0,none⟩),.slice (some ⟨g,o,none⟩) (n+1) cap] w1 fun e w'=>e = .returned (.tuple #[.pointer x,.string ⟨t.toArray⟩,.int .i64 c])/\Below w1.heap.size w1 w') :
  Calls Tryz.prog 198 #[.pointer (some ⟨D,0,none⟩),.slice (some ⟨g,o,none⟩) (n+1) cap] w fun e w'=>e = .returned (.tuple #[plZ,.int .i64 c])/\Below w.heap.size w w':=by
 have HP:=Ab hP;have hzb:ZB (w.alloc (.cells #[.slice none 0 0,.pointer none,.string ⟨#[]⟩,.int .i64 0] 185)) w.heap.size:=heap_alloc_new w _;have HBA:=Ab ((Below.refl w.heap.size w).alloc (Nat.le_refl _) (.cells #[.slice none 0 0,.pointer none,.string ⟨#[]⟩,.int .i64 0] 185));have HZ:=Ab hzb;have e1:¬ ((n:Int)+1=0):=by omega
 have e2:((c:Int) != 0)=true:=by rw[bne_iff_ne];omega
 have e3:((c:Int) == 0)=false:=by rw[beq_eq_false_iff_ne];omega
 have hs:w.heap.size<(w.alloc (.cells #[.slice none 0 0,.pointer none,.string ⟨#[]⟩,.int .i64 0] 185)).heap.size:=hzb.lt;clear hP hzb
 go_enter func198,ntmps198
 go_wp2_with (fail);generalize w.alloc (.cells #[.slice none 0 0,.pointer none,.string ⟨#[]⟩,.int .i64 0] 185)=wa at *
 refine (Aa HP wa (Aa HBA)).mono ?_;rintro e w2 ⟨rfl,hb⟩;have h2:=(Aa HZ).low hb;have g0:=h2.c0;have g1:=h2.c1;have g2:=h2.c2;have g3:=h2.c3;have z:=h2.fz;have HB:=Ab ((Aa HBA).trans (hb.mono (by omega)));clear h2 hb
 go_wp2_with (fail);refine bodyPost_ret (v:=.tuple #[plZ,.int .i64 c]) (by simp[results,results198,go_sem,g0,g1,g2,g3]) rfl ⟨rfl,GV (Aa HB) _ (Nat.le_refl _) _ _ _ _⟩
theorem Qs(hc:c≠0)(hP:∀w1,Below w.heap.size w w1->Calls Tryz.prog 243 #[.pointer (some ⟨D,0,none⟩),.slice (some ⟨g,o,none⟩) (n+1) cap] w1 fun e w'=>e = .returned (.tuple #[.pointer x,.string ⟨t.toArray⟩,.int .i64 0])/\Below w1.heap.size w1 w')
  (hK:∀w1,Below w.heap.size w w1->Calls Tryz.prog 111 #[.pointer x,.string ⟨t.toArray⟩] w1 fun e w'=>e = .returned (.tuple #[.pointer y,.int .i64 c])/\Below w1.heap.size w1 w') :
  Calls Tryz.prog 198 #[.pointer (some ⟨D,0,none⟩),.slice (some ⟨g,o,none⟩) (n+1) cap] w fun e w'=>e = .returned (.tuple #[plZ,.int .i64 c])/\Below w.heap.size w w':=by
 have HP:=Ab hP;have HK:=Ab hK;have hzb:ZB (w.alloc (.cells #[.slice none 0 0,.pointer none,.string ⟨#[]⟩,.int .i64 0] 185)) w.heap.size:=heap_alloc_new w _;have HBA:=Ab ((Below.refl w.heap.size w).alloc (Nat.le_refl _) (.cells #[.slice none 0 0,.pointer none,.string ⟨#[]⟩,.int .i64 0] 185));have HZ:=Ab hzb;have e1:¬ ((n:Int)+1=0):=by omega
 have e2:((c:Int) != 0)=true:=by rw[bne_iff_ne];omega
 have e3:((c:Int) == 0)=false:=by rw[beq_eq_false_iff_ne];omega
 have hs:w.heap.size<(w.alloc (.cells #[.slice none 0 0,.pointer none,.string ⟨#[]⟩,.int .i64 0] 185)).heap.size:=hzb.lt;clear hP hK hzb
 go_enter func198,ntmps198
 go_wp2_with (fail);generalize w.alloc (.cells #[.slice none 0 0,.pointer none,.string ⟨#[]⟩,.int .i64 0] 185)=wa at *
 refine (Aa HP wa (Aa HBA)).mono ?_;rintro e w2 ⟨rfl,hb⟩;have h2:=(Aa HZ).low hb;have HZ2:=Ab h2;have hs2:w.heap.size<w2.heap.size:=h2.lt;have HB:=Ab ((Aa HBA).trans (hb.mono (by omega)));clear h2 hb
 go_wp2_with (fail);refine (Aa HK w2 (Aa HB)).mono ?_
 rintro e w3 ⟨rfl,hb⟩;have h2:=(Aa HZ2).low hb;have g0:=h2.c0;have g1:=h2.c1;have g2:=h2.c2;have g3:=h2.c3;have z:=h2.fz;have HB3:=Ab ((Aa HB).trans (hb.mono (by omega)));clear h2 hb
 go_wp2_with (fail);refine bodyPost_ret (v:=.tuple #[plZ,.int .i64 c]) (by simp[results,results198,go_sem,g0,g1,g2,g3]) rfl ⟨rfl,GV (Aa HB3) _ (Nat.le_refl _) _ _ _ _⟩
theorem Sz{b:Nat}{io:Option Nat}(hP:∀w1,Below w.heap.size w w1->Calls Tryz.prog 243 #[.pointer (some ⟨D,0,none⟩),.slice (some ⟨g,o,none⟩) (n+1) cap] w1 fun e w'=>e = .returned (.tuple #[.pointer (some ⟨b,0,none⟩),.string ⟨t.toArray⟩,.int .i64 0])/\Below w1.heap.size w1 w')
  (hK:∀w1,Below w.heap.size w w1->Calls Tryz.prog 111 #[.pointer (some ⟨b,0,none⟩),.string ⟨t.toArray⟩] w1 fun e w'=>(∃y,e = .returned (.tuple #[.pointer y,.int .i64 0]))/\Below w1.heap.size w1 w')
  (hI:∀w1,Below w.heap.size w w1->Calls Tryz.prog 147 #[.string ⟨t.toArray⟩] w1 fun e w'=>e = .returned (E8 io)/\Below w1.heap.size w1 w') :
  Calls Tryz.prog 198 #[.pointer (some ⟨D,0,none⟩),.slice (some ⟨g,o,none⟩) (n+1) cap] w fun e w'=>e = .returned (.tuple #[plV (.slice (some ⟨g,o,none⟩) (n+1) cap) b t (io.getD 0),.int .i64 0])/\Below w.heap.size w w':=by
 obtain⟨i,bo,hio⟩:∃ (i:Nat) (bo:Bool),E8 io = .tuple #[.int .i64 i,.bool bo]/\io.getD 0=i:=by
  cases io with
  | none=>exact⟨0,false,rfl,rfl⟩
  | some i=>exact⟨i,true,rfl,rfl⟩
 rw[hio.1] at hI;rw[hio.2];clear hio;have HP:=Ab hP;have HK:=Ab hK;have HI:=Ab hI;have hzb:ZB (w.alloc (.cells #[.slice none 0 0,.pointer none,.string ⟨#[]⟩,.int .i64 0] 185)) w.heap.size:=heap_alloc_new w _;have HBA:=Ab ((Below.refl w.heap.size w).alloc (Nat.le_refl _) (.cells #[.slice none 0 0,.pointer none,.string ⟨#[]⟩,.int .i64 0] 185));have HZ:=Ab hzb;have e1:¬ ((n:Int)+1=0):=by omega
 have hs:w.heap.size<(w.alloc (.cells #[.slice none 0 0,.pointer none,.string ⟨#[]⟩,.int .i64 0] 185)).heap.size:=hzb.lt;clear hP hK hI hzb
 go_enter func198,ntmps198
 go_wp2_with (fail);generalize w.alloc (.cells #[.slice none 0 0,.pointer none,.string ⟨#[]⟩,.int .i64 0] 185)=wa at *
 refine (Aa HP wa (Aa HBA)).mono ?_;rintro e w2 ⟨rfl,hb⟩;have h2:=(Aa HZ).low hb;have HZ2:=Ab h2;have hs2:w.heap.size<w2.heap.size:=h2.lt;have HB:=Ab ((Aa HBA).trans (hb.mono (by omega)));clear h2 hb
 go_wp2_with (fail);refine (Aa HK w2 (Aa HB)).mono ?_
 rintro e w3 ⟨⟨y,rfl⟩,hb⟩;have h2:=(Aa HZ2).low hb;have HZ3:=Ab h2;have hs3:w.heap.size<w3.heap.size:=h2.lt;have HB3:=Ab ((Aa HB).trans (hb.mono (by omega)));clear h2 hb
 go_wp2_with (fail);refine (Aa HI w3 (Aa HB3)).mono ?_
 rintro e w4 ⟨rfl,hb⟩;have h2:=(Aa HZ3).low hb;have g0:=h2.c0;have g1:=h2.c1;have g2:=h2.c2;have g3:=h2.c3;have z:=h2.fz;have HB4:=Ab ((Aa HB3).trans (hb.mono (by omega)));clear h2 hb
 go_wp2_with (fail);refine bodyPost_ret (v:=.tuple #[plV (.slice (some ⟨g,o,none⟩) (n+1) cap) b t i,.int .i64 0]) (by simp[results,results198,go_sem,g0,g1,g2,g3]) rfl ⟨rfl,GV (Aa HB4) _ (Nat.le_refl _) _ _ _ _⟩
end
end Go.Proofs.YtdpomdelmdofmaaGreatDoor

set_option maxHeartbeats 2000000
namespace Go.Proofs.YtdpomdelmdofmaaGreatDoor
open Go.Proofs.Tryz
open Go.RowKit Go.Maps
section
variable{w:World}{D R g o n cap b i:Nat}{t:Sp.By}{y:Option Addr}{c:Nat}{Q1 Q2 Q3:Option Addr->World->Prop}{Q4:Option Addr->Nat->Nat->World->Prop}{Q:World->Prop}
theorem UP{a:Option Addr}(hC:Calls Tryz.prog 201 #[.pointer y] w fun e w'=>∃x,e = .returned (.pointer x)/\Hid (Q1 x w'))
  (hR:∀x w1,Q1 x w1->w1.cell? ⟨D,0,none⟩=some (.pointer (some ⟨R,0,none⟩)))
  (hP:∀x w1,Q1 x w1->Calls Tryz.prog 160 #[.pointer (some ⟨D,0,none⟩),plV (.slice none 0 0) R [] 0,.pointer x] w1 fun e w'=>e = .returned (.tuple #[])/\Q w') :
  Calls Tryz.prog 197 #[.pointer (some ⟨D,0,none⟩),.slice a 0 cap,.pointer y] w fun e w'=>e = .returned (.int .i64 0)/\Q w':=by
 have HC:=Ab hC;have HR:=Ab hR;have HP:=Ab hP;clear hC hR hP
 go_enter func197,ntmps197
 go_wp2_with (fail);refine (Aa HC).mono ?_
 rintro e w1 ⟨x,rfl,hq⟩;have c0:=Aa HR x w1 (Aa hq)
 go_wp2_with (fail);refine (Aa HP x w1 (Aa hq)).mono ?_
 rintro e w2 ⟨rfl,hq2⟩;have HQ2:=Ab hq2;clear hq2
 go_wp2_with (fail)
 go_ret;exact⟨rfl,Aa HQ2⟩
theorem UO(hc:c≠0)(hC:Calls Tryz.prog 201 #[.pointer y] w fun e w'=>∃x,e = .returned (.pointer x)/\Hid (Q1 x w'))
  (hP:∀x w1,Q1 x w1->Calls Tryz.prog 243 #[.pointer (some ⟨D,0,none⟩),.slice (some ⟨g,o,none⟩) (n+1) cap] w1 fun e w'=>e = .returned (.tuple #[.pointer none,.string ⟨t.toArray⟩,.int .i64 c])/\Q w') :
  Calls Tryz.prog 197 #[.pointer (some ⟨D,0,none⟩),.slice (some ⟨g,o,none⟩) (n+1) cap,.pointer y] w fun e w'=>e = .returned (.int .i64 c)/\Q w':=by
 have HC:=Ab hC;have HP:=Ab hP;have e1:¬ ((n:Int)+1=0):=by omega
 have e2:((c:Int) != 0)=true:=by rw[bne_iff_ne];omega
 have e3:((c:Int) == 0)=false:=by rw[beq_eq_false_iff_ne];omega
 clear hC hP hc
 go_enter func197,ntmps197
 go_wp2_with (fail);refine (Aa HC).mono ?_
 rintro e w1 ⟨x,rfl,hq⟩
 go_wp2_with (fail);refine (Aa HP x w1 (Aa hq)).mono ?_
 rintro e w2 ⟨rfl,hq2⟩;have HQ2:=Ab hq2;clear hq2
 go_wp2_with (fail)
 go_ret;exact⟨rfl,Aa HQ2⟩
theorem NH(hC:Calls Tryz.prog 201 #[.pointer y] w fun e w'=>∃x,e = .returned (.pointer x)/\Hid (Q1 x w'))
  (hP:∀x w1,Q1 x w1->Calls Tryz.prog 243 #[.pointer (some ⟨D,0,none⟩),.slice (some ⟨g,o,none⟩) (n+1) cap] w1 fun e w'=>e = .returned (.tuple #[.pointer (some ⟨b,0,none⟩),.string ⟨t.toArray⟩,.int .i64 0])/\Q2 x w')
  (hK:∀x w2,Q2 x w2->w2.cell? ⟨b,0,none⟩=some (.int .i64 6))
  (hU:∀x w2,Q2 x w2->Calls Tryz.prog 160 #[.pointer (some ⟨D,0,none⟩),plV (.slice (some ⟨g,o,none⟩) (n+1) cap) b t 0,.pointer x] w2 fun e w'=>e = .returned (.tuple #[])/\Q w') :
  Calls Tryz.prog 197 #[.pointer (some ⟨D,0,none⟩),.slice (some ⟨g,o,none⟩) (n+1) cap,.pointer y] w fun e w'=>e = .returned (.int .i64 0)/\Q w':=by
 have HC:=Ab hC;have HP:=Ab hP;have HK:=Ab hK;have HU:=Ab hU;have e1:¬ ((n:Int)+1=0):=by omega
 clear hC hP hK hU
 go_enter func197,ntmps197
 go_wp2_with (fail);refine (Aa HC).mono ?_
 rintro e w1 ⟨x,rfl,hq⟩
 go_wp2_with (fail);refine (Aa HP x w1 (Aa hq)).mono ?_
 rintro e w2 ⟨rfl,hq2⟩;have HQ2:=Ab hq2;have c0:=Aa HK x w2 hq2;clear hq2
 go_wp2_with (fail);refine (Aa HU x w2 (Aa HQ2)).mono ?_
 rintro e w3 ⟨rfl,hq3⟩;have HQ3:=Ab hq3;clear hq3
 go_wp2_with (fail)
 go_ret;exact⟨rfl,Aa HQ3⟩
theorem Hz{k:Int}(h5:k≠5)(h6:k≠6)(hC:Calls Tryz.prog 201 #[.pointer y] w fun e w'=>∃x,e = .returned (.pointer x)/\Hid (Q1 x w'))
  (hP:∀x w1,Q1 x w1->Calls Tryz.prog 243 #[.pointer (some ⟨D,0,none⟩),.slice (some ⟨g,o,none⟩) (n+1) cap] w1 fun e w'=>e = .returned (.tuple #[.pointer (some ⟨b,0,none⟩),.string ⟨t.toArray⟩,.int .i64 0])/\Q w')
  (hK:∀w2,Q w2->w2.cell? ⟨b,0,none⟩=some (.int .i64 k)) :
  Calls Tryz.prog 197 #[.pointer (some ⟨D,0,none⟩),.slice (some ⟨g,o,none⟩) (n+1) cap,.pointer y] w fun e w'=>e = .returned (.int .i64 11)/\Q w':=by
 have HC:=Ab hC;have HP:=Ab hP;have HK:=Ab hK;have e1:¬ ((n:Int)+1=0):=by omega
 clear hC hP hK
 go_enter func197,ntmps197
 go_wp2_with (fail);refine (Aa HC).mono ?_
 rintro e w1 ⟨x,rfl,hq⟩
 go_wp2_with (fail);refine (Aa HP x w1 (Aa hq)).mono ?_
 rintro e w2 ⟨rfl,hq2⟩;have HQ2:=Ab hq2;have c0:=Aa HK w2 hq2;clear hq2
 go_wp2_with (fail)
 go_ret;exact⟨rfl,Aa HQ2⟩
theorem SD(hc:c≠0)(hC:Calls Tryz.prog 201 #[.pointer y] w fun e w'=>∃x,e = .returned (.pointer x)/\Hid (Q1 x w'))
  (hP:∀x w1,Q1 x w1->Calls Tryz.prog 243 #[.pointer (some ⟨D,0,none⟩),.slice (some ⟨g,o,none⟩) (n+1) cap] w1 fun e w'=>e = .returned (.tuple #[.pointer (some ⟨b,0,none⟩),.string ⟨t.toArray⟩,.int .i64 0])/\Q2 x w')
  (hK:∀x w2,Q2 x w2->w2.cell? ⟨b,0,none⟩=some (.int .i64 5))
  (hS:∀x w2,Q2 x w2->Calls Tryz.prog 244 #[.pointer (some ⟨b,0,none⟩),.string ⟨t.toArray⟩] w2 fun e w'=>e = .returned (.tuple #[.int .i64 0,.int .i64 c])/\Q w') :
  Calls Tryz.prog 197 #[.pointer (some ⟨D,0,none⟩),.slice (some ⟨g,o,none⟩) (n+1) cap,.pointer y] w fun e w'=>e = .returned (.int .i64 c)/\Q w':=by
 have HC:=Ab hC;have HP:=Ab hP;have HK:=Ab hK;have HS:=Ab hS;have e1:¬ ((n:Int)+1=0):=by omega
 have e2:((c:Int) != 0)=true:=by rw[bne_iff_ne];omega
 have e3:((c:Int) == 0)=false:=by rw[beq_eq_false_iff_ne];omega
 clear hC hP hK hS hc
 go_enter func197,ntmps197
 go_wp2_with (fail);refine (Aa HC).mono ?_
 rintro e w1 ⟨x,rfl,hq⟩
 go_wp2_with (fail);refine (Aa HP x w1 (Aa hq)).mono ?_
 rintro e w2 ⟨rfl,hq2⟩;have HQ2:=Ab hq2;have c0:=Aa HK x w2 hq2;clear hq2
 go_wp2_with (fail);refine (Aa HS x w2 (Aa HQ2)).mono ?_
 rintro e w3 ⟨rfl,hq3⟩;have HQ3:=Ab hq3;clear hq3
 go_wp2_with (fail)
 go_ret;exact⟨rfl,Aa HQ3⟩
theorem UQ(hC:Calls Tryz.prog 201 #[.pointer y] w fun e w'=>∃x,e = .returned (.pointer x)/\Hid (Q1 x w'))
  (hP:∀x w1,Q1 x w1->Calls Tryz.prog 243 #[.pointer (some ⟨D,0,none⟩),.slice (some ⟨g,o,none⟩) (n+1) cap] w1 fun e w'=>e = .returned (.tuple #[.pointer (some ⟨b,0,none⟩),.string ⟨t.toArray⟩,.int .i64 0])/\Q2 x w')
  (hK:∀x w2,Q2 x w2->w2.cell? ⟨b,0,none⟩=some (.int .i64 5))
  (hS:∀x w2,Q2 x w2->Calls Tryz.prog 244 #[.pointer (some ⟨b,0,none⟩),.string ⟨t.toArray⟩] w2 fun e w'=>e = .returned (.tuple #[.int .i64 i,.int .i64 0])/\Q3 x w')
  (hN:∀x w3,Q3 x w3->Calls Tryz.prog 245 #[.slice (some ⟨g,o,none⟩) (n+1) cap,.int .i64 i] w3 fun e w'=>∃g2 c2,e = .returned (.slice (some ⟨g2,0,none⟩) (n+1) c2)/\Q4 x g2 c2 w')
  (hU:∀x g2 c2 w4,Q4 x g2 c2 w4->Calls Tryz.prog 205 #[.pointer (some ⟨D,0,none⟩),plV (.slice (some ⟨g2,0,none⟩) (n+1) c2) b [] i,.pointer x] w4 fun e w'=>e = .returned (.tuple #[])/\Q w') :
  Calls Tryz.prog 197 #[.pointer (some ⟨D,0,none⟩),.slice (some ⟨g,o,none⟩) (n+1) cap,.pointer y] w fun e w'=>e = .returned (.int .i64 0)/\Q w':=by
 have HC:=Ab hC;have HP:=Ab hP;have HK:=Ab hK;have HS:=Ab hS;have HN:=Ab hN;have HU:=Ab hU;have e1:¬ ((n:Int)+1=0):=by omega
 clear hC hP hK hS hN hU
 go_enter func197,ntmps197
 go_wp2_with (fail);refine (Aa HC).mono ?_
 rintro e w1 ⟨x,rfl,hq⟩
 go_wp2_with (fail);refine (Aa HP x w1 (Aa hq)).mono ?_
 rintro e w2 ⟨rfl,hq2⟩;have HQ2:=Ab hq2;have c0:=Aa HK x w2 hq2;clear hq2
 go_wp2_with (fail);refine (Aa HS x w2 (Aa HQ2)).mono ?_
 rintro e w3 ⟨rfl,hq3⟩;have HQ3:=Ab hq3;clear hq3 c0
 go_wp2_with (fail);refine (Aa HN x w3 (Aa HQ3)).mono ?_
 rintro e w4 ⟨g2,c2,rfl,hq4⟩;have HQ4:=Ab hq4;clear hq4
 go_wp2_with (fail);refine (Aa HU x g2 c2 w4 (Aa HQ4)).mono ?_
 rintro e w5 ⟨rfl,hq5⟩;have HQ5:=Ab hq5;clear hq5
 go_wp2_with (fail)
 go_ret;exact⟨rfl,Aa HQ5⟩
end
end Go.Proofs.YtdpomdelmdofmaaGreatDoor
