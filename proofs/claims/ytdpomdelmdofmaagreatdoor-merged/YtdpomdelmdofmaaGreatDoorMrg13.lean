/-
  Plain facts on the functions of Sp: what is read is well made, within the configuration's bounds; its canonical text reads as it.
-/
import Derived.Test.YtdpomdelmdofmaaGreatDoorMrg12
import Derived.Lib.ValidU
import Derived.Maps.Range
namespace Go.Proofs.YtdpomdelmdofmaaGreatDoor
section
open Go.Maps
def Sp.OkF (d x:Int) (fl:Sp.Fl):Prop:=fl.1=false∧fl.2.1≤d∧fl.2.2≤x
def Sp.gd (d x:Int):Nat→Int→Sp.V→Prop
 | 0,_,_=>False
 | f+1,lv,v=>lv≤d∧((∃k,k<3∧v=Sp.vWord k)∨(∃s,Sp.Ut s∧v=Sp.vStr s)∨(∃n,Sp.Gn n ∧ -x≤n.2.2∧n.2.2≤x∧v=Sp.vNum n) ∨
   (∃es,(∀e∈es,Sp.gd d x f (lv+1) e)∧v=Sp.vArr es) ∨
   (∃es,es.Pairwise (fun p q=>p.1.before q.1=true)∧(∀p∈es,(∃s,p.1 = .string s∧Sp.Ut s)∧Sp.gd d x f (lv+1) p.2)∧v=Sp.vObj es))
theorem insert_rising {x:Lit×Sp.V} {l:List (Lit×Sp.V)} (hx:∃s,x.1 = .string s) (hs:∀p∈l,∃s,p.1 = .string s) (hne:∀p∈l,p.1≠x.1) (h:l.Pairwise (fun p q=>p.1.before q.1=true)) :
  (DataW.insert x l).Pairwise (fun p q=>p.1.before q.1=true):=by
 obtain⟨s,hs0⟩:=hx
 induction l with
 | nil=>simp[DataW.insert]
 | cons y r ih =>
  rw[List.pairwise_cons] at h
  obtain⟨h1,h2⟩:=h
  obtain⟨t,ht⟩:=hs y (by simp)
  unfold DataW.insert
  split
  ·rename_i hb
   refine List.pairwise_cons.2 ⟨fun q hq=>?_,List.pairwise_cons.2 ⟨h1,h2⟩⟩
   rcases List.mem_cons.1 hq with rfl|hq
   ·exact hb
   ·obtain⟨u,hu⟩:=hs q (by simp[hq])
    have h3:=h1 q hq
    rw[hs0,ht] at hb
    rw[ht,hu] at h3
    rw[hs0,hu]
    exact Go.WideShapes.bytes_trans _ _ _ hb h3
  ·rename_i hb
   refine List.pairwise_cons.2 ⟨fun q hq=>?_,ih (fun p hp=>hs p (by simp[hp])) (fun p hp=>hne p (by simp[hp])) h2⟩
   rcases List.mem_cons.1 ((Go.WideShapes.insert_perm _ _).mem_iff.1 hq) with rfl|hq
   ·rw[hs0,ht] at hb ⊢
    have hn:t≠s:=by
     rintro rfl
     exact hne y (by simp) (ht.trans hs0.symm)
    rcases WideAt.bytes_total t s hn with h3|h3
    ·exact h3
    ·exact absurd h3 hb
   ·exact h1 q hq
theorem val_gd (d x:Int) (f:Nat):∀ (lv:Int) (l:Sp.By) (fl:Sp.Fl) (v:Sp.V) (r:Sp.By) (fl':Sp.Fl),Sp.val f lv l fl=some (v,r,fl')→Sp.OkF d x fl'→Sp.OkF d x fl∧Sp.gd d x f lv v:=by
 induction f with
 | zero=>intro lv l fl v r fl' h;cases h
 | succ f ih =>
  intro lv l fl v r fl' h hok
  have hbase:∀ {e:Int},Sp.OkF d x (fl.1,(max fl.2.1 lv,e))→fl.2.2≤e→Sp.OkF d x fl∧lv≤d:=by
   rintro e ⟨h1,h2,h3⟩ he
   simp only at h1 h2 h3
   exact⟨⟨h1,by omega,by omega⟩,by omega⟩
  unfold Sp.val at h
  split at h
  ·split at h
   ·cases h
   ·rename_i r1 v1 fl1 h1
    obtain⟨hI,_⟩:=lstAll_inv (σ:=Sp.V×Sp.Fl) (fun _ s=>Sp.OkF d x s.2→Sp.OkF d x (fl.1,(max fl.2.1 lv,fl.2.2)) ∧ ∃es,s.1=Sp.vObj es∧es.Pairwise (fun p q=>p.1.before q.1=true)∧(∀p∈es,(∃s,p.1 = .string s∧Sp.Ut s)∧Sp.gd d x f (lv+1) p.2))
     (fun _ _ _ h _=>h) (by
      rintro a s a' s' hI hm hok2
      unfold Sp.memb at hm
      split at hm
      ·cases hm
      ·rename_i k l1 hq
       split at hm
       ·split at hm
        ·cases hm
        ·rename_i w r2 fl2 hv
         injection hm with hm;injection hm with h1 h2;subst h1;subst h2
         obtain⟨k1,k2,k3⟩:=hok2
         simp only[Bool.or_eq_false_iff] at k1 k2 k3
         obtain⟨hok3,hg⟩:=ih _ _ _ _ _ _ hv ⟨k1.1,k2,k3⟩
         obtain⟨hb,es,e1,e2,e3⟩:=hI hok3
         refine⟨hb,?_⟩
         have hno:=k1.2
         rw[e1] at hno ⊢
         have hno2:∀p∈es,p.1.sameKey (.string k)=false:=by
          simpa[Sp.vObj,Maps.has] using hno
         have hfil:(es.filter fun p=>!p.1.sameKey (.string k))=es:=List.filter_eq_self.2 fun p hp=>by rw[hno2 p hp];rfl
         refine⟨DataW.insert (.string k,w) es,by simp only[Sp.vObj,DataW.put,hfil],?_,?_⟩
         ·refine insert_rising ⟨k,rfl⟩ (fun p hp=>?_) (fun p hp=>?_) e2
          ·obtain⟨⟨s,hs,_⟩,_⟩:=e3 p hp
           exact⟨s,hs⟩
          ·intro e
           have:=hno2 p hp
           rw[e] at this
           simp[Lit.sameKey] at this
         ·intro p hp
          rcases List.mem_cons.1 ((Go.WideShapes.insert_perm _ _).mem_iff.1 hp) with rfl|hp
          ·exact⟨⟨k,rfl,quo_ut hq⟩,hg⟩
          ·exact e3 p hp
       ·cases hm) (fun h=>⟨h,[],rfl,List.Pairwise.nil,by simp⟩) h1
    injection h with h;injection h with h2 h3;injection h3 with h3 h4;subst h2;subst h4
    obtain⟨hb,es,e1,e2,e3⟩:=hI hok
    obtain⟨b1,b2⟩:=hbase hb (Int.le_refl _)
    exact⟨b1,b2,Or.inr (Or.inr (Or.inr (Or.inr ⟨es,e2,e3,e1⟩)))⟩
  ·split at h
   ·split at h
    ·cases h
    ·rename_i r1 es1 fl1 h1
     obtain⟨hI,_⟩:=lstAll_inv (σ:=List Sp.V×Sp.Fl) (fun _ s=>Sp.OkF d x s.2→Sp.OkF d x (fl.1,(max fl.2.1 lv,fl.2.2)) ∧ ∀e∈s.1,Sp.gd d x f (lv+1) e)
      (fun _ _ _ h _=>h) (by
       rintro a s a' s' hI hm hok2
       unfold Sp.elem at hm
       split at hm
       ·cases hm
       ·rename_i w r2 fl2 hv
        injection hm with hm;injection hm with h1 h2;subst h1;subst h2
        obtain⟨hok3,hg⟩:=ih _ _ _ _ _ _ hv hok2
        obtain⟨hb,hall⟩:=hI hok3
        refine⟨hb,fun e he=>?_⟩
        rcases List.mem_append.1 he with he|he
        ·exact hall e he
        ·rw[List.mem_singleton] at he;subst he;exact hg) (fun h=>⟨h,by simp⟩) h1
     injection h with h;injection h with h2 h3;injection h3 with h3 h4;subst h2;subst h4
     obtain⟨hb,hall⟩:=hI hok
     obtain⟨b1,b2⟩:=hbase hb (Int.le_refl _)
     exact⟨b1,b2,Or.inr (Or.inr (Or.inr (Or.inl ⟨es1,hall,rfl⟩)))⟩
   ·split at h
    ·split at h
     ·cases h
     ·rename_i s r1 h1
      injection h with h;injection h with h2 h3;injection h3 with h3 h4;subst h2;subst h4
      obtain⟨b1,b2⟩:=hbase hok (Int.le_refl _)
      exact⟨b1,b2,Or.inr (Or.inl ⟨s,quo_ut h1,rfl⟩)⟩
    ·split at h
     ·split at h
      ·cases h
      ·rename_i n r1 h1
       injection h with h;injection h with h2 h3;injection h3 with h3 h4;subst h2;subst h4
       obtain⟨b1,b2⟩:=hbase hok (by omega)
       have h5:max (max fl.2.2 n.2.2) (-n.2.2)≤x:=hok.2.2
       exact⟨b1,b2,Or.inr (Or.inr (Or.inl ⟨n,num_good h1,by omega,by omega,rfl⟩))⟩
     ·split at h
      ·cases h
      ·rename_i k r1 h1
       injection h with h;injection h with h2 h3;injection h3 with h3 h4;subst h2;subst h4
       obtain⟨b1,b2⟩:=hbase hok (Int.le_refl _)
       refine⟨b1,b2,Or.inl ⟨k,?_,rfl⟩⟩
       have hk:∀ (ws:List Sp.By) (k0:Nat),Sp.wordIn l k0 ws=some (k,r1)→k<k0+ws.length:=by
        intro ws
        induction ws with
        | nil=>intro k0 h;cases h
        | cons w ws ihw =>
         intro k0 h
         unfold Sp.wordIn at h
         split at h
         ·injection h with h;injection h with h1 h2;simp;omega
         ·have:=ihw _ h
          simp;omega
       simpa[Sp.words] using hk _ _ h1
end

section
open Go.Maps
def Sp.Hd (l:Sp.By):Prop:=∃c t,l=c::t∧Sp.isB c=false∧c≠93∧c≠125
theorem Sp.Hd.skB {l:Sp.By} (h:Sp.Hd l) (r:Sp.By):Sp.skB (l++r)=l++r:=by
 obtain⟨c,t,rfl,hb,_⟩:=h
 simp[Sp.skB,hb]
theorem Sp.Hd.tk {l:Sp.By} (h:Sp.Hd l) (r:Sp.By) {k:UInt8} (hk:k=93∨k=125):Sp.tk (l++r) k=false:=by
 obtain⟨c,t,rfl,_,h1,h2⟩:=h
 rw[List.cons_append,tk_hd,beq_eq_false_iff_ne]
 rcases hk with rfl|rfl
 ·exact h1
 ·exact h2
theorem isD_hd {c:UInt8} (h:Sp.isD c=true):Sp.isB c=false∧c≠93∧c≠125:=by
 refine⟨?_,?_,?_⟩
 ·have h1:48≤c.toNat:=by unfold Sp.isD at h;simp at h;omega
  unfold Sp.isB
  simp only[Bool.or_eq_false_iff,beq_eq_false_iff_ne]
  refine⟨⟨⟨?_,?_⟩,?_⟩,?_⟩
  all_goals (rintro rfl;simp at h1)
 ·rintro rfl;exact absurd h (by decide)
 ·rintro rfl;exact absurd h (by decide)
theorem numT_hd {n:Sp.Nm} (hg:Sp.Gn n):∃c t,Sp.numT n=c::t∧(c=45∨Sp.isD c=true):=by
 rcases hg with rfl|⟨hne,hd,_⟩
 ·exact⟨48,[],rfl,Or.inr (by decide)⟩
 ·obtain⟨ng,ds,ex⟩:=n
  simp only at hne hd
  unfold Sp.numT
  rw[if_neg hne]
  cases ng with
  | true=>exact⟨45,_,rfl,Or.inl rfl⟩
  | false =>
   cases ds with
   | nil=>exact absurd rfl hne
   | cons c t=>exact⟨c,_,rfl,Or.inr (hd c (by simp))⟩
theorem gd_hd {d x:Int} {f:Nat} {lv:Int} {v:Sp.V} (h:Sp.gd d x f lv v):Sp.Hd (Sp.can f v):=by
 cases f with
 | zero=>cases h
 | succ f =>
  obtain⟨_,⟨k,hk,rfl⟩|⟨s,_,rfl⟩|⟨n,hn,_,_,rfl⟩|⟨es,_,rfl⟩|⟨es,_,_,rfl⟩⟩:=h
  ·rw[Sp.can_word]
   match k,hk with
   | 0,_=>exact⟨110,_,rfl,by decide,by decide,by decide⟩
   | 1,_=>exact⟨116,_,rfl,by decide,by decide,by decide⟩
   | 2,_=>exact⟨102,_,rfl,by decide,by decide,by decide⟩
  ·rw[Sp.can_str];exact⟨34,_,rfl,by decide,by decide,by decide⟩
  ·rw[Sp.can_num]
   obtain⟨c,t,e,hc⟩:=numT_hd hn
   refine⟨c,t,e,?_⟩
   rcases hc with rfl|hc
   ·exact⟨by decide,by decide,by decide⟩
   ·exact isD_hd hc
  ·rw[Sp.can_arr];exact⟨91,_,rfl,by decide,by decide,by decide⟩
  ·rw[Sp.can_obj];exact⟨123,_,rfl,by decide,by decide,by decide⟩
theorem nd_close {cl:UInt8} (h:cl=93∨cl=125) (r:Sp.By):Sp.Nd (cl::r):=by
 intro c t e
 injection e with e1 e2
 subst e1
 rcases h with rfl|rfl
 ·exact⟨by decide,by decide,by decide,by decide⟩
 ·exact⟨by decide,by decide,by decide,by decide⟩
theorem nd_comma (r:Sp.By):Sp.Nd (44::r):=by
 intro c t e
 injection e with e1 e2
 subst e1
 exact⟨by decide,by decide,by decide,by decide⟩
theorem skB_close {cl:UInt8} (h:cl=93∨cl=125) (r:Sp.By):Sp.skB (cl::r)=cl::r:=by
 rcases h with rfl|rfl
 ·rfl
 ·rfl
theorem lst_join {σ:Type} (cl:UInt8) (hcl:cl=93∨cl=125) (item:Sp.By→σ→Option (Sp.By×σ)) (P:Nat→σ→Prop) (r:Sp.By):∀ (xs:List Sp.By) (k:Nat) (s:σ) (n:Nat),
  (∀i (h:i<xs.length) s rest,P (k+i) s→Sp.Nd rest → ∃s',item (xs[i]++rest) s=some (rest,s')∧P (k+i+1) s')→(∀y∈xs,Sp.Hd y)→xs≠[]→xs.length≤n→P k s →
  ∃s',Sp.lst cl item n (Sp.joinC xs++cl::r) s=some (r,s')∧P (k+xs.length) s':=by
 intro xs
 induction xs with
 | nil=>intro k s n _ _ h;exact absurd rfl h
 | cons y ys ih =>
  intro k s n hit hhd _ hn hP
  match n,hn with
  | n+1,hn =>
   have hy:=hhd y (by simp)
   have e1:Sp.joinC (y::ys)++cl::r=y++(Sp.joinR ys++cl::r):=by simp[Sp.joinC]
   rw[e1]
   unfold Sp.lst
   rw[hy.skB]
   cases ys with
   | nil =>
    obtain⟨s',h1,h2⟩:=hit 0 (by simp) s (cl::r) hP (nd_close hcl r)
    simp only[List.getElem_cons_zero] at h1
    simp only[Sp.joinR,List.nil_append]
    rw[h1]
    simp only
    rw[skB_close hcl,if_pos (by rw[tk_hd];simp)]
    exact⟨s',rfl,h2⟩
   | cons z zs =>
    have e2:Sp.joinR (z::zs)++cl::r=44::(Sp.joinC (z::zs)++cl::r):=by simp[Sp.joinR,Sp.joinC]
    rw[e2]
    obtain⟨s',h1,h2⟩:=hit 0 (by simp) s (44::(Sp.joinC (z::zs)++cl::r)) hP (nd_comma _)
    simp only[List.getElem_cons_zero] at h1
    rw[h1]
    simp only
    have e3:Sp.skB (44::(Sp.joinC (z::zs)++cl::r))=44::(Sp.joinC (z::zs)++cl::r):=rfl
    have e4:Sp.tk (44::(Sp.joinC (z::zs)++cl::r)) cl=false:=by
     rw[tk_hd]
     rcases hcl with rfl|rfl
     ·rfl
     ·rfl
    rw[e3,e4,if_neg (by decide),if_pos (by rfl),List.tail_cons]
    obtain⟨s2,h3,h4⟩:=ih (k+1) s' n (fun i hi s rest hp hr=>by
     have:=hit (i+1) (by simpa using hi) s rest (by rw[show k+(i+1)=k+1+i by omega];exact hp) hr
     simp only[List.getElem_cons_succ] at this
     rw[show k+1+i=k+(i+1) by omega]
     exact this) (fun y hy=>hhd y (by simp[hy])) (by simp) (by simp at hn ⊢; omega) h2
    exact⟨s2,h3,by rw[show k+(y::z::zs).length=k+1+(z::zs).length by simp;omega];exact h4⟩
theorem joinC_ge (xs:List Sp.By) (h:∀y∈xs,Sp.Hd y):xs.length≤(Sp.joinC xs).length:=by
 have hr:∀ys:List Sp.By,ys.length≤(Sp.joinR ys).length:=by
  intro ys
  induction ys with
  | nil=>simp
  | cons y r ih=>simp[Sp.joinR];omega
 cases xs with
 | nil=>simp
 | cons y r =>
  obtain⟨c,t,e,_⟩:=h y (by simp)
  have:=hr r
  simp[Sp.joinC,e];omega
theorem lstAll_join {σ:Type} (op cl:UInt8) (hcl:cl=93∨cl=125) (item:Sp.By→σ→Option (Sp.By×σ)) (P:Nat→σ→Prop) (r:Sp.By) (xs:List Sp.By) (s:σ)
  (hit:∀i (h:i<xs.length) s rest,P i s→Sp.Nd rest → ∃s',item (xs[i]++rest) s=some (rest,s')∧P (i+1) s') (hhd:∀y∈xs,Sp.Hd y) (hP:P 0 s) :
  ∃s',Sp.lstAll op cl item (op::(Sp.joinC xs++cl::r)) s=some (r,s')∧P xs.length s':=by
 unfold Sp.lstAll
 rw[if_pos (by rw[tk_hd];simp),List.tail_cons]
 cases xs with
 | nil =>
  rw[show Sp.joinC []++cl::r=cl::r from rfl,skB_close hcl,if_pos (by rw[tk_hd];simp),List.tail_cons]
  exact⟨s,rfl,hP⟩
 | cons y ys =>
  have hy:=hhd y (by simp)
  have e1:Sp.joinC (y::ys)++cl::r=y++(Sp.joinR ys++cl::r):=by simp[Sp.joinC]
  have e2:Sp.skB (Sp.joinC (y::ys)++cl::r)=Sp.joinC (y::ys)++cl::r:=by rw[e1,hy.skB]
  have e3:Sp.tk (Sp.joinC (y::ys)++cl::r) cl=false:=by rw[e1];exact hy.tk _ hcl
  rw[e2,e3,if_neg (by decide)]
  have hj:=joinC_ge (y::ys) hhd
  obtain⟨s',h1,h2⟩:=lst_join cl hcl item P r (y::ys) 0 s ((Sp.joinC (y::ys)++cl::r).length+1) (fun i hi s rest hp hr=>by
   rw[Nat.zero_add] at hp ⊢
   exact hit i hi s rest hp hr) hhd (by simp) (by rw[List.length_append];omega) hP
  rw[Nat.zero_add] at h2
  exact⟨s',h1,h2⟩
theorem before_le:∀ (a b:Sp.By),bytesBefore a b=true→a<b
 | [],[],h=>by simp[bytesBefore] at h
 | _::_,[],h=>by simp[bytesBefore] at h
 | [],_::_,_=>List.nil_lt_cons _ _
 | a::r,b::s,h=>by
  simp only[bytesBefore,Bool.or_eq_true,Bool.and_eq_true,decide_eq_true_eq,beq_iff_eq] at h
  rw[List.cons_lt_cons_iff]
  rcases h with h|⟨h1,h2⟩
  ·exact Or.inl h
  ·exact Or.inr ⟨h1,before_le r s h2⟩
theorem skeys_id {es:List (Lit×Sp.V)} (hp:es.Pairwise (fun p q=>p.1.before q.1=true)) (hk:∀p∈es,∃s,p.1 = .string s):(Sp.keys es).mergeSort (fun a b=>decide (a≤b))=Sp.keys es:=by
 apply List.mergeSort_of_pairwise
 unfold Sp.keys
 rw[List.pairwise_map]
 refine (List.Pairwise.and_mem.1 hp).imp ?_
 rintro p q ⟨h1,h2,h3⟩
 obtain⟨s,hs⟩:=hk p h1
 obtain⟨t,ht⟩:=hk q h2
 rw[hs,ht] at h3 ⊢
 simp only[decide_eq_true_eq]
 exact List.le_of_lt (before_le s t h3)
theorem rising_ne {es:List (Lit×Sp.V)} (hp:es.Pairwise (fun p q=>p.1.before q.1=true)) (hk:∀p∈es,∃s,p.1 = .string s):es.Pairwise (fun p q=>p.1≠q.1):=by
 refine (List.Pairwise.and_mem.1 hp).imp ?_
 rintro p q ⟨h1,h2,h3⟩ e
 obtain⟨s,hs⟩:=hk p h1
 rw[← e,hs] at h3
 have:=WideAt.bytes_irrefl s
 rw[show (Lit.string s).before (Lit.string s)=bytesBefore s s from rfl,this] at h3
 cases h3
def Sp.entT (f:Nat) (p:Lit×Sp.V):Sp.By:=Sp.quoT (strOf p.1)++58::Sp.can f p.2
theorem obj_text {f:Nat} {es:List (Lit×Sp.V)} (hp:es.Pairwise (fun p q=>p.1.before q.1=true)) (hk:∀p∈es,∃s,p.1 = .string s):Sp.can (f+1) (Sp.vObj es)=123::(Sp.joinC (es.map (Sp.entT f))++[125]):=by
 rw[Sp.can_obj,skeys_id hp hk]
 have:(Sp.keys es).map (fun k=>Sp.quoT k++58::Sp.can f (Sp.look es k))=es.map (Sp.entT f):=by
  unfold Sp.keys
  rw[List.map_map]
  apply List.map_congr_left
  intro p hpm
  obtain⟨s,hs⟩:=hk p hpm
  have h2:Sp.look es s=p.2:=by
   unfold Sp.look
   exact WideAt.atKey_mem .nil trivial (rising_ne hp hk) (by rw[← hs];exact hpm)
  obtain⟨k,v⟩:=p
  simp only at hs h2
  subst hs
  simp only[Function.comp,Sp.entT,strOf]
  rw[h2]
 rw[this]
theorem insert_last {x:Lit×Sp.V} {l:List (Lit×Sp.V)} (h:∀p∈l,x.1.before p.1=false):DataW.insert x l=l++[x]:=by
 induction l with
 | nil=>rfl
 | cons y r ih =>
  unfold DataW.insert
  rw[h y (by simp),if_neg (by decide),ih (fun p hp=>h p (by simp[hp]))]
  rfl
end

section
open Go.Maps
theorem ok_lift {d x lv:Int} {fl:Sp.Fl} {e:Int} (hlv:lv≤d) (h:Sp.OkF d x fl) (he:e≤x):Sp.OkF d x (fl.1,(max fl.2.1 lv,e)):=by
 obtain⟨h1,h2,h3⟩:=h
 exact⟨h1,by simp only;omega,he⟩
theorem before_asymm {p q:Lit×Sp.V} (hp:∃s,p.1 = .string s) (hq:∃s,q.1 = .string s) (h:p.1.before q.1=true):q.1.before p.1=false:=by
 obtain⟨s,hs⟩:=hp
 obtain⟨t,ht⟩:=hq
 rw[hs,ht] at h ⊢
 cases hb:(Lit.string t).before (Lit.string s) with
 | false=>rfl
 | true =>
  have:=Go.WideShapes.bytes_trans s t s h hb
  rw[WideAt.bytes_irrefl] at this;cases this
theorem put_next {es:List (Lit×Sp.V)} (hp:es.Pairwise (fun p q=>p.1.before q.1=true)) (hk:∀p∈es,∃s,p.1 = .string s) {i:Nat} (hi:i<es.length) {k:Sp.By} (hki:es[i].1 = .string k) :
  DataW.put (Sp.vObj (es.take i)) (.string k) es[i].2=Sp.vObj (es.take (i+1))∧Maps.has (Sp.vObj (es.take i)) (.string k)=false:=by
 have hb:∀p∈es.take i,p.1.before es[i].1=true:=by
  intro p hpm
  obtain⟨j,hj,e⟩:=List.getElem_of_mem hpm
  rw[List.length_take] at hj
  rw[List.getElem_take] at e
  rw[← e]
  exact List.pairwise_iff_getElem.1 hp j i (by omega) hi (by omega)
 have hks:∀p∈es.take i,∃s,p.1 = .string s:=fun p h=>hk p (List.mem_of_mem_take h)
 have hns:∀p∈es.take i,p.1.sameKey (.string k)=false:=by
  intro p hpm
  have h1:=hb p hpm
  obtain⟨s,hs⟩:=hks p hpm
  rw[hki,hs] at h1
  rw[hs]
  show (s == k)=false
  rw[beq_eq_false_iff_ne]
  rintro rfl
  rw[show (Lit.string s).before (Lit.string s)=bytesBefore s s from rfl,WideAt.bytes_irrefl] at h1
  cases h1
 have hfil:((es.take i).filter fun p=>!p.1.sameKey (.string k))=es.take i:=List.filter_eq_self.2 fun p hpm=>by rw[hns p hpm];rfl
 constructor
 ·simp only[Sp.vObj,DataW.put,hfil]
  rw[insert_last (fun p hpm=>by
   have:=before_asymm (p:=p) (q:=es[i]) (hks p hpm) ⟨k,hki⟩ (hb p hpm)
   rw[hki] at this
   exact this),List.take_succ_eq_append_getElem hi]
  congr 2
  rw[← hki]
 ·simp only[Sp.vObj,Maps.has]
  rw[List.any_eq_false]
  intro p hpm
  rw[hns p hpm];decide
theorem val_can {d x:Int} (hx:x≤1000000) (f:Nat):∀ (lv:Int) (v:Sp.V),Sp.gd d x f lv v → ∀ (fl:Sp.Fl) (r:Sp.By),Sp.Nd r → ∃fl',Sp.val f lv (Sp.can f v++r) fl=some (v,r,fl')∧(Sp.OkF d x fl→Sp.OkF d x fl'):=by
 induction f with
 | zero=>intro lv v h;cases h
 | succ f ih =>
  intro lv v h fl r hr
  obtain⟨hlv,⟨k,hk,rfl⟩|⟨s,hs,rfl⟩|⟨n,hn,hn1,hn2,rfl⟩|⟨es,hes,rfl⟩|⟨es,hp,hes,rfl⟩⟩:=h
  ·refine⟨(fl.1,(max fl.2.1 lv,fl.2.2)),?_,fun ho=>ok_lift hlv ho ho.2.2⟩
   rw[Sp.can_word]
   match k,hk with
   | 0,_=>rfl
   | 1,_=>rfl
   | 2,_=>rfl
  ·refine⟨(fl.1,(max fl.2.1 lv,fl.2.2)),?_,fun ho=>ok_lift hlv ho ho.2.2⟩
   rw[Sp.can_str]
   have hq:=quo_quoT hs r
   have hpk:Sp.pk (Sp.quoT s++r)=34:=rfl
   unfold Sp.val
   rw[hpk,if_neg (by decide),if_neg (by decide),if_pos rfl,hq]
  ·refine⟨(fl.1,(max fl.2.1 lv,max (max fl.2.2 n.2.2) (-n.2.2))),?_,fun ho=>ok_lift hlv ho (by have:=ho.2.2;omega)⟩
   rw[Sp.can_num]
   have hq:=num_numT hn ⟨by omega,by omega⟩ r hr
   obtain⟨c,t,e,hc⟩:=numT_hd hn
   have hpk:Sp.pk (Sp.numT n++r)=c.toNat:=by rw[e];rfl
   have hcc:c.toNat=45∨(48≤c.toNat∧c.toNat≤57):=by
    rcases hc with rfl|hc
    ·exact Or.inl rfl
    ·unfold Sp.isD at hc;simp at hc;exact Or.inr hc
   unfold Sp.val
   rw[hpk,if_neg (by omega),if_neg (by omega),if_neg (by omega),if_pos hcc,hq]
  ·have hj:=lstAll_join (σ:=List Sp.V×Sp.Fl) 91 93 (Or.inl rfl) (Sp.elem (Sp.val f (lv+1))) (fun i s=>s.1=es.take i∧(Sp.OkF d x fl→Sp.OkF d x s.2)) r (es.map (Sp.can f)) ([],(fl.1,(max fl.2.1 lv,fl.2.2))) (by
    rintro i hi ⟨a,fl1⟩ rest ⟨ha,hf⟩ hrest
    rw[List.length_map] at hi
    simp only at ha hf
    subst ha
    rw[List.getElem_map]
    obtain⟨fl2,h1,h2⟩:=ih (lv+1) es[i] (hes _ (List.getElem_mem hi)) fl1 rest hrest
    unfold Sp.elem
    simp only
    rw[h1]
    exact⟨_,rfl,(List.take_succ_eq_append_getElem hi).symm,fun ho=>h2 (hf ho)⟩) (by
    intro y hy
    obtain⟨e,he,rfl⟩:=List.mem_map.1 hy
    exact gd_hd (hes e he)) ⟨by simp,fun ho=>ok_lift hlv ho ho.2.2⟩
   obtain⟨⟨es',fl'⟩,h1,h2,h3⟩:=hj
   rw[List.length_map,List.take_length] at h2
   simp only at h2 h3
   subst h2
   refine⟨fl',?_,h3⟩
   rw[Sp.can_arr]
   have e1:91::(Sp.joinC (es'.map (Sp.can f))++[93])++r=91::(Sp.joinC (es'.map (Sp.can f))++93::r):=by simp
   rw[e1]
   unfold Sp.val
   rw[show Sp.pk (91::(Sp.joinC (es'.map (Sp.can f))++93::r))=91 from rfl,if_neg (by decide),if_pos rfl,h1]
  ·have hk:∀p∈es,∃s,p.1 = .string s:=fun p hpm=>let ⟨⟨s,hs,_⟩,_⟩:=hes p hpm; ⟨s,hs⟩
   have hj:=lstAll_join (σ:=Sp.V×Sp.Fl) 123 125 (Or.inr rfl) (Sp.memb (Sp.val f (lv+1))) (fun i s=>s.1=Sp.vObj (es.take i)∧(Sp.OkF d x fl→Sp.OkF d x s.2)) r (es.map (Sp.entT f)) (Sp.vObj [],(fl.1,(max fl.2.1 lv,fl.2.2))) (by
    rintro i hi ⟨a,fl1⟩ rest ⟨ha,hf⟩ hrest
    rw[List.length_map] at hi
    simp only at ha hf
    subst ha
    rw[List.getElem_map]
    obtain⟨⟨k,hki,hut⟩,hg⟩:=hes es[i] (List.getElem_mem hi)
    obtain⟨fl2,h1,h2⟩:=ih (lv+1) es[i].2 hg fl1 rest hrest
    obtain⟨q1,q2⟩:=put_next hp hk hi hki
    have e1:Sp.entT f es[i]++rest=Sp.quoT k++(58::(Sp.can f es[i].2++rest)):=by
     unfold Sp.entT
     rw[hki]
     simp[strOf]
    rw[e1]
    unfold Sp.memb
    rw[quo_quoT hut]
    simp only
    rw[show Sp.skB (58::(Sp.can f es[i].2++rest))=58::(Sp.can f es[i].2++rest) from rfl,if_pos (by rfl),List.tail_cons,(gd_hd hg).skB,h1]
    simp only
    rw[q1,q2,Bool.or_false]
    exact⟨_,rfl,rfl,fun ho=>h2 (hf ho)⟩) (by
    intro y hy
    obtain⟨e,he,rfl⟩:=List.mem_map.1 hy
    exact⟨34,_,rfl,by decide,by decide,by decide⟩) ⟨rfl,fun ho=>ok_lift hlv ho ho.2.2⟩
   obtain⟨⟨v',fl'⟩,h1,h2,h3⟩:=hj
   rw[List.length_map,List.take_length] at h2
   simp only at h2 h3
   subst h2
   refine⟨fl',?_,h3⟩
   rw[obj_text hp hk]
   have e1:123::(Sp.joinC (es.map (Sp.entT f))++[125])++r=123::(Sp.joinC (es.map (Sp.entT f))++125::r):=by simp
   rw[e1]
   unfold Sp.val
   rw[show Sp.pk (123::(Sp.joinC (es.map (Sp.entT f))++125::r))=123 from rfl,if_pos rfl,h1]
theorem read_gd {t:Sp.By} {d x:Int} {v:Sp.V} (h:Sp.readTo t d x=(0,some v)):Sp.gd d x top 1 v:=by
 unfold Sp.readTo at h
 split at h
 ·injection h with h1 h2;cases h2
 ·split at h
  ·injection h with h1 h2;cases h2
  ·rename_i v2 r fl hv
   split at h
   ·split at h
    ·injection h with h1 h2;cases h2
    ·rename_i k1
     split at h
     ·injection h with h1 h2;cases h2
     ·rename_i k2
      split at h
      ·injection h with h1 h2;cases h2
      ·rename_i k3
       injection h with h1 h2
       injection h2 with h2
       subst h2
       exact (val_gd d x _ _ _ _ _ _ _ hv ⟨by simpa using k1,by omega,by omega⟩).2
   ·injection h with h1 h2;cases h2
theorem reread {d x:Int} {v:Sp.V} (hg:Sp.gd d x top 1 v) (hx0:0≤x) (hx:x≤1000000) (a b:Sp.By) (ha:∀l,Sp.skB (a++l)=Sp.skB l) (hb:Sp.skB b=[]) (hnd:Sp.Nd b) (hl:(a++(Sp.can top v++b)).length≤2000) :
  Sp.readTo (a++(Sp.can top v++b)) d x=(0,some v):=by
 have hd0:1≤d:=by
  have hgg:∀f,Sp.gd d x f 1 v→1≤d:=by
   intro f h
   cases f with
   | zero=>cases h
   | succ f=>exact h.1
  exact hgg top hg
 obtain⟨fl',h1,h2⟩:=val_can hx top 1 v hg (false,(0,0)) b hnd
 obtain⟨k1,k2,k3⟩:=h2 ⟨rfl,by simp only;omega,hx0⟩
 rw[readTo_some (by omega) (by rw[ha,(gd_hd hg).skB];exact h1),hb,if_pos (show ([]:Sp.By).isEmpty=true from rfl),k1,if_neg (by decide),if_neg (by omega),if_neg (by omega)]
end

section
open Go.RowKit Go.Maps
namespace Sp
def dgs:By:=[48,49,50,51,52,53,54,55,56,57]
def ixf (acc:Nat) (l:By):Nat:=l.foldl (fun a c=>a*10+(c.toNat-48)) acc
def idx (t:By):Option Nat :=
 if t=[]∨(1<t.length∧t[0]? = some 48)∨t.all (dgs.contains ·)=false then none else some (min (ixf 0 t) 9223372036854775807)
end Sp
namespace Sp
def child (d:V) (t:By):Except Nat V:=match d with
 | .map es=>if Maps.has (.map es:V) (.string t)=true then .ok ((DataW.map es).atKey (.string t) .nil) else .error 11
 | .slice es _=>match idx t with
  | none=>.error 12
  | some i=>match es[i]? with
   | some e=>.ok e
   | none=>.error 11
 | _=>.error 11
end Sp
namespace Sp
def find (d:V):List By→Except Nat V
 | []=>.ok d
 | t::r=>match child d t with
  | .ok e=>find e r
  | .error c=>.error c
end Sp
namespace Sp
def une:By→Option By
 | []=>some []
 | c::r=>if c=126 then (match r with
  | 48::q=>(une q).map (126 :: ·)
  | 49::q=>(une q).map (47 :: ·)
  | _=>none)
  else (une r).map (c :: ·)
end Sp
namespace Sp
def pcs:By→List By
 | []=>[[]]
 | c::r=>if c=47 then []::pcs r else match pcs r with
  | p::ps=>(c::p)::ps
  | []=>[[c]]
def keysOf:List By→Option (List By)
 | []=>some []
 | t::r=>match une t with
  | none=>none
  | some k=>(keysOf r).map (k :: ·)
def toks (l:By):Option (List By):=if Lib.validD l=true then (match pcs l with
 | []::r=>keysOf r
 | _=>none) else none
end Sp
noncomputable def veq (a b:Sp.V):Bool:=@decide (a=b) (Classical.propDecidable _)
theorem veq_t {a b:Sp.V} (h:a=b):veq a b=true:=by unfold veq;exact @decide_eq_true _ (Classical.propDecidable _) h
theorem veq_f {a b:Sp.V} (h:a≠b):veq a b=false:=by unfold veq;exact @decide_eq_false _ (Classical.propDecidable _) h
end

section
set_option maxHeartbeats 4000000
open Go.RowKit
theorem owns_cell1 {w:World} {B e n:Nat} {v:Value} {xs:List Value} (h:w.ownsRow B e 1 v n xs) (hpos:0<n):∃g cap,v = .slice (some ⟨g,0,none⟩) n cap∧n≤cap∧cap≤maxLen∧g<w.heap.size ∧ ∀k (hk:k<xs.length),w.cell? ⟨g,k,none⟩=some xs[k]:=by
 obtain⟨hlen,h⟩:=h
 rcases h with⟨_,h0⟩|⟨g,cap,cur,h1,_,h3,h4,h5,h6,h7⟩
 ·omega
 ·refine⟨g,cap,h1,h4,h5,(Array.getElem?_eq_some_iff.1 h3).1,fun k hk=>?_⟩
  have hkc:k<cur.size:=by rw[h6];omega
  have e:w.cell? ⟨g,k,none⟩=cur[k]?:=by simp[World.cell?,h3]
  rw[e,Array.getElem?_eq_getElem hkc]
  congr 1
  have h8:xs[k]? = some cur[k]:=by
   rw[← h7,List.getElem?_take,if_pos (by omega)]
   simp
  rw[List.getElem?_eq_getElem hk] at h8
  exact (Option.some.inj h8).symm
section
variable {w:World} {b b':Nat}
theorem same_diff {k k':Int} {n n':Sp.Nm} {s s':Sp.By} {sl sl' mp mp':Value} (h:VB w b k n s sl mp) (h':VB w b' k' n' s' sl' mp') (hk:k≠k') :
  Calls Tryz.prog 82 #[.pointer (some ⟨b,0,none⟩),.pointer (some ⟨b',0,none⟩)] w fun e w'=>e = .returned (.bool false)∧Below w.heap.size w w':=by
 have c0:=h.c0
 have d0:=h'.c0
 have e0:(k == k')=false:=beq_eq_false_iff_ne.2 hk
 have e1:(k != k')=true:=by simpa using hk
 clear h h' hk
 go_enter Tryz.func82,Tryz.ntmps82
 go_wp2_with (fail)
 go_quiet (fail)
 go_wp2_with (fail)
 go_ret
 exact⟨rfl,⟨rfl,rfl,rfl,Nat.le_refl _,fun _ _=>rfl⟩⟩
theorem same_word {k:Nat} (hk:k<3) {n n':Sp.Nm} {s s':Sp.By} {sl sl' mp mp':Value} (h:VB w b k n s sl mp) (h':VB w b' k n' s' sl' mp') :
  Calls Tryz.prog 82 #[.pointer (some ⟨b,0,none⟩),.pointer (some ⟨b',0,none⟩)] w fun e w'=>e = .returned (.bool true)∧Below w.heap.size w w':=by
 have c0:=h.c0
 have d0:=h'.c0
 clear h h'
 have e3:((k:Int) == 3)=false:=by rw[beq_eq_false_iff_ne];omega
 have e4:((k:Int) == 4)=false:=by rw[beq_eq_false_iff_ne];omega
 have e5:((k:Int) == 5)=false:=by rw[beq_eq_false_iff_ne];omega
 have e6:((k:Int) == 6)=false:=by rw[beq_eq_false_iff_ne];omega
 go_enter Tryz.func82,Tryz.ntmps82
 go_wp2_with (fail)
 go_quiet (fail)
 go_wp2_with (fail)
 go_ret
 exact⟨rfl,⟨rfl,rfl,rfl,Nat.le_refl _,fun _ _=>rfl⟩⟩
theorem same_str {n n':Sp.Nm} {s s':Sp.By} {sl sl' mp mp':Value} (h:VB w b 4 n s sl mp) (h':VB w b' 4 n' s' sl' mp') :
  Calls Tryz.prog 82 #[.pointer (some ⟨b,0,none⟩),.pointer (some ⟨b',0,none⟩)] w fun e w'=>e = .returned (.bool (s == s'))∧Below w.heap.size w w':=by
 have c0:=h.c0
 have d0:=h'.c0
 have c4:=h.c4
 have d4:=h'.c4
 clear h h'
 go_enter Tryz.func82,Tryz.ntmps82
 go_wp2_with (fail)
 go_quiet (fail)
 go_wp2_with (fail)
 go_quiet (fail)
 go_wp2_with (fail)
 go_ret
 exact⟨by first|rfl|simp,⟨rfl,rfl,rfl,Nat.le_refl _,fun _ _=>rfl⟩⟩
theorem same_num {n n':Sp.Nm} {s s':Sp.By} {sl sl' mp mp':Value} (h:VB w b 3 n s sl mp) (h':VB w b' 3 n' s' sl' mp') :
  Calls Tryz.prog 82 #[.pointer (some ⟨b,0,none⟩),.pointer (some ⟨b',0,none⟩)] w fun e w'=>e = .returned (.bool (decide (n=n')))∧Below w.heap.size w w':=by
 have c0:=h.c0
 have d0:=h'.c0
 have c1:=h.c1
 have d1:=h'.c1
 have c2:=h.c2
 have d2:=h'.c2
 have c3:=h.c3
 have d3:=h'.c3
 clear h h'
 obtain⟨na,nb,nc⟩:=n
 obtain⟨na',nb',nc'⟩:=n'
 simp only at c1 c2 c3 d1 d2 d3
 by_cases h2:nb=nb'
 ·have f2:(nb == nb')=true:=beq_iff_eq.2 h2
  by_cases h3:nc=nc'
  ·have f3:(nc == nc')=true:=beq_iff_eq.2 h3
   subst h2
   subst h3
   cases na<;>cases na'
   all_goals (
    go_enter Tryz.func82,Tryz.ntmps82
    go_wp2_with (fail)
    go_quiet (fail)
    go_wp2_with (fail)
    go_quiet (fail)
    go_wp2_with (fail)
    go_ret
    exact⟨by simp,⟨rfl,rfl,rfl,Nat.le_refl _,fun _ _=>rfl⟩⟩)
  ·have f3:(nc == nc')=false:=beq_eq_false_iff_ne.2 h3
   subst h2
   have H3:=hide h3
   clear h3
   cases na<;>cases na'
   all_goals (
    go_enter Tryz.func82,Tryz.ntmps82
    go_wp2_with (fail)
    go_quiet (fail)
    go_wp2_with (fail)
    go_quiet (fail)
    go_wp2_with (fail)
    go_ret
    exact⟨by have:=unhide H3;simp[this],⟨rfl,rfl,rfl,Nat.le_refl _,fun _ _=>rfl⟩⟩)
 ·have f2:(nb == nb')=false:=beq_eq_false_iff_ne.2 h2
  have H2:=hide h2
  clear h2
  cases na<;>cases na'
  all_goals (
   go_enter Tryz.func82,Tryz.ntmps82
   go_wp2_with (fail)
   go_quiet (fail)
   go_wp2_with (fail)
   go_quiet (fail)
   go_wp2_with (fail)
   go_ret
   exact⟨by have:=unhide H2;simp[this],⟨rfl,rfl,rfl,Nat.le_refl _,fun _ _=>rfl⟩⟩)
end
end
end Go.Proofs.YtdpomdelmdofmaaGreatDoor
