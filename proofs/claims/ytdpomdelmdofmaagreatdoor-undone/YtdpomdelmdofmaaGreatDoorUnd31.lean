import Derived.Test.YtdpomdelmdofmaaGreatDoorUnd30
import Derived.Deep.CutBlock
import Derived.Lib.ValidLaws
namespace Go.Proofs.YtdpomdelmdofmaaGreatDoor
open Go.Proofs.Tryz
section
open Go.RowKit Go.Maps
namespace Sp
theorem Wv{xs:List (Lit×V)}{k:By}{x:V}(h:Bk xs)(hg:AG xs (.string k)=some x):(Lit.string k,x)∈xs:=by
 rcases Ey xs k with⟨c,hc⟩|hno
 ·rw[Ci h hc] at hg;injection hg with hg;exact hg▸hc
 ·rw[DO hno] at hg;cases hg
end Sp
end

section
open Go.RowKit Go.Maps
namespace Sp
theorem Di{es:List (Lit×V)}(h:Bk es)(k j:By)(c:V):AG (mput (.string k) c es) (.string j)=if j=k then some c else AG es (.string j):=by
 have hs:=Cg (c:=c) (k:=k) h;by_cases e:j=k
 ·subst e;rw[if_pos rfl,Ci hs (Ew.2 (Or.inl rfl))]
 ·rw[if_neg e];rcases Ey es j with⟨c',hc⟩|hn
  ·rw[Ci h hc,Ci hs (Ew.2 (Or.inr ⟨hc,fun e'=>e (by injection e')⟩))]
  ·rw[DO hn,DO fun p hp=>?_];rcases Ew.1 hp with rfl|⟨hp,_⟩
   ·exact fun e'=>e (by injection e' with e';exact e'.symm)
   ·exact hn p hp
theorem Hu{es:List (Lit×V)}(h:Bk es)(k j:By):AG (mdel (.string k) es) (.string j)=if j=k then none else AG es (.string j):=by
 by_cases e:j=k
 ·subst e;rw[if_pos rfl,DO fun p hp=>(Fp.1 hp).2]
 ·rw[if_neg e,Uo h e]
theorem Gz:∀ {xs ys:List (Lit×V)},Bk xs->Bk ys->(∀k:By,AG xs (.string k)=AG ys (.string k))->xs=ys:=by
 have mem_iff:∀ {xs:List (Lit×V)},Bk xs -> ∀ (k:By) (c:V),(Lit.string k,c)∈xs<->AG xs (.string k)=some c:=fun h k c=>⟨Ci h,Wv h⟩
 have main:∀ {xs ys:List (Lit×V)},Bk xs->Bk ys->(∀p,p∈xs<->p∈ys)->xs=ys:=by
  intro xs;induction xs with
  | nil =>
   intro ys _ _ h;cases ys with
   | nil=>rfl
   | cons b ys=>have:=(h b).2 List.mem_cons_self;cases this
  | cons a l ih =>
   intro ys hx hy h;cases ys with
   | nil=>have:=(h a).1 List.mem_cons_self;cases this
   | cons b m =>
    have h1:=List.pairwise_cons.1 hx.1;have h2:=List.pairwise_cons.1 hy.1;obtain⟨ka,ea⟩:=hx.2 a List.mem_cons_self;obtain⟨kb,eb⟩:=hy.2 b List.mem_cons_self;have hab:a=b:=by
     rcases List.mem_cons.1 ((h a).1 List.mem_cons_self) with e|e
     ·exact e
     ·rcases List.mem_cons.1 ((h b).2 List.mem_cons_self) with e2|e2
      ·exact e2.symm
      ·have q1:=h2.1 a e;have q2:=h1.1 b e2;rw[ea,eb] at q1 q2;rw[IV q1] at q2;cases q2
    subst hab;have:l=m:=ih ⟨h1.2,fun p hp=>hx.2 p (List.mem_cons_of_mem _ hp)⟩ ⟨h2.2,fun p hp=>hy.2 p (List.mem_cons_of_mem _ hp)⟩ fun p=>by
     constructor
     ·intro hp;rcases List.mem_cons.1 ((h p).1 (List.mem_cons_of_mem _ hp)) with e|e
      ·subst e;have:=h1.1 p hp;rw[ea,DE] at this;cases this
      ·exact e
     ·intro hp;rcases List.mem_cons.1 ((h p).2 (List.mem_cons_of_mem _ hp)) with e|e
      ·subst e;have:=h2.1 p hp;rw[ea,DE] at this;cases this
      ·exact e
    rw[this]
 intro xs ys hx hy h;refine main hx hy fun p=>?_;constructor
 ·intro hp;obtain⟨k,e⟩:=hx.2 p hp;have hp':(Lit.string k,p.2)∈xs:=by rw[<- e];exact hp
  have:=(mem_iff hy k p.2).2 (by rw[<- h];exact (mem_iff hx k p.2).1 hp');rw[<- e] at this;exact this
 ·intro hp;obtain⟨k,e⟩:=hy.2 p hp;have hp':(Lit.string k,p.2)∈ys:=by rw[<- e];exact hp
  have:=(mem_iff hx k p.2).2 (by rw[h];exact (mem_iff hy k p.2).1 hp');rw[<- e] at this;exact this
end Sp
end

section
open Go.RowKit Go.Maps
namespace Sp
theorem Dn(es:List (Lit×V))(t:By):Aj (.map es) t=match AG es (.string t) with
  | some e=>.ok e
  | none=>.error 11:=by
 have e1:Aj (.map es) t=if Maps.has (.map es:V) (.string t)=true then .ok ((DataW.map es).atKey (.string t) .nil) else .error 11:=rfl
 rw[e1];unfold AG;by_cases h:Maps.has (.map es:V) (.string t)=true
 ·rw[if_pos h,if_pos h]
 ·rw[if_neg h,if_neg h]
theorem OO{es:List (Lit×V)}{t:By}{i:Nat}(h:pos (.map es) t=some i):∃e,es[i]? = some (Lit.string t,e):=by
 have h':es.findIdx? (fun p=>p.1.sameKey (.string t))=some i:=h;obtain⟨hi,hs,_⟩:=List.findIdx?_eq_some_iff_getElem.1 h';refine⟨es[i].2,?_⟩;rw[List.getElem?_eq_getElem hi,<- WideAt.sameKey_eq hs]
theorem MY{es:List (Lit×V)}(h:Bk es)(i:Nat)(x:V):Bk (es.modify i fun p=>(p.1,x)):=by
 have hk:=DM x es i;constructor
 ·have h1:(es.map Prod.fst).Pairwise (fun k l:Lit=>k.before l=true):=List.pairwise_map.2 h.1;rw[<- hk] at h1;exact List.pairwise_map.1 h1
 ·intro p hp;have h1:p.1∈(es.modify i fun p=>(p.1,x)).map Prod.fst:=List.mem_map.2 ⟨p,hp,rfl⟩;rw[hk] at h1;obtain⟨q,hq,e⟩:=List.mem_map.1 h1;rw[<- e];exact h.2 q hq
theorem Mj{v e:V}{i:Nat}(a:V)(h:(A9 v)[i]? = some e):(A9 (CU i a v))[i]? = some a:=by
 cases v with
 | slice es y =>
  have h':es[i]? = some e:=h;obtain⟨hi,_⟩:=List.getElem?_eq_some_iff.1 h';show (es.set i a)[i]? = some a;rw[List.getElem?_set_self hi]
 | map es =>
  have h':(es.map Prod.snd)[i]? = some e:=h;rw[List.getElem?_map] at h';show ((es.modify i fun p=>(p.1,a)).map Prod.snd)[i]? = some a;rw[List.getElem?_map,List.getElem?_modify];cases hg:es[i]? with
  | none=>rw[hg] at h';cases h'
  | some p=>simp
 | _=>(have h':([]:List V)[i]? = some e:=h;simp at h')
theorem QN(v a b:V)(i:Nat):CU i a (CU i b v)=CU i a v:=by
 cases v with
 | slice es y=>show DataW.slice ((es.set i b).set i a) y = .slice (es.set i a) y;rw[List.set_set]
 | map es =>
  show DataW.map ((es.modify i fun p=>(p.1,b)).modify i fun p=>(p.1,a)) = .map (es.modify i fun p=>(p.1,a));congr 1;apply List.ext_getElem?;intro j;simp only[List.getElem?_modify];cases es[j]? with
  | none=>rfl
  | some p=>by_cases hij:i=j<;>simp[hij]
 | _=>rfl
theorem QO{v e:V}{i:Nat}(h:(A9 v)[i]? = some e):CU i e v=v:=by
 cases v with
 | slice es y =>
  have h':es[i]? = some e:=h;obtain⟨hi,he⟩:=List.getElem?_eq_some_iff.1 h';show DataW.slice (es.set i e) y = .slice es y;rw[<- he,List.set_getElem_self]
 | map es =>
  have h':(es.map Prod.snd)[i]? = some e:=h;rw[List.getElem?_map] at h';show DataW.map (es.modify i fun p=>(p.1,e)) = .map es;congr 1;apply List.ext_getElem?;intro j;rw[List.getElem?_modify];split
  ·rename_i hij;subst hij;cases hg:es[i]? with
   | none=>rfl
   | some p =>
    rw[hg] at h';injection h' with h';subst h';rfl
  ·cases es[j]? <;> rfl
 | _=>rfl
theorem IX:∀ (q:List Nat) {v n:V} (m n':V),BC q v=some n->Ay q m (Ay q n' v)=Ay q m v
 | [],_,_,_,_,_=>rfl
 | i::q,v,n,m,n',h=>by
  rw[BC] at h;cases hk:(A9 v)[i]? with
  | none=>rw[hk] at h;cases h
  | some e =>
   rw[hk] at h;rw[Ay,Ay,hk];simp only[Mj (Ay q n' e) hk];rw[QN,IX q m n' h];rw[Ay,hk]
theorem FH:∀ (q:List Nat) {v n:V},BC q v=some n->Ay q n v=v
 | [],v,n,h=>by injection h with h;exact h.symm
 | i::q,v,n,h=>by
  rw[BC] at h;cases hk:(A9 v)[i]? with
  | none=>rw[hk] at h;cases h
  | some e =>
   rw[hk] at h;rw[Ay,hk];simp only;rw[FH q h,QO hk]
theorem Wp{d x:Int}{f:Nat}{lv:Int}{v e:V}{t:By}{i:Nat}(a:V)(h:gd d x (f+1) lv v)(hp:pos v t=some i)(he:(A9 v)[i]? = some e):pos (CU i a v) t=some i/\Aj (CU i a v) t = .ok a:=by
 obtain⟨_,h⟩:=h;rcases h with⟨k,hk,rfl⟩|⟨s,hs,rfl⟩|⟨n,h1,h2,h3,rfl⟩|⟨es,h,rfl⟩|⟨es,h1,h2,rfl⟩
 ·cases hp
 ·cases hp
 ·cases hp
 ·have hp':(match idx t with
   | none=>none
   | some i=>if i<es.length then some i else none)=some i:=hp
  cases hi:idx t with
  | none=>rw[hi] at hp';cases hp'
  | some j =>
   rw[hi] at hp';simp only at hp';split at hp'
   ·rename_i hlt;injection hp' with hp';subst hp';constructor
    ·show (match idx t with
      | none=>none
      | some i=>if i<(es.set j a).length then some i else none)=some j
     rw[hi];simp only[List.length_set];rw[if_pos hlt]
    ·show (match idx t with
      | none=>Except.error 12
      | some i=>match (es.set j a)[i]? with
       | some e=>.ok e
       | none=>.error 11) = .ok a
     rw[hi];simp only[List.getElem?_set_self hlt]
   ·cases hp'
 ·have hs:Bk es:=⟨h1,fun p hp=>let ⟨⟨s,e,_⟩,_⟩:=h2 p hp; ⟨s,e⟩⟩
  have hms:=MY hs i a;obtain⟨e0,h3⟩:=OO hp;have h4:(es.modify i fun p=>(p.1,a))[i]? = some (Lit.string t,a):=by
   rw[List.getElem?_modify,h3];simp
  constructor
  ·show (es.modify i fun p=>(p.1,a)).findIdx? (fun p=>p.1.sameKey (.string t))=some i;have e1:∀l:List (Lit×V),l.findIdx? (fun p=>p.1.sameKey (.string t))=(l.map Prod.fst).findIdx? (fun k=>k.sameKey (.string t)):=fun l=>by rw[List.findIdx?_map];rfl
   rw[e1,DM,<- e1];exact hp
  ·show Aj (.map (es.modify i fun p=>(p.1,a))) t = .ok a;rw[Dn,Ci hms (List.mem_of_getElem? h4)]
theorem GO{d x:Int}:∀ {s:List By} {f:Nat} {lv:Int} {v n:V} {q:List Nat} (a:V),gd d x f lv v->Ag v s = .ok n->Bz v s=some q->Ag (Ay q a v) s = .ok a/\Bz (Ay q a v) s=some q/\BC q v=some n
 | [],f,lv,v,n,q,a,h,hf,hq=>by
  injection hf with hf;injection hq with hq;subst hf hq;exact⟨rfl,rfl,rfl⟩
 | t::r,f,lv,v,n,q,a,h,hf,hq=>by
  cases f with
  | zero=>exact h.elim
  | succ f =>
   rw[Ag] at hf;cases hc:Aj v t with
   | error c=>rw[hc] at hf;cases hf
   | ok e =>
    rw[hc] at hf;obtain⟨i,h1,h2⟩:=H8 h hc;rw[Bz,h1] at hq;simp only[h2] at hq;obtain⟨q',hq',rfl⟩:=Option.map_eq_some_iff.1 hq;obtain⟨g1,g2,g3⟩:=GO a (Fu h h2) hf hq';obtain⟨k1,k2⟩:=Wp (Ay q' a e) h h1 h2;have hv:Ay (i::q') a v=CU i (Ay q' a e) v:=by rw[Ay,h2]
    rw[hv];refine⟨?_,?_,?_⟩
    ·rw[Ag,k2];exact g1
    ·rw[Bz,k1];simp only[Mj (Ay q' a e) h2,g2];rfl
    ·rw[BC,h2];exact g3
end Sp
end

section
open Go.RowKit Go.Maps
namespace Sp
def inv(i:Opn):Op2:=(i.1,i.2.1,[],if i.1=1 then .nil else i.2.2)
def EG(u:V)(i:Opn)(v:V):Prop:=∃i',do1 u (inv i) = .ok (v,[i'])
theorem Cx(s:List By)(t:By):BX (s++[t])=some (s,t):=by
 unfold BX;simp
theorem I9{p s:List By}{t:By}(h:BX p=some (s,t)):p=s++[t]:=by
 unfold BX at h;cases hl:p.getLast? with
 | none=>rw[hl] at h;cases h
 | some u =>
  rw[hl] at h;injection h with h;injection h with h1 h2;subst h1 h2;have hne:p≠[]:=fun e=>by subst e;cases hl
  have:=List.dropLast_concat_getLast hne;rw[List.getLast?_eq_some_getLast hne] at hl;injection hl with hl;rw[<- hl];exact this.symm
variable{d x:Int}{B:Nat}{v v1 n y e:V}{s p:List By}{t:By}{j:List Opn}
theorem KK(hv:Fit d x B v)(hf:Ag v s = .ok n):∃q,way v s=q/\(∀a,Ag (Ay q a v) s = .ok a/\way (Ay q a v) s=q)/\(∀a b,Ay q b (Ay q a v)=Ay q b v)/\Ay q n v=v/\(∃f lv,gd d x (f+1) lv n)/\(A9 n).length<=B:=by
 obtain⟨q,f,h1,h2,h3,h4,h5,h6,h7⟩:=EC hv hf;refine⟨q,by unfold way;rw[h2];rfl,fun a=>?_,fun a b=>IX q b a h3,FH q h3,⟨f,_,h4⟩,Nat.le_trans It h5⟩;obtain⟨g1,g2,_⟩:=GO a hv.gd hf h2;exact⟨g1,by unfold way;rw[g2];rfl⟩
theorem Jh{f:Nat}{lv:Int}{es:List (Lit×V)}(h:gd d x f lv (.map es)):Bk es:=by
 cases f with
 | zero=>exact h.elim
 | succ f=>exact (Dj h).2.skey
theorem KD{es:List (Lit×V)}{t:By}:(Maps.has (.map es:V) (.string t)=true->AG es (.string t)=some ((DataW.map es).atKey (.string t) .nil))/\(¬ Maps.has (.map es:V) (.string t)=true->AG es (.string t)=none):=by
 constructor<;>intro h
 ·unfold AG; rw[if_pos h]
 ·unfold AG; rw[if_neg h]
theorem Nh{es:List (Lit×V)}{t:By}(h:AG es (.string t)=none):¬ Maps.has (.map es:V) (.string t)=true:=fun h2=>by
 rw[KD.1 h2] at h;cases h
theorem T9{α:Type}{i:Nat}{c:α}{l:List α}(h:i<=l.length):(lins i c l)[i]? = some c:=by
 unfold lins;rw[List.getElem?_append_right (by simp;omega),List.length_take,Nat.min_eq_left h,Nat.sub_self];rfl
theorem MX{es:List (Lit×V)}{k:By}{a b:V}(h:Bk es)(hg:AG es (.string k)=some b):mput (.string k) b (mput (.string k) a es)=es:=by
 refine Gz (Cg (Cg h)) h fun j=>?_;rw[Di (Cg h),Di h];split
 ·rename_i e;subst e;exact hg.symm
 ·rfl
theorem TT{es:List (Lit×V)}{k:By}{a:V}(h:Bk es)(hg:AG es (.string k)=none):mdel (.string k) (mput (.string k) a es)=es:=by
 refine Gz (FP (Cg h)) h fun j=>?_;rw[Hu (Cg h),Di h];split
 ·rename_i e;subst e;exact hg.symm
 ·rfl
theorem TO{es:List (Lit×V)}{k:By}{b:V}(h:Bk es)(hg:AG es (.string k)=some b):mput (.string k) b (mdel (.string k) es)=es:=by
 refine Gz (Cg (FP h)) h fun j=>?_;rw[Di (FP h),Hu h];split
 ·rename_i e;subst e;exact hg.symm
 ·rfl
theorem Sy(u:Nat):ixf 0 (Lib.decDigits u)=u/\(Lib.decDigits u).all (dgs.contains ·)=true/\(1<=u->(Lib.decDigits u)[0]? ≠ some 48):=by
 have hdig:∀k,k<10->(UInt8.ofNat (48+k)).toNat=48+k:=by
  intro k hk;simp;omega
 have hdg:∀k,k<10->dgs.contains (UInt8.ofNat (48+k))=true:=fun k hk=>by
  have hc:k=0\/k=1\/k=2\/k=3\/k=4\/k=5\/k=6\/k=7\/k=8\/k=9:=by omega
  rcases hc with rfl|rfl|rfl|rfl|rfl|rfl|rfl|rfl|rfl|rfl<;>rfl
 induction u using Nat.strongRecOn with
 | ind u ih =>
  rw[Lib.decDigits];split
  ·rename_i h;refine⟨?_,?_,fun h1 e=>?_⟩
   ·show 0*10+((UInt8.ofNat (48+u)).toNat-48)=u;rw[hdig u h];omega
   ·simp only[List.all_cons,List.all_nil,Bool.and_true];exact hdg u h
   ·have e':UInt8.ofNat (48+u)=48:=by simpa using e
    have:=hdig u h;rw[e'] at this;have h48:(48:UInt8).toNat=48:=rfl;omega
  ·rename_i h;obtain⟨h1,h2,h3⟩:=ih (u / 10) (by omega);refine⟨?_,?_,fun _=>?_⟩
   ·have e:ixf 0 (Lib.decDigits (u / 10)++[UInt8.ofNat (48+u % 10)])=ixf 0 (Lib.decDigits (u / 10))*10+((UInt8.ofNat (48+u % 10)).toNat-48):=by unfold ixf;rw[List.foldl_append];rfl
    rw[e,h1,hdig _ (by omega)];omega
   ·rw[List.all_append,h2];simp only[List.all_cons,List.all_nil,Bool.and_true,Bool.true_and];exact hdg _ (by omega)
   ·have hne:=Ff (u / 10);rw[List.getElem?_append_left (List.length_pos_iff.2 hne)];exact h3 (by omega)
theorem Uk(i:Nat)(h:i<=1000000000000):idx (Lib.itoa (i:Int))=some i:=by
 have e:Lib.itoa (i:Int)=Lib.decDigits i:=by unfold Lib.itoa;rw[if_neg (by omega)];rfl
 obtain⟨h1,h2,h3⟩:=Sy i;rw[e,Nc ?_,h1]
 ·congr 1;omega
 ·rintro (h|⟨h4,h5⟩|h)
  ·exact Ff i h
  ·rcases Nat.eq_zero_or_pos i with rfl|hp
   ·have:Lib.decDigits 0=[48]:=by rw[Lib.decDigits,dif_pos (by omega)];rfl
    rw[this] at h4;simp at h4
   ·exact h3 hp h5
  ·rw[h2] at h;cases h
theorem WH(u:V)(s:List By)(e:V):do1 u (inv (0,s,e))=BU u s e:=rfl
theorem Pf(u:V)(s:List By)(e:V):do1 u (inv (1,s,e))=B7 u s:=rfl
theorem Pe(u:V)(s:List By)(e:V):do1 u (inv (2,s,e))=CM u s e:=rfl
theorem FU(hv:Fit d x B v)(hB:B<=900000000)(h:BU v p y = .ok (v1,j)):∃i,j=[i]/\EG v1 i v:=by
 unfold BU at h;cases hs:BX p with
 | none =>
  rw[hs] at h;injection h with h;injection h with h1 h2;subst h1 h2;exact⟨_,rfl,(2,[],y),rfl⟩
 | some st =>
  obtain⟨s,t⟩:=st;rw[hs] at h;simp only at h;cases hf:Ag v s with
  | error c=>rw[hf] at h;cases h
  | ok n =>
   rw[hf] at h;simp only at h;obtain⟨q,hq,hput,hpp,hself,⟨f,lv,hgn⟩,hkn⟩:=KK hv hf;cases n with
   | map es =>
    have hsk:=Jh hgn;rw[Ce] at h;split at h
    ·rename_i hh;have hg:=KD.1 hh;injection h with h;injection h with h1 h2;subst h1 h2;refine⟨_,rfl,(2,s++[t],y),?_⟩;rw[Pe,hq];obtain⟨f1,f2⟩:=hput (DH 0 t y (.map es));unfold CM;rw[Cx];simp only[f1];have hc:Aj (DH 0 t y (.map es)) t = .ok y:=by
      show Aj (.map (mput (.string t) y es)) t=_;rw[Dn,Di hsk,if_pos rfl]
     rw[hc];simp only[f2];rw[hpp];have e1:DH ((idx t).getD 0) t ((DataW.map es).atKey (.string t) .nil) (DH 0 t y (.map es)) = .map es:=congrArg DataW.map (MX hsk hg);rw[e1,hself]
    ·rename_i hh;have hg:=KD.2 hh;injection h with h;injection h with h1 h2;subst h1 h2;refine⟨_,rfl,(0,s++[t],y),?_⟩;rw[Pf,hq];obtain⟨f1,f2⟩:=hput (CV 0 t y (.map es));unfold B7;rw[Cx];simp only[f1];have hc:Aj (CV 0 t y (.map es)) t = .ok y:=by
      show Aj (.map (mput (.string t) y es)) t=_;rw[Dn,Di hsk,if_pos rfl]
     rw[hc];simp only[f2];rw[hpp];have e1:Eu ((idx t).getD 0) t (CV 0 t y (.map es)) = .map es:=congrArg DataW.map (TT hsk hg);rw[e1,hself]
   | slice es z =>
    rw[Ce] at h;cases hsl:C5 es.length t with
    | error c=>rw[hsl] at h;cases h
    | ok i =>
     rw[hsl] at h;injection h with h;injection h with h1 h2;subst h1 h2;have hle:i<=es.length:=by
      unfold C5 at hsl;split at hsl
      ·injection hsl with hsl;omega
      ·cases hi:idx t with
       | none=>rw[hi] at hsl;cases hsl
       | some k =>
        rw[hi] at hsl;simp only at hsl;split at hsl
        ·cases hsl
        ·injection hsl with hsl;omega
     have hlB:es.length<=B:=hkn;have hix:=Uk i (by omega);refine⟨_,rfl,(0,s++[Lib.itoa (i:Int)],y),?_⟩;rw[Pf,hq];obtain⟨f1,f2⟩:=hput (CV i noB y (.slice es z));unfold B7;rw[Cx];simp only[f1];have hc:Aj (CV i noB y (.slice es z)) (Lib.itoa (i:Int)) = .ok y:=by
      show (match idx (Lib.itoa (i:Int)) with
       | none=>Except.error 12
       | some k=>match (lins i y es)[k]? with
        | some e=>.ok e
        | none=>.error 11) = .ok y
      rw[hix];simp only[T9 hle]
     rw[hc];simp only[f2,hix,Option.getD_some];rw[hpp];have e1:Eu i (Lib.itoa (i:Int)) (CV i noB y (.slice es z)) = .slice es z:=congrArg (fun l=>DataW.slice l z) (Ls y hle);rw[e1,hself]
   | _=>cases h
theorem Hy(hv:Fit d x B v)(h:B7 v p = .ok (v1,j)):∃i,j=[i]/\EG v1 i v:=by
 unfold B7 at h;cases hs:BX p with
 | none=>rw[hs] at h;cases h
 | some st =>
  obtain⟨s,t⟩:=st;have hp:=I9 hs;rw[hs] at h;simp only at h;cases hf:Ag v s with
  | error c=>rw[hf] at h;cases h
  | ok n =>
   rw[hf] at h;simp only at h;cases hch:Aj n t with
   | error c=>rw[hch] at h;cases h
   | ok e =>
    rw[hch] at h;injection h with h;injection h with h1 h2;subst h1 h2 hp;obtain⟨q,hq,hput,hpp,hself,⟨f,lv,hgn⟩,hkn⟩:=KK hv hf;obtain⟨f1,f2⟩:=hput (Eu ((idx t).getD 0) t n);refine⟨_,rfl,?_⟩;unfold EG;rw[WH,hq];unfold BU;rw[Cx];simp only[f1];cases n with
    | map es =>
     have hsk:=Jh hgn;have hg:AG es (.string t)=some e:=by
      rw[Dn] at hch;cases hg:AG es (.string t) with
      | none=>rw[hg] at hch;cases hch
      | some e'=>rw[hg] at hch;injection hch with hch;rw[hch]
     have hno:AG (mdel (.string t) es) (.string t)=none:=by rw[Hu hsk,if_pos rfl]
     refine⟨(1,s++[t],.nil),?_⟩;show (if Maps.has (.map (mdel (.string t) es):V) (.string t)=true then _ else _)=_;rw[if_neg (Nh hno),f2,hpp];have e1:CV 0 t e (.map (mdel (.string t) es)) = .map es:=congrArg DataW.map (TO hsk hg);rw[e1,hself]
    | slice es z =>
     have hch':(match idx t with
       | none=>Except.error 12
       | some k=>match es[k]? with
        | some e=>.ok e
        | none=>.error 11) = .ok e:=hch
     cases hi:idx t with
     | none=>rw[hi] at hch';cases hch'
     | some i =>
      rw[hi] at hch';simp only at hch';cases hg:es[i]? with
      | none=>rw[hg] at hch';cases hch'
      | some e' =>
       rw[hg] at hch';injection hch' with hch';subst hch';obtain⟨hlt,_⟩:=List.getElem?_eq_some_iff.1 hg;have hl:(ldel i es).length=es.length-1:=by
        unfold ldel;rw[List.length_append,List.length_take,List.length_drop];omega
       have hsl:C5 (ldel i es).length t = .ok i:=by
        unfold C5;rw[if_neg (by rintro rfl;cases hi),hi];simp only;rw[if_neg (by omega)]
       refine⟨(1,s++[Lib.itoa (i:Int)],.nil),?_⟩;have e0:∀ (d0:V) (l:List V),Ce d0 s t (.slice l z) e'=(match C5 l.length t with
        | .error c=>Except.error c
        | .ok i=>.ok (Ay (way d0 s) (CV i noB e' (.slice l z)) d0,[((1,s++[Lib.itoa (i:Int)],.nil):Opn)])):=fun _ _=>rfl
       rw[hi] at f2;have f2:way (Ay q (Eu i t (.slice es z)) v) s=q:=f2;have e2:=e0 (Ay q (Eu i t (.slice es z)) v) (ldel i es);rw[hsl] at e2;simp only at e2;rw[show DataW.slice (ldel i es) z=Eu i t (.slice es z) from rfl,f2,hpp] at e2;refine e2.trans ?_;have e1:CV i noB e' (Eu i t (.slice es z)) = .slice es z:=congrArg (fun l=>DataW.slice l z) (FQ hg);rw[e1,hself]
    | _=>cases hch
theorem Hw(hv:Fit d x B v)(h:CM v p y = .ok (v1,j)):∃i,j=[i]/\EG v1 i v:=by
 unfold CM at h;cases hs:BX p with
 | none =>
  rw[hs] at h;injection h with h;injection h with h1 h2;subst h1 h2;exact⟨_,rfl,(2,[],y),rfl⟩
 | some st =>
  obtain⟨s,t⟩:=st;have hp:=I9 hs;rw[hs] at h;simp only at h;cases hf:Ag v s with
  | error c=>rw[hf] at h;cases h
  | ok n =>
   rw[hf] at h;simp only at h;cases hch:Aj n t with
   | error c=>rw[hch] at h;cases h
   | ok e =>
    rw[hch] at h;injection h with h;injection h with h1 h2;subst h1 h2 hp;obtain⟨q,hq,hput,hpp,hself,⟨f,lv,hgn⟩,hkn⟩:=KK hv hf;obtain⟨f1,f2⟩:=hput (DH ((idx t).getD 0) t y n);refine⟨_,rfl,(2,s++[t],y),?_⟩;rw[Pe,hq];unfold CM;rw[Cx];simp only[f1];have key:Aj (DH ((idx t).getD 0) t y n) t = .ok y/\DH ((idx t).getD 0) t e (DH ((idx t).getD 0) t y n)=n:=by
     cases n with
     | map es =>
      have hsk:=Jh hgn;have hg:AG es (.string t)=some e:=by
       rw[Dn] at hch;cases hg:AG es (.string t) with
       | none=>rw[hg] at hch;cases hch
       | some e'=>rw[hg] at hch;injection hch with hch;rw[hch]
      constructor
      ·show Aj (.map (mput (.string t) y es)) t=_;rw[Dn,Di hsk,if_pos rfl]
      ·exact congrArg DataW.map (MX hsk hg)
     | slice es z =>
      have hch':(match idx t with
        | none=>Except.error 12
        | some k=>match es[k]? with
         | some e=>.ok e
         | none=>.error 11) = .ok e:=hch
      cases hi:idx t with
      | none=>rw[hi] at hch';cases hch'
      | some i =>
       rw[hi] at hch';simp only at hch';cases hg:es[i]? with
       | none=>rw[hg] at hch';cases hch'
       | some e' =>
        rw[hg] at hch';injection hch' with hch';subst hch';obtain⟨hlt,he⟩:=List.getElem?_eq_some_iff.1 hg;constructor
        ·show (match idx t with
          | none=>Except.error 12
          | some k=>match (es.set ((some i).getD 0) y)[k]? with
           | some e=>.ok e
           | none=>.error 11) = .ok y
         rw[hi];simp only[Option.getD_some,List.getElem?_set_self hlt]
        ·show DataW.slice ((es.set i y).set i e') z = .slice es z;rw[List.set_set,<- he,List.set_getElem_self]
     | _=>cases hch
    rw[key.1];simp only[f2];rw[hpp,key.2,hself]
end Sp
end

section
open Go.RowKit Go.Maps
namespace Sp
theorem Ow:∀t:By,une (Bq t)=some t
 | []=>rfl
 | c::r=>by
  have ih:=Ow r;have e:Bq (c::r)=Da c++Bq r:=rfl;rw[e];unfold Da;split
  ·rename_i h;subst h;show une (126::48::Bq r)=_;rw[Ee,if_pos rfl];show (une (Bq r)).map (126 :: ·)=_
   rw[ih];rfl
  ·rename_i h;split
   ·rename_i h2;subst h2;show une (126::49::Bq r)=_;rw[Ee,if_pos rfl];show (une (Bq r)).map (47 :: ·)=_
    rw[ih];rfl
   ·show une (c::Bq r)=_;rw[Ee,if_neg h,ih];rfl
theorem Ox:∀t:By,∀b∈Bq t,b≠47
 | [],_,h=>by cases h
 | c::r,b,h=>by
  have e:Bq (c::r)=Da c++Bq r:=rfl;rw[e] at h;rcases List.mem_append.1 h with h|h
  ·unfold Da at h;split at h
   ·simp at h;rcases h with rfl|rfl<;>decide
   ·split at h
    ·simp at h;rcases h with rfl|rfl<;>decide
    ·rename_i h2;rw[List.mem_singleton] at h;rw[h];exact h2
  ·exact Ox r b h
theorem MM:∀p:List By,pcs (AY p)=[]::p.map Bq
 | []=>rfl
 | t::r=>by
  have ih:=MM r;have e:AY (t::r)=47::(Bq t++AY r):=rfl;rw[e,pcs,if_pos rfl];obtain⟨p,ps,h1,h2⟩:=OR (Ox t) (AY r);rw[ih] at h1;injection h1 with h1 h3;rw[h2,<- h1,<- h3,List.append_nil];rfl
theorem J4:∀p:List By,keysOf (p.map Bq)=some p
 | []=>rfl
 | t::r=>by
  show (match une (Bq t) with
   | none=>none
   | some k=>(keysOf (r.map Bq)).map (k :: ·))=_
  rw[Ow,J4 r];rfl
theorem JG{a b:By}(ha:Ut a)(hb:Ut b):Ut (a++b):=by
 obtain⟨cs,h1,rfl⟩:=ha;obtain⟨ds,h2,rfl⟩:=hb;exact⟨cs++ds,fun c hc=>(List.mem_append.1 hc).elim (h1 c) (h2 c),by rw[List.flatMap_append]⟩
theorem QR{b:UInt8}(h:b.toNat<128):Ut [b]:=⟨[b.toNat],fun c hc=>by rw[List.mem_singleton] at hc;subst hc;exact Or.inl (by omega),by
 rw[List.flatMap_cons,List.flatMap_nil,List.append_nil,show encN b.toNat=[UInt8.ofNat b.toNat] from C4 _ h];simp⟩
theorem Cl:∀ {s:By},(∀b∈s,b.toNat<128)->Ut s
 | [],_=>EN
 | b::r,h=>JG (a:=[b]) (QR (h b (by simp))) (Cl fun c hc=>h c (by simp[hc]))
theorem Ov:∀ (cs:List Nat),(∀c∈cs,Sc c)->Ut (Bq (cs.flatMap encN))
 | [],_=>EN
 | c::cs,h=>by
  have hc:=h c (by simp);have ih:=Ov cs fun x hx=>h x (by simp[hx]);have e:Bq ((c::cs).flatMap encN)=Bq (encN c)++Bq (cs.flatMap encN):=by rw[List.flatMap_cons];unfold Bq;rw[List.flatMap_append]
  rw[e];refine JG ?_ ih;rcases Gp hc 126 (by omega) with⟨rfl,e1⟩|⟨_,e1⟩
  ·rw[e1];exact Cl (by decide)
  ·rcases Gp hc 47 (by omega) with⟨rfl,e2⟩|⟨_,e2⟩
   ·rw[e2];exact Cl (by decide)
   ·have hid:∀l:By,(∀x∈l,x≠126)->(∀x∈l,x≠47)->Bq l=l:=by
     intro l;induction l with
     | nil=>intro _ _;rfl
     | cons a r ih =>
      intro h1 h2;have e3:Bq (a::r)=Da a++Bq r:=rfl;rw[e3,ih (fun x hx=>h1 x (by simp[hx])) (fun x hx=>h2 x (by simp[hx]))];unfold Da;rw[if_neg (h1 a (by simp)),if_neg (h2 a (by simp))];rfl
    rw[hid _ e1 e2];exact⟨[c],fun x hx=>by rw[List.mem_singleton] at hx;subst hx;exact hc,by simp⟩
theorem Il:∀ {p:List By},(∀t∈p,Ut t)->Ut (AY p)
 | [],_=>EN
 | t::r,h=>by
  obtain⟨cs,h1,h2⟩:=h t (by simp);have h3:Ut (Bq t):=by rw[h2];exact Ov cs h1
  exact JG (a:=[47]) (QR (by decide)) (JG h3 (Il fun u hu=>h u (by simp[hu])))
theorem Tf{s:By}(h:Ut s):Lib.validD s=true:=by
 obtain⟨cs,h1,rfl⟩:=h;induction cs with
 | nil=>rfl
 | cons c cs ih =>
  have hc:=h1 c (by simp);have ih':=ih fun x hx=>h1 x (by simp[hx]);rw[List.flatMap_cons];by_cases hlt:c<128
  ·rw[show encN c=[UInt8.ofNat c] from C4 c hlt];show Lib.validD (UInt8.ofNat c::cs.flatMap encN)=true;rw[Lib.validD_cons _ _ (by simp;omega),ih']
  ·obtain⟨_,h3,h4⟩:=Fz c (by omega) hc (cs.flatMap encN);have hne:encN c++cs.flatMap encN≠[]:=by
    intro e;have:(encN c).length=0:=by rw[(List.append_eq_nil_iff.1 e).1];rfl
    have h4':2<=(encN c).length:=h4;omega
   have hd:Lib.decodeL (encN c++cs.flatMap encN)=(c,(encN c).length):=by rw[Lib.decodeL_N,<- DZ _ hne];exact h3
   rw[Lib.validD_step _ hne,hd];have h4':2<=(encN c).length:=h4;rw[if_neg (by simp only;omega)];show Lib.validD ((encN c++cs.flatMap encN).drop (encN c).length)=true;rw[List.drop_left,ih']
theorem QV{p:List By}(h:∀t∈p,Ut t):toks (AY p)=some p:=by
 unfold toks;rw[Tf (Il h),if_pos rfl,MM];exact J4 p
def Iv(d x:Int)(B:Nat)(i:Opn):Prop:=i.1<3/\(∀t∈i.2.1,Ut t)/\(i.1≠1->Fit d x B i.2.2)
theorem RS{i:Opn}(h:i.1<3)(hu:∀t∈i.2.1,Ut t):CF (A0 i)=some (inv i):=by
 obtain⟨k,p,v⟩:=i;have ht:=QV hu;simp only at h ht;have hk:k=0\/k=1\/k=2:=by omega
 rcases hk with rfl|rfl|rfl
 ·have e1:AK (A0 (0,p,v)) BE=some (Az (AY p)):=rfl;have e2:AK (A0 (0,p,v)) op_=some (Az Jy):=rfl;have e3:AK (A0 (0,p,v)) Bg=some v:=rfl;have e4:AK (A0 (0,p,v)) Dz=none:=rfl;unfold CF BZ;rw[e1,e2,e3,e4];show (match toks (AY p) with
   | none=>none
   | some p=>_)=_
  rw[ht];rfl
 ·have e1:AK (A0 (1,p,v)) BE=some (Az (AY p)):=rfl;have e2:AK (A0 (1,p,v)) op_=some (Az Fc):=rfl;have e3:AK (A0 (1,p,v)) Bg=none:=rfl;have e4:AK (A0 (1,p,v)) Dz=none:=rfl;unfold CF BZ;rw[e1,e2,e3,e4];show (match toks (AY p) with
   | none=>none
   | some p=>_)=_
  rw[ht];rfl
 ·have e1:AK (A0 (2,p,v)) BE=some (Az (AY p)):=rfl;have e2:AK (A0 (2,p,v)) op_=some (Az Es):=rfl;have e3:AK (A0 (2,p,v)) Bg=some v:=rfl;have e4:AK (A0 (2,p,v)) Dz=none:=rfl;unfold CF BZ;rw[e1,e2,e3,e4];show (match toks (AY p) with
   | none=>none
   | some p=>_)=_
  rw[ht];rfl
theorem J8:∀ (l:List Opn) (n:Nat),(∀i∈l,i.1<3 /\ ∀t∈i.2.1,Ut t)->Cn n (l.map A0) = .ok (l.map inv)
 | [],_,_=>rfl
 | i::l,n,h=>by
  obtain⟨h1,h2⟩:=h i (by simp);rw[List.map_cons,Cn,RS h1 h2];simp only;rw[J8 l (n+1) fun i hi=>h i (by simp[hi])];rfl
theorem Xn{d x:Int}{B:Nat}{l:List Opn}(h0:1<=d)(hd:d<=500)(h:∀i∈l,Iv d x B i):gd (d+2) x top 1 (Ar (l.map A0)):=by
 have hnm:∀k:Nat,Ut (BD k):=fun k=>by
  unfold BD;split
  ·exact Cl (by decide)
  ·split<;>exact Cl (by decide)
 have key:∀i∈l,gd (d+2) x 2000 2 (A0 i):=by
  intro i hi;obtain⟨h1,h2,h3⟩:=h i hi;have hs:∀s:By,Ut s->gd (d+2) x 1999 3 (Az s):=fun s hs=>⟨by omega,Or.inr (Or.inl ⟨s,hs,rfl⟩)⟩
  unfold A0;split
  ·refine⟨by omega,Or.inr (Or.inr (Or.inr (Or.inr ⟨_,?_,?_,rfl⟩)))⟩
   ·exact List.Pairwise.cons (fun p hp=>by rw[List.mem_singleton] at hp;subst hp;show Lit.before (Lit.string _) (Lit.string _)=true;decide) (List.pairwise_singleton _ _)
   ·intro p hp;simp only[List.mem_cons,List.not_mem_nil,or_false] at hp;rcases hp with rfl|rfl
    ·exact⟨⟨_,rfl,Cl (by decide)⟩,hs _ (hnm _)⟩
    ·exact⟨⟨_,rfl,Cl (by decide)⟩,hs _ (Il h2)⟩
  ·rename_i hk;have hf:=h3 hk;have g1:gd (d+2) x top 3 i.2.2:=EU (s:=2) hf.gd;refine⟨by omega,Or.inr (Or.inr (Or.inr (Or.inr ⟨_,?_,?_,rfl⟩)))⟩
   ·refine List.Pairwise.cons (fun p hp=>?_) (List.Pairwise.cons (fun p hp=>?_) (List.pairwise_singleton _ _))
    ·simp only[List.mem_cons,List.not_mem_nil,or_false] at hp;rcases hp with rfl|rfl<;>(show Lit.before (Lit.string _) (Lit.string _)=true;decide)
    ·rw[List.mem_singleton] at hp;subst hp;show Lit.before (Lit.string _) (Lit.string _)=true;decide
   ·intro p hp;simp only[List.mem_cons,List.not_mem_nil,or_false] at hp;rcases hp with rfl|rfl|rfl
    ·exact⟨⟨_,rfl,Cl (by decide)⟩,hs _ (hnm _)⟩
    ·exact⟨⟨_,rfl,Cl (by decide)⟩,hs _ (Il h2)⟩
    ·exact⟨⟨_,rfl,Cl (by decide)⟩,Cj (f:=1999) g1 (by omega)⟩
 refine⟨by omega,Or.inr (Or.inr (Or.inr (Or.inl ⟨_,fun e he=>?_,rfl⟩)))⟩;obtain⟨i,hi,rfl⟩:=List.mem_map.1 he;exact key i hi
theorem SQ{d x:Int}{B:Nat}{l:List Opn}(h0:1<=d)(hd:d<=500)(hx0:0<=x)(hx:x<=1000000)(h:∀i∈l,Iv d x B i)(hl:(BW l).length<=2000):∃P,readTo (BW l) (d+2) x=(0,some P)/\Dv P = .ok (l.map inv):=by
 have hg:=Xn h0 hd h;have r1:=Xf hg hx0 hx [] [] (fun l=>rfl) rfl (by intro c t e;cases e) (by simpa[BW] using hl);simp only[List.nil_append,List.append_nil] at r1;exact⟨_,r1,J8 l 0 fun i hi=>⟨(h i hi).1,(h i hi).2.1⟩⟩
end Sp
end

section
open Go.RowKit Go.Maps
namespace Sp
variable{d x:Int}{B:Nat}
theorem Jp:∀ {f:Nat} {lv:Int} {v:V},gd d x f lv v->lv+dep f v<=d+1
 | 0,_,_,h=>h.elim
 | f+1,lv,v,⟨h0,h⟩=>by
  rcases h with⟨k,hk,rfl⟩|⟨s,hs,rfl⟩|⟨n,h1,h2,h3,rfl⟩|⟨es,h,rfl⟩|⟨es,h1,h2,rfl⟩
  ·show lv+1<=d+1;omega
  ·show lv+1<=d+1;omega
  ·show lv+1<=d+1;omega
  ·rw[Pi];have:=D9 (m:=d-lv) (by omega) (l:=es.map (dep f)) fun y hy=>by
    obtain⟨q,hq,rfl⟩:=List.mem_map.1 hy;have:=Jp (h q hq);omega
   omega
  ·rw[Ph];have:=D9 (m:=d-lv) (by omega) (l:=es.map fun p=>dep f p.2) fun y hy=>by
    obtain⟨q,hq,rfl⟩:=List.mem_map.1 hy;have:=Jp (h2 q hq).2;omega
   omega
theorem TS{v:V}(h:gd d x top 1 v):Ex d v=0\/Ex d v=4:=by
 have:=Jp h;unfold Ex;rw[if_neg (by omega)];split
 ·exact Or.inr rfl
 ·exact Or.inl rfl
def Cs(d x:Int)(B:Nat):V->List Opn->V->Prop
 | v,[],w=>v=w
 | v,i::j,w=>Fit d x B v/\Iv d x B i /\ ∃u,EG u i v/\Cs d x B u j w
theorem Cs.append:∀ {a b:List Opn} {v u w:V},Cs d x B v a u->Cs d x B u b w->Cs d x B v (a++b) w
 | [],_,_,_,_,h1,h2=>by
  have h1':_=_:=h1;subst h1';exact h2
 | i::a,_,_,_,_,⟨h1,h2,u,h3,h4⟩,h5=>⟨h1,h2,u,h3,h4.append h5⟩
theorem Cs.iv:∀ {j:List Opn} {v w:V},Cs d x B v j w -> ∀i∈j,Iv d x B i
 | [],_,_,_,_,h=>by cases h
 | i::j,_,_,⟨_,h2,_,_,h4⟩,k,hk=>by
  rcases List.mem_cons.1 hk with rfl|hk
  ·exact h2
  ·exact h4.iv k hk
theorem Nv(dp:Int):∀ (a b:List Op2) (k:Nat) (v:V) (j:List Opn),Bb dp k v j (a++b)=match Bb dp k v j a with
  | .error e=>.error e
  | .ok (u,j1)=>Bb dp (k+a.length) u j1 b
 | [],b,k,v,j=>by rw[List.nil_append,Bb];rfl
 | o::a,b,k,v,j=>by
  rw[List.cons_append,Bb,Bb];cases do1 v o with
  | error c=>rfl
  | ok r =>
   obtain⟨v',j'⟩:=r;simp only;split
   ·rw[Nv dp a b (k+1) v' (j++j'),show k+1+a.length=k+(o::a).length by simp;omega]
   ·rfl
theorem W7:∀ (j:List Opn) {v w:V},Cs d x B v j w -> ∀ (k:Nat) (j0:List Opn),(∃j2,Bb d k w j0 (j.reverse.map inv) = .ok (v,j0++j2)) \/ ∃i,Bb d k w j0 (j.reverse.map inv) = .error (4,i)
 | [],v,w,h,k,j0=>by
  have h':v=w:=h;subst h';exact Or.inl ⟨[],by rw[List.append_nil];rfl⟩
 | i::j,v,w,⟨h1,_,u,⟨i',h3⟩,h4⟩,k,j0=>by
  rw[List.reverse_cons,List.map_append,Nv];rcases W7 j h4 k j0 with⟨j2,e⟩|⟨n,e⟩
  ·rw[e];simp only[List.map_cons,List.map_nil];rw[Bb,h3];simp only;rcases TS h1.gd with hm|hm
   ·rw[if_pos hm,Bb];exact Or.inl ⟨j2++[i'],by rw[List.append_assoc]⟩
   ·rw[if_neg (by omega),hm];exact Or.inr ⟨_,rfl⟩
  ·rw[e];exact Or.inr ⟨_,rfl⟩
theorem Wr(i:Nat):Ut (Lib.itoa (i:Int)):=Cl fun b hb=>by
 have e:Lib.itoa (i:Int)=Lib.decDigits i:=by unfold Lib.itoa;rw[if_neg (by omega)];rfl
 rw[e] at hb;have:=FB i b hb;unfold isD at this;simp at this;omega
theorem Ou{s:List By}{t:By}(h:∀u∈s,Ut u)(ht:Ut t):∀u∈s++[t],Ut u:=fun u hu=>by
 rcases List.mem_append.1 hu with hu|hu
 ·exact h u hu
 ·rw[List.mem_singleton] at hu;rw[hu];exact ht
theorem KH{v v1 y:V}{p:List By}{j:List Opn}(hp:∀t∈p,Ut t)(h:BU v p y = .ok (v1,j)):∀i∈j,i.1<3 /\ ∀t∈i.2.1,Ut t:=by
 unfold BU at h;cases hs:BX p with
 | none =>
  rw[hs] at h;injection h with h;injection h with h1 h2;subst h2;intro i hi;rw[List.mem_singleton] at hi;subst hi;exact⟨(by decide:2<3),fun t ht=>by cases ht⟩
 | some st =>
  obtain⟨s,t⟩:=st;have e:=I9 hs;subst e;have hus:∀u∈s,Ut u:=fun u hu=>hp u (by simp[hu]);rw[hs] at h;simp only at h;cases hf:Ag v s with
  | error c=>rw[hf] at h;cases h
  | ok n =>
   rw[hf] at h;simp only at h;cases n with
   | map es =>
    rw[Ce] at h;split at h
    ·injection h with h;injection h with h1 h2;subst h2;intro i hi;rw[List.mem_singleton] at hi;subst hi;exact⟨(by decide:2<3),hp⟩
    ·injection h with h;injection h with h1 h2;subst h2;intro i hi;rw[List.mem_singleton] at hi;subst hi;exact⟨(by decide:1<3),hp⟩
   | slice es z =>
    rw[Ce] at h;cases hsl:C5 es.length t with
    | error c=>rw[hsl] at h;cases h
    | ok k =>
     rw[hsl] at h;injection h with h;injection h with h1 h2;subst h2;intro i hi;rw[List.mem_singleton] at hi;subst hi;exact⟨(by decide:1<3),Ou hus (Wr k)⟩
   | _=>cases h
theorem Pc{v v1:V}{p:List By}{j:List Opn}(hp:∀t∈p,Ut t)(h:B7 v p = .ok (v1,j)):∀i∈j,i.1<3 /\ ∀t∈i.2.1,Ut t:=by
 unfold B7 at h;cases hs:BX p with
 | none=>rw[hs] at h;cases h
 | some st =>
  obtain⟨s,t⟩:=st;rw[hs] at h;simp only at h;cases hf:Ag v s with
  | error c=>rw[hf] at h;cases h
  | ok n =>
   rw[hf] at h;simp only at h;cases hc:Aj n t with
   | error c=>rw[hc] at h;cases h
   | ok e =>
    rw[hc] at h;injection h with h;injection h with h1 h2;subst h2;intro i hi;rw[List.mem_singleton] at hi;subst hi;exact⟨(by decide:0<3),hp⟩
theorem WF{v v1 y:V}{p:List By}{j:List Opn}(hp:∀t∈p,Ut t)(h:CM v p y = .ok (v1,j)):∀i∈j,i.1<3 /\ ∀t∈i.2.1,Ut t:=by
 unfold CM at h;cases hs:BX p with
 | none =>
  rw[hs] at h;injection h with h;injection h with h1 h2;subst h2;intro i hi;rw[List.mem_singleton] at hi;subst hi;exact⟨(by decide:2<3),fun t ht=>by cases ht⟩
 | some st =>
  obtain⟨s,t⟩:=st;rw[hs] at h;simp only at h;cases hf:Ag v s with
  | error c=>rw[hf] at h;cases h
  | ok n =>
   rw[hf] at h;simp only at h;cases hc:Aj n t with
   | error c=>rw[hc] at h;cases h
   | ok e =>
    rw[hc] at h;injection h with h;injection h with h1 h2;subst h2;intro i hi;rw[List.mem_singleton] at hi;subst hi;exact⟨(by decide:2<3),hp⟩
theorem Eb{v v1:V}{j:List Opn}(hv:Fit d x B v)(h:∃i,j=[i]/\EG v1 i v)(hu:∀i∈j,i.1<3 /\ ∀t∈i.2.1,Ut t)(ho:∀i∈j,FF d x B i):Cs d x B v j v1:=by
 obtain⟨i,rfl,hb⟩:=h;have h1:=hu i (by simp);exact⟨hv,⟨h1.1,h1.2,(ho i (by simp)).2⟩,v1,hb,rfl⟩
theorem Ss{v v1:V}{j:List Opn}{o:Op2}(hv:Fit d x 200000 v)(ho:OpOk (d+2) x 200000 o)(h5:d<=100)(h:do1 v o = .ok (v1,j)):Cs d x 200000 v j v1:=by
 obtain⟨_,hok,_⟩:=Iy hv ho h5 h;obtain⟨hp,hq,_⟩:=ho;unfold do1 at h;split at h
 ·exact Eb hv (FU hv (by omega) h) (KH hp.2 h) hok
 ·split at h
  ·exact Eb hv (Hy hv h) (Pc hp.2 h) hok
  ·split at h
   ·exact Eb hv (Hw hv h) (WF hp.2 h) hok
   ·split at h
    ·rename_i h3;have hq':=hq (Or.inl h3);unfold Iz at h;cases hf:Ag v o.2.2.1 with
     | error c=>rw[hf] at h;cases h
     | ok e =>
      rw[hf] at h;simp only at h;split at h
      ·injection h with h;injection h with h1 h2;subst h1 h2;exact rfl
      ·split at h
       ·cases h
       ·cases hr:B7 v o.2.2.1 with
        | error c=>rw[hr] at h;cases h
        | ok r =>
         obtain⟨d1,j1⟩:=r;rw[hr] at h;simp only at h;cases ha:BU d1 o.2.1 e with
         | error c=>rw[ha] at h;cases h
         | ok r2 =>
          obtain⟨d2,j2⟩:=r2;rw[ha] at h;injection h with h;injection h with h1 h2;subst h1 h2;have hf1:=(Hx hv hq' hr).1;exact (Eb hv (Hy hv hr) (Pc hq'.2 hr) fun i hi=>hok i (List.mem_append_left _ hi)).append
           (Eb hf1 (FU hf1 (by omega) ha) (KH hp.2 ha) fun i hi=>hok i (List.mem_append_right _ hi))
    ·split at h
     ·unfold IA at h;cases hf:Ag v o.2.2.1 with
      | error c=>rw[hf] at h;cases h
      | ok e =>
       rw[hf] at h;exact Eb hv (FU hv (by omega) h) (KH hp.2 h) hok
     ·unfold Ix at h;cases hf:Ag v o.2.1 with
      | error c=>rw[hf] at h;cases h
      | ok e =>
       rw[hf] at h;simp only at h;split at h
       ·injection h with h;injection h with h1 h2;subst h1 h2;exact rfl
       ·cases h
theorem GQ(hd:d<=100):∀ (l:List Op2) (k:Nat) (v:V) (j0:List Opn) {v':V} {j:List Opn},Fit d x 200000 v->(∀o∈l,OpOk (d+2) x 200000 o)->Bb d k v j0 l = .ok (v',j) -> ∃j1,j=j0++j1/\Cs d x 200000 v j1 v'
 | [],k,v,j0,v',j,_,_,h=>by
  unfold Bb at h;injection h with h;injection h with h1 h2;subst h1 h2;exact⟨[],by simp,rfl⟩
 | o::r,k,v,j0,v',j,hv,ho,h=>by
  unfold Bb at h;split at h
  ·cases h
  ·rename_i d1 j1 hdo;split at h
   ·rename_i hm;obtain⟨f1,_,_⟩:=Iy hv (ho o List.mem_cons_self) hd hdo;obtain⟨f2,_⟩:=Jg f1 hd hm;have hc:=Ss hv (ho o List.mem_cons_self) hd hdo;obtain⟨j2,rfl,hc2⟩:=GQ hd r _ d1 _ (f2.mono (Int.le_refl _) (by omega) (by omega)) (fun o h=>ho o (List.mem_cons_of_mem _ h)) h;exact⟨j1++j2,by rw[List.append_assoc],hc.append hc2⟩
   ·cases h
end Sp
end
end Go.Proofs.YtdpomdelmdofmaaGreatDoor
