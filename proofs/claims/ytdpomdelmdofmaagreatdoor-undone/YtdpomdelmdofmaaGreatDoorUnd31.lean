import Derived.Test.YtdpomdelmdofmaaGreatDoorUnd30
import Derived.Deep.CutBlock
import Derived.Lib.ValidLaws
namespace Go.Proofs.YtdpomdelmdofmaaGreatDoor
open Go.Proofs.Tryz
section
open Go.RowKit Go.Maps
namespace Sp
theorem CO{xs:List (Lit×V)}{k:By}{x:V}(h:bz xs)(hg:aK xs (.string k)=some x):(Lit.string k,x)∈xs:=by
 rcases gq xs k with⟨c,hc⟩|hno
 ·rw[cQ h hc] at hg;injection hg with hg;exact hg▸hc
 ·rw[fj hno] at hg;cases hg
end Sp
end

section
open Go.RowKit Go.Maps
namespace Sp
theorem ez{es:List (Lit×V)}(h:bz es)(k j:By)(c:V):aK (mput (.string k) c es) (.string j)=if j=k then some c else aK es (.string j):=by
 have hs:=cP (c:=c) (k:=k) h;by_cases e:j=k
 ·subst e;rw[if_pos rfl,cQ hs (gn.2 (Or.inl rfl))]
 ·rw[if_neg e];rcases gq es j with⟨c',hc⟩|hn
  ·rw[cQ h hc,cQ hs (gn.2 (Or.inr ⟨hc,fun e'=>e (by injection e')⟩))]
  ·rw[fj hn,fj fun p hp=>?_];rcases gn.1 hp with rfl|⟨hp,_⟩
   ·exact fun e'=>e (by injection e' with e';exact e'.symm)
   ·exact hn p hp
theorem k8{es:List (Lit×V)}(h:bz es)(k j:By):aK (mdel (.string k) es) (.string j)=if j=k then none else aK es (.string j):=by
 by_cases e:j=k
 ·subst e;rw[if_pos rfl,fj fun p hp=>(iB.1 hp).2]
 ·rw[if_neg e,Aq h e]
theorem jU:∀ {xs ys:List (Lit×V)},bz xs->bz ys->(∀k:By,aK xs (.string k)=aK ys (.string k))->xs=ys:=by
 have mem_iff:∀ {xs:List (Lit×V)},bz xs -> ∀ (k:By) (c:V),(Lit.string k,c)∈xs<->aK xs (.string k)=some c:=fun h k c=>⟨cQ h,CO h⟩
 have main:∀ {xs ys:List (Lit×V)},bz xs->bz ys->(∀p,p∈xs<->p∈ys)->xs=ys:=by
  intro xs;induction xs with
  | nil =>
   intro ys _ _ h;cases ys with
   | nil=>rfl
   | cons b ys=>have:=(h b).2 List.mem_cons_self;cases this
  | cons a l ih =>
   intro ys hx hy h;cases ys with
   | nil=>have:=(h a).1 List.mem_cons_self;cases this
   | cons b m =>
    have h1:=List.pairwise_cons.1 hx.1;have h2:=List.pairwise_cons.1 hy.1;obtain⟨ka,ea⟩:=hx.2 a List.mem_cons_self;obtain⟨kb,eb⟩:=hy.2 b List.mem_cons_self;have hab:a=b:=by
     rcases List.mem_cons.1 ((h a).1 List.mem_cons_self) with e|e
     ·exact e
     ·rcases List.mem_cons.1 ((h b).2 List.mem_cons_self) with e2|e2
      ·exact e2.symm
      ·have q1:=h2.1 a e;have q2:=h1.1 b e2;rw[ea,eb] at q1 q2;rw[ma q1] at q2;cases q2
    subst hab;have:l=m:=ih ⟨h1.2,fun p hp=>hx.2 p (List.mem_cons_of_mem _ hp)⟩ ⟨h2.2,fun p hp=>hy.2 p (List.mem_cons_of_mem _ hp)⟩ fun p=>by
     constructor
     ·intro hp;rcases List.mem_cons.1 ((h p).1 (List.mem_cons_of_mem _ hp)) with e|e
      ·subst e;have:=h1.1 p hp;rw[ea,eU] at this;cases this
      ·exact e
     ·intro hp;rcases List.mem_cons.1 ((h p).2 (List.mem_cons_of_mem _ hp)) with e|e
      ·subst e;have:=h2.1 p hp;rw[ea,eU] at this;cases this
      ·exact e
    rw[this]
 intro xs ys hx hy h;refine main hx hy fun p=>?_;constructor
 ·intro hp;obtain⟨k,e⟩:=hx.2 p hp;have hp':(Lit.string k,p.2)∈xs:=by rw[<- e];exact hp
  have:=(mem_iff hy k p.2).2 (by rw[<- h];exact (mem_iff hx k p.2).1 hp');rw[<- e] at this;exact this
 ·intro hp;obtain⟨k,e⟩:=hy.2 p hp;have hp':(Lit.string k,p.2)∈ys:=by rw[<- e];exact hp
  have:=(mem_iff hx k p.2).2 (by rw[h];exact (mem_iff hy k p.2).1 hp');rw[<- e] at this;exact this
end Sp
end

section
open Go.RowKit Go.Maps
namespace Sp
theorem eE(es:List (Lit×V))(t:By):aj (.map es) t=match aK es (.string t) with
  | some e=>.ok e
  | none=>.error 11:=by
 have e1:aj (.map es) t=if Maps.has (.map es:V) (.string t)=true then .ok ((DataW.map es).atKey (.string t) .nil) else .error 11:=rfl
 rw[e1];unfold aK;by_cases h:Maps.has (.map es:V) (.string t)=true
 ·rw[if_pos h,if_pos h]
 ·rw[if_neg h,if_neg h]
theorem tD{es:List (Lit×V)}{t:By}{i:Nat}(h:pos (.map es) t=some i):∃e,es[i]? = some (Lit.string t,e):=by
 have h':es.findIdx? (fun p=>p.1.sameKey (.string t))=some i:=h;obtain⟨hi,hs,_⟩:=List.findIdx?_eq_some_iff_getElem.1 h';refine⟨es[i].2,?_⟩;rw[List.getElem?_eq_getElem hi,<- WideAt.sameKey_eq hs]
theorem rk{es:List (Lit×V)}(h:bz es)(i:Nat)(x:V):bz (es.modify i fun p=>(p.1,x)):=by
 have hk:=ff x es i;constructor
 ·have h1:(es.map Prod.fst).Pairwise (fun k l:Lit=>k.before l=true):=List.pairwise_map.2 h.1;rw[<- hk] at h1;exact List.pairwise_map.1 h1
 ·intro p hp;have h1:p.1∈(es.modify i fun p=>(p.1,x)).map Prod.fst:=List.mem_map.2 ⟨p,hp,rfl⟩;rw[hk] at h1;obtain⟨q,hq,e⟩:=List.mem_map.1 h1;rw[<- e];exact h.2 q hq
theorem qu{v e:V}{i:Nat}(a:V)(h:(bi v)[i]? = some e):(bi (dK i a v))[i]? = some a:=by
 cases v with
 | slice es y =>
  have h':es[i]? = some e:=h;obtain⟨hi,_⟩:=List.getElem?_eq_some_iff.1 h';show (es.set i a)[i]? = some a;rw[List.getElem?_set_self hi]
 | map es =>
  have h':(es.map Prod.snd)[i]? = some e:=h;rw[List.getElem?_map] at h';show ((es.modify i fun p=>(p.1,a)).map Prod.snd)[i]? = some a;rw[List.getElem?_map,List.getElem?_modify];cases hg:es[i]? with
  | none=>rw[hg] at h';cases h'
  | some p=>simp
 | _=>(have h':([]:List V)[i]? = some e:=h;simp at h')
theorem v6(v a b:V)(i:Nat):dK i a (dK i b v)=dK i a v:=by
 cases v with
 | slice es y=>show DataW.slice ((es.set i b).set i a) y = .slice (es.set i a) y;rw[List.set_set]
 | map es =>
  show DataW.map ((es.modify i fun p=>(p.1,b)).modify i fun p=>(p.1,a)) = .map (es.modify i fun p=>(p.1,a));congr 1;apply List.ext_getElem?;intro j;simp only[List.getElem?_modify];cases es[j]? with
  | none=>rfl
  | some p=>by_cases hij:i=j<;>simp[hij]
 | _=>rfl
theorem v7{v e:V}{i:Nat}(h:(bi v)[i]? = some e):dK i e v=v:=by
 cases v with
 | slice es y =>
  have h':es[i]? = some e:=h;obtain⟨hi,he⟩:=List.getElem?_eq_some_iff.1 h';show DataW.slice (es.set i e) y = .slice es y;rw[<- he,List.set_getElem_self]
 | map es =>
  have h':(es.map Prod.snd)[i]? = some e:=h;rw[List.getElem?_map] at h';show DataW.map (es.modify i fun p=>(p.1,e)) = .map es;congr 1;apply List.ext_getElem?;intro j;rw[List.getElem?_modify];split
  ·rename_i hij;subst hij;cases hg:es[i]? with
   | none=>rfl
   | some p =>
    rw[hg] at h';injection h' with h';subst h';rfl
  ·cases es[j]? <;> rfl
 | _=>rfl
theorem me:∀ (q:List Nat) {v n:V} (m n':V),bN q v=some n->aC q m (aC q n' v)=aC q m v
 | [],_,_,_,_,_=>rfl
 | i::q,v,n,m,n',h=>by
  rw[bN] at h;cases hk:(bi v)[i]? with
  | none=>rw[hk] at h;cases h
  | some e =>
   rw[hk] at h;rw[aC,aC,hk];simp only[qu (aC q n' e) hk];rw[v6,me q m n' h];rw[aC,hk]
theorem iV:∀ (q:List Nat) {v n:V},bN q v=some n->aC q n v=v
 | [],v,n,h=>by injection h with h;exact h.symm
 | i::q,v,n,h=>by
  rw[bN] at h;cases hk:(bi v)[i]? with
  | none=>rw[hk] at h;cases h
  | some e =>
   rw[hk] at h;rw[aC,hk];simp only;rw[iV q h,v7 hk]
theorem CG{d x:Int}{f:Nat}{lv:Int}{v e:V}{t:By}{i:Nat}(a:V)(h:gd d x (f+1) lv v)(hp:pos v t=some i)(he:(bi v)[i]? = some e):pos (dK i a v) t=some i/\aj (dK i a v) t = .ok a:=by
 obtain⟨_,h⟩:=h;rcases h with⟨k,hk,rfl⟩|⟨s,hs,rfl⟩|⟨n,h1,h2,h3,rfl⟩|⟨es,h,rfl⟩|⟨es,h1,h2,rfl⟩
 ·cases hp
 ·cases hp
 ·cases hp
 ·have hp':(match idx t with
   | none=>none
   | some i=>if i<es.length then some i else none)=some i:=hp
  cases hi:idx t with
  | none=>rw[hi] at hp';cases hp'
  | some j =>
   rw[hi] at hp';simp only at hp';split at hp'
   ·rename_i hlt;injection hp' with hp';subst hp';constructor
    ·show (match idx t with
      | none=>none
      | some i=>if i<(es.set j a).length then some i else none)=some j
     rw[hi];simp only[List.length_set];rw[if_pos hlt]
    ·show (match idx t with
      | none=>Except.error 12
      | some i=>match (es.set j a)[i]? with
       | some e=>.ok e
       | none=>.error 11) = .ok a
     rw[hi];simp only[List.getElem?_set_self hlt]
   ·cases hp'
 ·have hs:bz es:=⟨h1,fun p hp=>let ⟨⟨s,e,_⟩,_⟩:=h2 p hp; ⟨s,e⟩⟩
  have hms:=rk hs i a;obtain⟨e0,h3⟩:=tD hp;have h4:(es.modify i fun p=>(p.1,a))[i]? = some (Lit.string t,a):=by
   rw[List.getElem?_modify,h3];simp
  constructor
  ·show (es.modify i fun p=>(p.1,a)).findIdx? (fun p=>p.1.sameKey (.string t))=some i;have e1:∀l:List (Lit×V),l.findIdx? (fun p=>p.1.sameKey (.string t))=(l.map Prod.fst).findIdx? (fun k=>k.sameKey (.string t)):=fun l=>by rw[List.findIdx?_map];rfl
   rw[e1,ff,<- e1];exact hp
  ·show aj (.map (es.modify i fun p=>(p.1,a))) t = .ok a;rw[eE,cQ hms (List.mem_of_getElem? h4)]
theorem ke{d x:Int}:∀ {s:List By} {f:Nat} {lv:Int} {v n:V} {q:List Nat} (a:V),gd d x f lv v->ag v s = .ok n->bK v s=some q->ag (aC q a v) s = .ok a/\bK (aC q a v) s=some q/\bN q v=some n
 | [],f,lv,v,n,q,a,h,hf,hq=>by
  injection hf with hf;injection hq with hq;subst hf hq;exact⟨rfl,rfl,rfl⟩
 | t::r,f,lv,v,n,q,a,h,hf,hq=>by
  cases f with
  | zero=>exact h.elim
  | succ f =>
   rw[ag] at hf;cases hc:aj v t with
   | error c=>rw[hc] at hf;cases hf
   | ok e =>
    rw[hc] at hf;obtain⟨i,h1,h2⟩:=li h hc;rw[bK,h1] at hq;simp only[h2] at hq;obtain⟨q',hq',rfl⟩:=Option.map_eq_some_iff.1 hq;obtain⟨g1,g2,g3⟩:=ke a (iG h h2) hf hq';obtain⟨k1,k2⟩:=CG (aC q' a e) h h1 h2;have hv:aC (i::q') a v=dK i (aC q' a e) v:=by rw[aC,h2]
    rw[hv];refine⟨?_,?_,?_⟩
    ·rw[ag,k2];exact g1
    ·rw[bK,k1];simp only[qu (aC q' a e) h2,g2];rfl
    ·rw[bN,h2];exact g3
end Sp
end

section
open Go.RowKit Go.Maps
namespace Sp
def inv(i:Opn):Op2:=(i.1,i.2.1,[],if i.1=1 then .nil else i.2.2)
def gB(u:V)(i:Opn)(v:V):Prop:=∃i',do1 u (inv i) = .ok (v,[i'])
theorem dj(s:List By)(t:By):cp (s++[t])=some (s,t):=by
 unfold cp;simp
theorem mj{p s:List By}{t:By}(h:cp p=some (s,t)):p=s++[t]:=by
 unfold cp at h;cases hl:p.getLast? with
 | none=>rw[hl] at h;cases h
 | some u =>
  rw[hl] at h;injection h with h;injection h with h1 h2;subst h1 h2;have hne:p≠[]:=fun e=>by subst e;cases hl
  have:=List.dropLast_concat_getLast hne;rw[List.getLast?_eq_some_getLast hne] at hl;injection hl with hl;rw[<- hl];exact this.symm
variable{d x:Int}{B:Nat}{v v1 n y e:V}{s p:List By}{t:By}{j:List Opn}
theorem ox(hv:Fit d x B v)(hf:ag v s = .ok n):∃q,way v s=q/\(∀a,ag (aC q a v) s = .ok a/\way (aC q a v) s=q)/\(∀a b,aC q b (aC q a v)=aC q b v)/\aC q n v=v/\(∃f lv,gd d x (f+1) lv n)/\(bi n).length<=B:=by
 obtain⟨q,f,h1,h2,h3,h4,h5,h6,h7⟩:=gx hv hf;refine⟨q,by unfold way;rw[h2];rfl,fun a=>?_,fun a b=>me q b a h3,iV q h3,⟨f,_,h4⟩,Nat.le_trans lF h5⟩;obtain⟨g1,g2,_⟩:=ke a hv.gd hf h2;exact⟨g1,by unfold way;rw[g2];rfl⟩
theorem mt{f:Nat}{lv:Int}{es:List (Lit×V)}(h:gd d x f lv (.map es)):bz es:=by
 cases f with
 | zero=>exact h.elim
 | succ f=>exact (eA h).2.skey
theorem om{es:List (Lit×V)}{t:By}:(Maps.has (.map es:V) (.string t)=true->aK es (.string t)=some ((DataW.map es).atKey (.string t) .nil))/\(¬ Maps.has (.map es:V) (.string t)=true->aK es (.string t)=none):=by
 constructor<;>intro h
 ·unfold aK; rw[if_pos h]
 ·unfold aK; rw[if_neg h]
theorem rE{es:List (Lit×V)}{t:By}(h:aK es (.string t)=none):¬ Maps.has (.map es:V) (.string t)=true:=fun h2=>by
 rw[om.1 h2] at h;cases h
theorem z8{α:Type}{i:Nat}{c:α}{l:List α}(h:i<=l.length):(lins i c l)[i]? = some c:=by
 unfold lins;rw[List.getElem?_append_right (by simp;omega),List.length_take,Nat.min_eq_left h,Nat.sub_self];rfl
theorem rj{es:List (Lit×V)}{k:By}{a b:V}(h:bz es)(hg:aK es (.string k)=some b):mput (.string k) b (mput (.string k) a es)=es:=by
 refine jU (cP (cP h)) h fun j=>?_;rw[ez (cP h),ez h];split
 ·rename_i e;subst e;exact hg.symm
 ·rfl
theorem zR{es:List (Lit×V)}{k:By}{a:V}(h:bz es)(hg:aK es (.string k)=none):mdel (.string k) (mput (.string k) a es)=es:=by
 refine jU (jb (cP h)) h fun j=>?_;rw[k8 (cP h),ez h];split
 ·rename_i e;subst e;exact hg.symm
 ·rfl
theorem zM{es:List (Lit×V)}{k:By}{b:V}(h:bz es)(hg:aK es (.string k)=some b):mput (.string k) b (mdel (.string k) es)=es:=by
 refine jU (cP (jb h)) h fun j=>?_;rw[ez (jb h),k8 h];split
 ·rename_i e;subst e;exact hg.symm
 ·rfl
theorem yq(u:Nat):ixf 0 (Lib.decDigits u)=u/\(Lib.decDigits u).all (dgs.contains ·)=true/\(1<=u->(Lib.decDigits u)[0]? ≠ some 48):=by
 have hdig:∀k,k<10->(UInt8.ofNat (48+k)).toNat=48+k:=by
  intro k hk;simp;omega
 have hdg:∀k,k<10->dgs.contains (UInt8.ofNat (48+k))=true:=fun k hk=>by
  have hc:k=0\/k=1\/k=2\/k=3\/k=4\/k=5\/k=6\/k=7\/k=8\/k=9:=by omega
  rcases hc with rfl|rfl|rfl|rfl|rfl|rfl|rfl|rfl|rfl|rfl<;>rfl
 induction u using Nat.strongRecOn with
 | ind u ih =>
  rw[Lib.decDigits];split
  ·rename_i h;refine⟨?_,?_,fun h1 e=>?_⟩
   ·show 0*10+((UInt8.ofNat (48+u)).toNat-48)=u;rw[hdig u h];omega
   ·simp only[List.all_cons,List.all_nil,Bool.and_true];exact hdg u h
   ·have e':UInt8.ofNat (48+u)=48:=by simpa using e
    have:=hdig u h;rw[e'] at this;have h48:(48:UInt8).toNat=48:=rfl;omega
  ·rename_i h;obtain⟨h1,h2,h3⟩:=ih (u / 10) (by omega);refine⟨?_,?_,fun _=>?_⟩
   ·have e:ixf 0 (Lib.decDigits (u / 10)++[UInt8.ofNat (48+u % 10)])=ixf 0 (Lib.decDigits (u / 10))*10+((UInt8.ofNat (48+u % 10)).toNat-48):=by unfold ixf;rw[List.foldl_append];rfl
    rw[e,h1,hdig _ (by omega)];omega
   ·rw[List.all_append,h2];simp only[List.all_cons,List.all_nil,Bool.and_true,Bool.true_and];exact hdg _ (by omega)
   ·have hne:=iq (u / 10);rw[List.getElem?_append_left (List.length_pos_iff.2 hne)];exact h3 (by omega)
theorem Ak(i:Nat)(h:i<=1000000000000):idx (Lib.itoa (i:Int))=some i:=by
 have e:Lib.itoa (i:Int)=Lib.decDigits i:=by unfold Lib.itoa;rw[if_neg (by omega)];rfl
 obtain⟨h1,h2,h3⟩:=yq i;rw[e,rB ?_,h1]
 ·congr 1;omega
 ·rintro (h|⟨h4,h5⟩|h)
  ·exact iq i h
  ·rcases Nat.eq_zero_or_pos i with rfl|hp
   ·have:Lib.decDigits 0=[48]:=by rw[Lib.decDigits,dif_pos (by omega)];rfl
    rw[this] at h4;simp at h4
   ·exact h3 hp h5
  ·rw[h2] at h;cases h
theorem C3(u:V)(s:List By)(e:V):do1 u (inv (0,s,e))=cj u s e:=rfl
theorem ug(u:V)(s:List By)(e:V):do1 u (inv (1,s,e))=cE u s:=rfl
theorem uf(u:V)(s:List By)(e:V):do1 u (inv (2,s,e))=dC u s e:=rfl
theorem jg(hv:Fit d x B v)(hB:B<=900000000)(h:cj v p y = .ok (v1,j)):∃i,j=[i]/\gB v1 i v:=by
 unfold cj at h;cases hs:cp p with
 | none =>
  rw[hs] at h;injection h with h;injection h with h1 h2;subst h1 h2;exact⟨_,rfl,(2,[],y),rfl⟩
 | some st =>
  obtain⟨s,t⟩:=st;rw[hs] at h;simp only at h;cases hf:ag v s with
  | error c=>rw[hf] at h;cases h
  | ok n =>
   rw[hf] at h;simp only at h;obtain⟨q,hq,hput,hpp,hself,⟨f,lv,hgn⟩,hkn⟩:=ox hv hf;cases n with
   | map es =>
    have hsk:=mt hgn;rw[cN] at h;split at h
    ·rename_i hh;have hg:=om.1 hh;injection h with h;injection h with h1 h2;subst h1 h2;refine⟨_,rfl,(2,s++[t],y),?_⟩;rw[uf,hq];obtain⟨f1,f2⟩:=hput (eY 0 t y (.map es));unfold dC;rw[dj];simp only[f1];have hc:aj (eY 0 t y (.map es)) t = .ok y:=by
      show aj (.map (mput (.string t) y es)) t=_;rw[eE,ez hsk,if_pos rfl]
     rw[hc];simp only[f2];rw[hpp];have e1:eY ((idx t).getD 0) t ((DataW.map es).atKey (.string t) .nil) (eY 0 t y (.map es)) = .map es:=congrArg DataW.map (rj hsk hg);rw[e1,hself]
    ·rename_i hh;have hg:=om.2 hh;injection h with h;injection h with h1 h2;subst h1 h2;refine⟨_,rfl,(0,s++[t],y),?_⟩;rw[ug,hq];obtain⟨f1,f2⟩:=hput (dL 0 t y (.map es));unfold cE;rw[dj];simp only[f1];have hc:aj (dL 0 t y (.map es)) t = .ok y:=by
      show aj (.map (mput (.string t) y es)) t=_;rw[eE,ez hsk,if_pos rfl]
     rw[hc];simp only[f2];rw[hpp];have e1:gk ((idx t).getD 0) t (dL 0 t y (.map es)) = .map es:=congrArg DataW.map (zR hsk hg);rw[e1,hself]
   | slice es z =>
    rw[cN] at h;cases hsl:dU es.length t with
    | error c=>rw[hsl] at h;cases h
    | ok i =>
     rw[hsl] at h;injection h with h;injection h with h1 h2;subst h1 h2;have hle:i<=es.length:=by
      unfold dU at hsl;split at hsl
      ·injection hsl with hsl;omega
      ·cases hi:idx t with
       | none=>rw[hi] at hsl;cases hsl
       | some k =>
        rw[hi] at hsl;simp only at hsl;split at hsl
        ·cases hsl
        ·injection hsl with hsl;omega
     have hlB:es.length<=B:=hkn;have hix:=Ak i (by omega);refine⟨_,rfl,(0,s++[Lib.itoa (i:Int)],y),?_⟩;rw[ug,hq];obtain⟨f1,f2⟩:=hput (dL i noB y (.slice es z));unfold cE;rw[dj];simp only[f1];have hc:aj (dL i noB y (.slice es z)) (Lib.itoa (i:Int)) = .ok y:=by
      show (match idx (Lib.itoa (i:Int)) with
       | none=>Except.error 12
       | some k=>match (lins i y es)[k]? with
        | some e=>.ok e
        | none=>.error 11) = .ok y
      rw[hix];simp only[z8 hle]
     rw[hc];simp only[f2,hix,Option.getD_some];rw[hpp];have e1:gk i (Lib.itoa (i:Int)) (dL i noB y (.slice es z)) = .slice es z:=congrArg (fun l=>DataW.slice l z) (pp y hle);rw[e1,hself]
   | _=>cases h
theorem lf(hv:Fit d x B v)(h:cE v p = .ok (v1,j)):∃i,j=[i]/\gB v1 i v:=by
 unfold cE at h;cases hs:cp p with
 | none=>rw[hs] at h;cases h
 | some st =>
  obtain⟨s,t⟩:=st;have hp:=mj hs;rw[hs] at h;simp only at h;cases hf:ag v s with
  | error c=>rw[hf] at h;cases h
  | ok n =>
   rw[hf] at h;simp only at h;cases hch:aj n t with
   | error c=>rw[hch] at h;cases h
   | ok e =>
    rw[hch] at h;injection h with h;injection h with h1 h2;subst h1 h2 hp;obtain⟨q,hq,hput,hpp,hself,⟨f,lv,hgn⟩,hkn⟩:=ox hv hf;obtain⟨f1,f2⟩:=hput (gk ((idx t).getD 0) t n);refine⟨_,rfl,?_⟩;unfold gB;rw[C3,hq];unfold cj;rw[dj];simp only[f1];cases n with
    | map es =>
     have hsk:=mt hgn;have hg:aK es (.string t)=some e:=by
      rw[eE] at hch;cases hg:aK es (.string t) with
      | none=>rw[hg] at hch;cases hch
      | some e'=>rw[hg] at hch;injection hch with hch;rw[hch]
     have hno:aK (mdel (.string t) es) (.string t)=none:=by rw[k8 hsk,if_pos rfl]
     refine⟨(1,s++[t],.nil),?_⟩;show (if Maps.has (.map (mdel (.string t) es):V) (.string t)=true then _ else _)=_;rw[if_neg (rE hno),f2,hpp];have e1:dL 0 t e (.map (mdel (.string t) es)) = .map es:=congrArg DataW.map (zM hsk hg);rw[e1,hself]
    | slice es z =>
     have hch':(match idx t with
       | none=>Except.error 12
       | some k=>match es[k]? with
        | some e=>.ok e
        | none=>.error 11) = .ok e:=hch
     cases hi:idx t with
     | none=>rw[hi] at hch';cases hch'
     | some i =>
      rw[hi] at hch';simp only at hch';cases hg:es[i]? with
      | none=>rw[hg] at hch';cases hch'
      | some e' =>
       rw[hg] at hch';injection hch' with hch';subst hch';obtain⟨hlt,_⟩:=List.getElem?_eq_some_iff.1 hg;have hl:(ldel i es).length=es.length-1:=by
        unfold ldel;rw[List.length_append,List.length_take,List.length_drop];omega
       have hsl:dU (ldel i es).length t = .ok i:=by
        unfold dU;rw[if_neg (by rintro rfl;cases hi),hi];simp only;rw[if_neg (by omega)]
       refine⟨(1,s++[Lib.itoa (i:Int)],.nil),?_⟩;have e0:∀ (d0:V) (l:List V),cN d0 s t (.slice l z) e'=(match dU l.length t with
        | .error c=>Except.error c
        | .ok i=>.ok (aC (way d0 s) (dL i noB e' (.slice l z)) d0,[((1,s++[Lib.itoa (i:Int)],.nil):Opn)])):=fun _ _=>rfl
       rw[hi] at f2;have f2:way (aC q (gk i t (.slice es z)) v) s=q:=f2;have e2:=e0 (aC q (gk i t (.slice es z)) v) (ldel i es);rw[hsl] at e2;simp only at e2;rw[show DataW.slice (ldel i es) z=gk i t (.slice es z) from rfl,f2,hpp] at e2;refine e2.trans ?_;have e1:dL i noB e' (gk i t (.slice es z)) = .slice es z:=congrArg (fun l=>DataW.slice l z) (jc hg);rw[e1,hself]
    | _=>cases hch
theorem lc(hv:Fit d x B v)(h:dC v p y = .ok (v1,j)):∃i,j=[i]/\gB v1 i v:=by
 unfold dC at h;cases hs:cp p with
 | none =>
  rw[hs] at h;injection h with h;injection h with h1 h2;subst h1 h2;exact⟨_,rfl,(2,[],y),rfl⟩
 | some st =>
  obtain⟨s,t⟩:=st;have hp:=mj hs;rw[hs] at h;simp only at h;cases hf:ag v s with
  | error c=>rw[hf] at h;cases h
  | ok n =>
   rw[hf] at h;simp only at h;cases hch:aj n t with
   | error c=>rw[hch] at h;cases h
   | ok e =>
    rw[hch] at h;injection h with h;injection h with h1 h2;subst h1 h2 hp;obtain⟨q,hq,hput,hpp,hself,⟨f,lv,hgn⟩,hkn⟩:=ox hv hf;obtain⟨f1,f2⟩:=hput (eY ((idx t).getD 0) t y n);refine⟨_,rfl,(2,s++[t],y),?_⟩;rw[uf,hq];unfold dC;rw[dj];simp only[f1];have key:aj (eY ((idx t).getD 0) t y n) t = .ok y/\eY ((idx t).getD 0) t e (eY ((idx t).getD 0) t y n)=n:=by
     cases n with
     | map es =>
      have hsk:=mt hgn;have hg:aK es (.string t)=some e:=by
       rw[eE] at hch;cases hg:aK es (.string t) with
       | none=>rw[hg] at hch;cases hch
       | some e'=>rw[hg] at hch;injection hch with hch;rw[hch]
      constructor
      ·show aj (.map (mput (.string t) y es)) t=_;rw[eE,ez hsk,if_pos rfl]
      ·exact congrArg DataW.map (rj hsk hg)
     | slice es z =>
      have hch':(match idx t with
        | none=>Except.error 12
        | some k=>match es[k]? with
         | some e=>.ok e
         | none=>.error 11) = .ok e:=hch
      cases hi:idx t with
      | none=>rw[hi] at hch';cases hch'
      | some i =>
       rw[hi] at hch';simp only at hch';cases hg:es[i]? with
       | none=>rw[hg] at hch';cases hch'
       | some e' =>
        rw[hg] at hch';injection hch' with hch';subst hch';obtain⟨hlt,he⟩:=List.getElem?_eq_some_iff.1 hg;constructor
        ·show (match idx t with
          | none=>Except.error 12
          | some k=>match (es.set ((some i).getD 0) y)[k]? with
           | some e=>.ok e
           | none=>.error 11) = .ok y
         rw[hi];simp only[Option.getD_some,List.getElem?_set_self hlt]
        ·show DataW.slice ((es.set i y).set i e') z = .slice es z;rw[List.set_set,<- he,List.set_getElem_self]
     | _=>cases hch
    rw[key.1];simp only[f2];rw[hpp,key.2,hself]
end Sp
end

section
open Go.RowKit Go.Maps
namespace Sp
theorem td:∀t:By,une (bE t)=some t
 | []=>rfl
 | c::r=>by
  have ih:=td r;have e:bE (c::r)=dZ c++bE r:=rfl;rw[e];unfold dZ;split
  ·rename_i h;subst h;show une (126::48::bE r)=_;rw[fO,if_pos rfl];show (une (bE r)).map (126 :: ·)=_
   rw[ih];rfl
  ·rename_i h;split
   ·rename_i h2;subst h2;show une (126::49::bE r)=_;rw[fO,if_pos rfl];show (une (bE r)).map (47 :: ·)=_
    rw[ih];rfl
   ·show une (c::bE r)=_;rw[fO,if_neg h,ih];rfl
theorem tf:∀t:By,∀b∈bE t,b≠47
 | [],_,h=>by cases h
 | c::r,b,h=>by
  have e:bE (c::r)=dZ c++bE r:=rfl;rw[e] at h;rcases List.mem_append.1 h with h|h
  ·unfold dZ at h;split at h
   ·simp at h;rcases h with rfl|rfl<;>decide
   ·split at h
    ·simp at h;rcases h with rfl|rfl<;>decide
    ·rename_i h2;rw[List.mem_singleton] at h;rw[h];exact h2
  ·exact tf r b h
theorem qW:∀p:List By,pcs (ba p)=[]::p.map bE
 | []=>rfl
 | t::r=>by
  have ih:=qW r;have e:ba (t::r)=47::(bE t++ba r):=rfl;rw[e,pcs,if_pos rfl];obtain⟨p,ps,h1,h2⟩:=tG (tf t) (ba r);rw[ih] at h1;injection h1 with h1 h3;rw[h2,<- h1,<- h3,List.append_nil];rfl
theorem ny:∀p:List By,keysOf (p.map bE)=some p
 | []=>rfl
 | t::r=>by
  show (match une (bE t) with
   | none=>none
   | some k=>(keysOf (r.map bE)).map (k :: ·))=_
  rw[td,ny r];rfl
theorem mU{a b:By}(ha:Ut a)(hb:Ut b):Ut (a++b):=by
 obtain⟨cs,h1,rfl⟩:=ha;obtain⟨ds,h2,rfl⟩:=hb;exact⟨cs++ds,fun c hc=>(List.mem_append.1 hc).elim (h1 c) (h2 c),by rw[List.flatMap_append]⟩
theorem we{b:UInt8}(h:b.toNat<128):Ut [b]:=⟨[b.toNat],fun c hc=>by rw[List.mem_singleton] at hc;subst hc;exact Or.inl (by omega),by
 rw[List.flatMap_cons,List.flatMap_nil,List.append_nil,show encN b.toNat=[UInt8.ofNat b.toNat] from dT _ h];simp⟩
theorem cU:∀ {s:By},(∀b∈s,b.toNat<128)->Ut s
 | [],_=>gJ
 | b::r,h=>mU (a:=[b]) (we (h b (by simp))) (cU fun c hc=>h c (by simp[hc]))
theorem tc:∀ (cs:List Nat),(∀c∈cs,Sc c)->Ut (bE (cs.flatMap encN))
 | [],_=>gJ
 | c::cs,h=>by
  have hc:=h c (by simp);have ih:=tc cs fun x hx=>h x (by simp[hx]);have e:bE ((c::cs).flatMap encN)=bE (encN c)++bE (cs.flatMap encN):=by rw[List.flatMap_cons];unfold bE;rw[List.flatMap_append]
  rw[e];refine mU ?_ ih;rcases jJ hc 126 (by omega) with⟨rfl,e1⟩|⟨_,e1⟩
  ·rw[e1];exact cU (by decide)
  ·rcases jJ hc 47 (by omega) with⟨rfl,e2⟩|⟨_,e2⟩
   ·rw[e2];exact cU (by decide)
   ·have hid:∀l:By,(∀x∈l,x≠126)->(∀x∈l,x≠47)->bE l=l:=by
     intro l;induction l with
     | nil=>intro _ _;rfl
     | cons a r ih =>
      intro h1 h2;have e3:bE (a::r)=dZ a++bE r:=rfl;rw[e3,ih (fun x hx=>h1 x (by simp[hx])) (fun x hx=>h2 x (by simp[hx]))];unfold dZ;rw[if_neg (h1 a (by simp)),if_neg (h2 a (by simp))];rfl
    rw[hid _ e1 e2];exact⟨[c],fun x hx=>by rw[List.mem_singleton] at hx;subst hx;exact hc,by simp⟩
theorem lx:∀ {p:List By},(∀t∈p,Ut t)->Ut (ba p)
 | [],_=>gJ
 | t::r,h=>by
  obtain⟨cs,h1,h2⟩:=h t (by simp);have h3:Ut (bE t):=by rw[h2];exact tc cs h1
  exact mU (a:=[47]) (we (by decide)) (mU h3 (lx fun u hu=>h u (by simp[hu])))
theorem za{s:By}(h:Ut s):Lib.validD s=true:=by
 obtain⟨cs,h1,rfl⟩:=h;induction cs with
 | nil=>rfl
 | cons c cs ih =>
  have hc:=h1 c (by simp);have ih':=ih fun x hx=>h1 x (by simp[hx]);rw[List.flatMap_cons];by_cases hlt:c<128
  ·rw[show encN c=[UInt8.ofNat c] from dT c hlt];show Lib.validD (UInt8.ofNat c::cs.flatMap encN)=true;rw[Lib.validD_cons _ _ (by simp;omega),ih']
  ·obtain⟨_,h3,h4⟩:=iL c (by omega) hc (cs.flatMap encN);have hne:encN c++cs.flatMap encN≠[]:=by
    intro e;have:(encN c).length=0:=by rw[(List.append_eq_nil_iff.1 e).1];rfl
    have h4':2<=(encN c).length:=h4;omega
   have hd:Lib.decodeL (encN c++cs.flatMap encN)=(c,(encN c).length):=by rw[Lib.decodeL_N,<- fC _ hne];exact h3
   rw[Lib.validD_step _ hne,hd];have h4':2<=(encN c).length:=h4;rw[if_neg (by simp only;omega)];show Lib.validD ((encN c++cs.flatMap encN).drop (encN c).length)=true;rw[List.drop_left,ih']
theorem wi{p:List By}(h:∀t∈p,Ut t):toks (ba p)=some p:=by
 unfold toks;rw[za (lx h),if_pos rfl,qW];exact ny p
def Iv(d x:Int)(B:Nat)(i:Opn):Prop:=i.1<3/\(∀t∈i.2.1,Ut t)/\(i.1≠1->Fit d x B i.2.2)
theorem xF{i:Opn}(h:i.1<3)(hu:∀t∈i.2.1,Ut t):dw (bd i)=some (inv i):=by
 obtain⟨k,p,v⟩:=i;have ht:=wi hu;simp only at h ht;have hk:k=0\/k=1\/k=2:=by omega
 rcases hk with rfl|rfl|rfl
 ·have e1:aN (bd (0,p,v)) bP=some (aD (ba p)):=rfl;have e2:aN (bd (0,p,v)) op_=some (aD mM):=rfl;have e3:aN (bd (0,p,v)) br=some v:=rfl;have e4:aN (bd (0,p,v)) eP=none:=rfl;unfold dw cr;rw[e1,e2,e3,e4];show (match toks (ba p) with
   | none=>none
   | some p=>_)=_
  rw[ht];rfl
 ·have e1:aN (bd (1,p,v)) bP=some (aD (ba p)):=rfl;have e2:aN (bd (1,p,v)) op_=some (aD il):=rfl;have e3:aN (bd (1,p,v)) br=none:=rfl;have e4:aN (bd (1,p,v)) eP=none:=rfl;unfold dw cr;rw[e1,e2,e3,e4];show (match toks (ba p) with
   | none=>none
   | some p=>_)=_
  rw[ht];rfl
 ·have e1:aN (bd (2,p,v)) bP=some (aD (ba p)):=rfl;have e2:aN (bd (2,p,v)) op_=some (aD gi):=rfl;have e3:aN (bd (2,p,v)) br=some v:=rfl;have e4:aN (bd (2,p,v)) eP=none:=rfl;unfold dw cr;rw[e1,e2,e3,e4];show (match toks (ba p) with
   | none=>none
   | some p=>_)=_
  rw[ht];rfl
theorem nC:∀ (l:List Opn) (n:Nat),(∀i∈l,i.1<3 /\ ∀t∈i.2.1,Ut t)->cW n (l.map bd) = .ok (l.map inv)
 | [],_,_=>rfl
 | i::l,n,h=>by
  obtain⟨h1,h2⟩:=h i (by simp);rw[List.map_cons,cW,xF h1 h2];simp only;rw[nC l (n+1) fun i hi=>h i (by simp[hi])];rfl
theorem DH{d x:Int}{B:Nat}{l:List Opn}(h0:1<=d)(hd:d<=500)(h:∀i∈l,Iv d x B i):gd (d+2) x top 1 (au (l.map bd)):=by
 have hnm:∀k:Nat,Ut (bO k):=fun k=>by
  unfold bO;split
  ·exact cU (by decide)
  ·split<;>exact cU (by decide)
 have key:∀i∈l,gd (d+2) x 2000 2 (bd i):=by
  intro i hi;obtain⟨h1,h2,h3⟩:=h i hi;have hs:∀s:By,Ut s->gd (d+2) x 1999 3 (aD s):=fun s hs=>⟨by omega,Or.inr (Or.inl ⟨s,hs,rfl⟩)⟩
  unfold bd;split
  ·refine⟨by omega,Or.inr (Or.inr (Or.inr (Or.inr ⟨_,?_,?_,rfl⟩)))⟩
   ·exact List.Pairwise.cons (fun p hp=>by rw[List.mem_singleton] at hp;subst hp;show Lit.before (Lit.string _) (Lit.string _)=true;decide) (List.pairwise_singleton _ _)
   ·intro p hp;simp only[List.mem_cons,List.not_mem_nil,or_false] at hp;rcases hp with rfl|rfl
    ·exact⟨⟨_,rfl,cU (by decide)⟩,hs _ (hnm _)⟩
    ·exact⟨⟨_,rfl,cU (by decide)⟩,hs _ (lx h2)⟩
  ·rename_i hk;have hf:=h3 hk;have g1:gd (d+2) x top 3 i.2.2:=gQ (s:=2) hf.gd;refine⟨by omega,Or.inr (Or.inr (Or.inr (Or.inr ⟨_,?_,?_,rfl⟩)))⟩
   ·refine List.Pairwise.cons (fun p hp=>?_) (List.Pairwise.cons (fun p hp=>?_) (List.pairwise_singleton _ _))
    ·simp only[List.mem_cons,List.not_mem_nil,or_false] at hp;rcases hp with rfl|rfl<;>(show Lit.before (Lit.string _) (Lit.string _)=true;decide)
    ·rw[List.mem_singleton] at hp;subst hp;show Lit.before (Lit.string _) (Lit.string _)=true;decide
   ·intro p hp;simp only[List.mem_cons,List.not_mem_nil,or_false] at hp;rcases hp with rfl|rfl|rfl
    ·exact⟨⟨_,rfl,cU (by decide)⟩,hs _ (hnm _)⟩
    ·exact⟨⟨_,rfl,cU (by decide)⟩,hs _ (lx h2)⟩
    ·exact⟨⟨_,rfl,cU (by decide)⟩,cS (f:=1999) g1 (by omega)⟩
 refine⟨by omega,Or.inr (Or.inr (Or.inr (Or.inl ⟨_,fun e he=>?_,rfl⟩)))⟩;obtain⟨i,hi,rfl⟩:=List.mem_map.1 he;exact key i hi
theorem yK{d x:Int}{B:Nat}{l:List Opn}(h0:1<=d)(hd:d<=500)(hx0:0<=x)(hx:x<=1000000)(h:∀i∈l,Iv d x B i)(hl:(co l).length<=2000):∃P,readTo (co l) (d+2) x=(0,some P)/\eL P = .ok (l.map inv):=by
 have hg:=DH h0 hd h;have r1:=Dx hg hx0 hx [] [] (fun l=>rfl) rfl (by intro c t e;cases e) (by simpa[co] using hl);simp only[List.nil_append,List.append_nil] at r1;exact⟨_,r1,nC l 0 fun i hi=>⟨(h i hi).1,(h i hi).2.1⟩⟩
end Sp
end

section
open Go.RowKit Go.Maps
namespace Sp
variable{d x:Int}{B:Nat}
theorem mD:∀ {f:Nat} {lv:Int} {v:V},gd d x f lv v->lv+dep f v<=d+1
 | 0,_,_,h=>h.elim
 | f+1,lv,v,⟨h0,h⟩=>by
  rcases h with⟨k,hk,rfl⟩|⟨s,hs,rfl⟩|⟨n,h1,h2,h3,rfl⟩|⟨es,h,rfl⟩|⟨es,h1,h2,rfl⟩
  ·show lv+1<=d+1;omega
  ·show lv+1<=d+1;omega
  ·show lv+1<=d+1;omega
  ·rw[uk];have:=fJ (m:=d-lv) (by omega) (l:=es.map (dep f)) fun y hy=>by
    obtain⟨q,hq,rfl⟩:=List.mem_map.1 hy;have:=mD (h q hq);omega
   omega
  ·rw[ui];have:=fJ (m:=d-lv) (by omega) (l:=es.map fun p=>dep f p.2) fun y hy=>by
    obtain⟨q,hq,rfl⟩:=List.mem_map.1 hy;have:=mD (h2 q hq).2;omega
   omega
theorem zQ{v:V}(h:gd d x top 1 v):gp d v=0\/gp d v=4:=by
 have:=mD h;unfold gp;rw[if_neg (by omega)];split
 ·exact Or.inr rfl
 ·exact Or.inl rfl
def dc(d x:Int)(B:Nat):V->List Opn->V->Prop
 | v,[],w=>v=w
 | v,i::j,w=>Fit d x B v/\Iv d x B i /\ ∃u,gB u i v/\dc d x B u j w
theorem dc.append:∀ {a b:List Opn} {v u w:V},dc d x B v a u->dc d x B u b w->dc d x B v (a++b) w
 | [],_,_,_,_,h1,h2=>by
  have h1':_=_:=h1;subst h1';exact h2
 | i::a,_,_,_,_,⟨h1,h2,u,h3,h4⟩,h5=>⟨h1,h2,u,h3,h4.append h5⟩
theorem dc.iv:∀ {j:List Opn} {v w:V},dc d x B v j w -> ∀i∈j,Iv d x B i
 | [],_,_,_,_,h=>by cases h
 | i::j,_,_,⟨_,h2,_,_,h4⟩,k,hk=>by
  rcases List.mem_cons.1 hk with rfl|hk
  ·exact h2
  ·exact h4.iv k hk
theorem rQ(dp:Int):∀ (a b:List Op2) (k:Nat) (v:V) (j:List Opn),bk dp k v j (a++b)=match bk dp k v j a with
  | .error e=>.error e
  | .ok (u,j1)=>bk dp (k+a.length) u j1 b
 | [],b,k,v,j=>by rw[List.nil_append,bk];rfl
 | o::a,b,k,v,j=>by
  rw[List.cons_append,bk,bk];cases do1 v o with
  | error c=>rfl
  | ok r =>
   obtain⟨v',j'⟩:=r;simp only;split
   ·rw[rQ dp a b (k+1) v' (j++j'),show k+1+a.length=k+(o::a).length by simp;omega]
   ·rfl
theorem Dn:∀ (j:List Opn) {v w:V},dc d x B v j w -> ∀ (k:Nat) (j0:List Opn),(∃j2,bk d k w j0 (j.reverse.map inv) = .ok (v,j0++j2)) \/ ∃i,bk d k w j0 (j.reverse.map inv) = .error (4,i)
 | [],v,w,h,k,j0=>by
  have h':v=w:=h;subst h';exact Or.inl ⟨[],by rw[List.append_nil];rfl⟩
 | i::j,v,w,⟨h1,_,u,⟨i',h3⟩,h4⟩,k,j0=>by
  rw[List.reverse_cons,List.map_append,rQ];rcases Dn j h4 k j0 with⟨j2,e⟩|⟨n,e⟩
  ·rw[e];simp only[List.map_cons,List.map_nil];rw[bk,h3];simp only;rcases zQ h1.gd with hm|hm
   ·rw[if_pos hm,bk];exact Or.inl ⟨j2++[i'],by rw[List.append_assoc]⟩
   ·rw[if_neg (by omega),hm];exact Or.inr ⟨_,rfl⟩
  ·rw[e];exact Or.inr ⟨_,rfl⟩
theorem CJ(i:Nat):Ut (Lib.itoa (i:Int)):=cU fun b hb=>by
 have e:Lib.itoa (i:Int)=Lib.decDigits i:=by unfold Lib.itoa;rw[if_neg (by omega)];rfl
 rw[e] at hb;have:=iO i b hb;unfold isD at this;simp at this;omega
theorem ta{s:List By}{t:By}(h:∀u∈s,Ut u)(ht:Ut t):∀u∈s++[t],Ut u:=fun u hu=>by
 rcases List.mem_append.1 hu with hu|hu
 ·exact h u hu
 ·rw[List.mem_singleton] at hu;rw[hu];exact ht
theorem ot{v v1 y:V}{p:List By}{j:List Opn}(hp:∀t∈p,Ut t)(h:cj v p y = .ok (v1,j)):∀i∈j,i.1<3 /\ ∀t∈i.2.1,Ut t:=by
 unfold cj at h;cases hs:cp p with
 | none =>
  rw[hs] at h;injection h with h;injection h with h1 h2;subst h2;intro i hi;rw[List.mem_singleton] at hi;subst hi;exact⟨(by decide:2<3),fun t ht=>by cases ht⟩
 | some st =>
  obtain⟨s,t⟩:=st;have e:=mj hs;subst e;have hus:∀u∈s,Ut u:=fun u hu=>hp u (by simp[hu]);rw[hs] at h;simp only at h;cases hf:ag v s with
  | error c=>rw[hf] at h;cases h
  | ok n =>
   rw[hf] at h;simp only at h;cases n with
   | map es =>
    rw[cN] at h;split at h
    ·injection h with h;injection h with h1 h2;subst h2;intro i hi;rw[List.mem_singleton] at hi;subst hi;exact⟨(by decide:2<3),hp⟩
    ·injection h with h;injection h with h1 h2;subst h2;intro i hi;rw[List.mem_singleton] at hi;subst hi;exact⟨(by decide:1<3),hp⟩
   | slice es z =>
    rw[cN] at h;cases hsl:dU es.length t with
    | error c=>rw[hsl] at h;cases h
    | ok k =>
     rw[hsl] at h;injection h with h;injection h with h1 h2;subst h2;intro i hi;rw[List.mem_singleton] at hi;subst hi;exact⟨(by decide:1<3),ta hus (CJ k)⟩
   | _=>cases h
theorem ud{v v1:V}{p:List By}{j:List Opn}(hp:∀t∈p,Ut t)(h:cE v p = .ok (v1,j)):∀i∈j,i.1<3 /\ ∀t∈i.2.1,Ut t:=by
 unfold cE at h;cases hs:cp p with
 | none=>rw[hs] at h;cases h
 | some st =>
  obtain⟨s,t⟩:=st;rw[hs] at h;simp only at h;cases hf:ag v s with
  | error c=>rw[hf] at h;cases h
  | ok n =>
   rw[hf] at h;simp only at h;cases hc:aj n t with
   | error c=>rw[hc] at h;cases h
   | ok e =>
    rw[hc] at h;injection h with h;injection h with h1 h2;subst h2;intro i hi;rw[List.mem_singleton] at hi;subst hi;exact⟨(by decide:0<3),hp⟩
theorem CZ{v v1 y:V}{p:List By}{j:List Opn}(hp:∀t∈p,Ut t)(h:dC v p y = .ok (v1,j)):∀i∈j,i.1<3 /\ ∀t∈i.2.1,Ut t:=by
 unfold dC at h;cases hs:cp p with
 | none =>
  rw[hs] at h;injection h with h;injection h with h1 h2;subst h2;intro i hi;rw[List.mem_singleton] at hi;subst hi;exact⟨(by decide:2<3),fun t ht=>by cases ht⟩
 | some st =>
  obtain⟨s,t⟩:=st;rw[hs] at h;simp only at h;cases hf:ag v s with
  | error c=>rw[hf] at h;cases h
  | ok n =>
   rw[hf] at h;simp only at h;cases hc:aj n t with
   | error c=>rw[hc] at h;cases h
   | ok e =>
    rw[hc] at h;injection h with h;injection h with h1 h2;subst h2;intro i hi;rw[List.mem_singleton] at hi;subst hi;exact⟨(by decide:2<3),hp⟩
theorem fL{v v1:V}{j:List Opn}(hv:Fit d x B v)(h:∃i,j=[i]/\gB v1 i v)(hu:∀i∈j,i.1<3 /\ ∀t∈i.2.1,Ut t)(ho:∀i∈j,iT d x B i):dc d x B v j v1:=by
 obtain⟨i,rfl,hb⟩:=h;have h1:=hu i (by simp);exact⟨hv,⟨h1.1,h1.2,(ho i (by simp)).2⟩,v1,hb,rfl⟩
theorem yi{v v1:V}{j:List Opn}{o:Op2}(hv:Fit d x 200000 v)(ho:OpOk (d+2) x 200000 o)(h5:d<=100)(h:do1 v o = .ok (v1,j)):dc d x 200000 v j v1:=by
 obtain⟨_,hok,_⟩:=lK hv ho h5 h;obtain⟨hp,hq,_⟩:=ho;unfold do1 at h;split at h
 ·exact fL hv (jg hv (by omega) h) (ot hp.2 h) hok
 ·split at h
  ·exact fL hv (lf hv h) (ud hp.2 h) hok
  ·split at h
   ·exact fL hv (lc hv h) (CZ hp.2 h) hok
   ·split at h
    ·rename_i h3;have hq':=hq (Or.inl h3);unfold lL at h;cases hf:ag v o.2.2.1 with
     | error c=>rw[hf] at h;cases h
     | ok e =>
      rw[hf] at h;simp only at h;split at h
      ·injection h with h;injection h with h1 h2;subst h1 h2;exact rfl
      ·split at h
       ·cases h
       ·cases hr:cE v o.2.2.1 with
        | error c=>rw[hr] at h;cases h
        | ok r =>
         obtain⟨d1,j1⟩:=r;rw[hr] at h;simp only at h;cases ha:cj d1 o.2.1 e with
         | error c=>rw[ha] at h;cases h
         | ok r2 =>
          obtain⟨d2,j2⟩:=r2;rw[ha] at h;injection h with h;injection h with h1 h2;subst h1 h2;have hf1:=(ld hv hq' hr).1;exact (fL hv (lf hv hr) (ud hq'.2 hr) fun i hi=>hok i (List.mem_append_left _ hi)).append
           (fL hf1 (jg hf1 (by omega) ha) (ot hp.2 ha) fun i hi=>hok i (List.mem_append_right _ hi))
    ·split at h
     ·unfold lM at h;cases hf:ag v o.2.2.1 with
      | error c=>rw[hf] at h;cases h
      | ok e =>
       rw[hf] at h;exact fL hv (jg hv (by omega) h) (ot hp.2 h) hok
     ·unfold lI at h;cases hf:ag v o.2.1 with
      | error c=>rw[hf] at h;cases h
      | ok e =>
       rw[hf] at h;simp only at h;split at h
       ·injection h with h;injection h with h1 h2;subst h1 h2;exact rfl
       ·cases h
theorem kg(hd:d<=100):∀ (l:List Op2) (k:Nat) (v:V) (j0:List Opn) {v':V} {j:List Opn},Fit d x 200000 v->(∀o∈l,OpOk (d+2) x 200000 o)->bk d k v j0 l = .ok (v',j) -> ∃j1,j=j0++j1/\dc d x 200000 v j1 v'
 | [],k,v,j0,v',j,_,_,h=>by
  unfold bk at h;injection h with h;injection h with h1 h2;subst h1 h2;exact⟨[],by simp,rfl⟩
 | o::r,k,v,j0,v',j,hv,ho,h=>by
  unfold bk at h;split at h
  ·cases h
  ·rename_i d1 j1 hdo;split at h
   ·rename_i hm;obtain⟨f1,_,_⟩:=lK hv (ho o List.mem_cons_self) hd hdo;obtain⟨f2,_⟩:=ms f1 hd hm;have hc:=yi hv (ho o List.mem_cons_self) hd hdo;obtain⟨j2,rfl,hc2⟩:=kg hd r _ d1 _ (f2.mono (Int.le_refl _) (by omega) (by omega)) (fun o h=>ho o (List.mem_cons_of_mem _ h)) h;exact⟨j1++j2,by rw[List.append_assoc],hc.append hc2⟩
   ·cases h
end Sp
end
end Go.Proofs.YtdpomdelmdofmaaGreatDoor
