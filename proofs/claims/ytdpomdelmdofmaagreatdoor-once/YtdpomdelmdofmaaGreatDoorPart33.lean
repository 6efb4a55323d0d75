/-
  Plain facts: the number of operations that lead from one value to another.
-/
import Derived.Test.YtdpomdelmdofmaaGreatDoorPart29
import Derived.Test.YtdpomdelmdofmaaGreatDoorPart32
import Derived.Test.YtdpomdelmdofmaaGreatDoorPart26
import Derived.Test.YtdpomdelmdofmaaGreatDoorPart23
import Derived.Test.YtdpomdelmdofmaaGreatDoorPart13
import Derived.Test.YtdpomdelmdofmaaGreatDoorPart12
import Derived.Test.YtdpomdelmdofmaaGreatDoorPart18
namespace Go.Proofs.YtdpomdelmdofmaaGreatDoor
section
open Go.RowKit Go.Maps
namespace Sp
theorem apart_len:∀ (n:Nat) (a b:List V) (k j:Nat),(apart n a b k j).1.length≤a.length∧(apart n a b k j).2.length≤b.length
 | 0,_,_,_,_=>⟨Nat.zero_le _,Nat.zero_le _⟩
 | _+1,[],[],_,_=>⟨Nat.zero_le _,Nat.zero_le _⟩
 | n+1,x::a,[],k,j=>by
  have h:=apart_len n a [] k j
  rw[apart]
  exact⟨Nat.succ_le_succ h.1,h.2⟩
 | n+1,[],y::b,k,j=>by
  have h:=apart_len n [] b k (j+1)
  rw[apart]
  exact⟨h.1,Nat.succ_le_succ h.2⟩
 | n+1,x::a,y::b,k,j=>by
  have h1:=apart_len n a (y::b) k j
  have h2:=apart_len n (x::a) b k (j+1)
  have h3:=apart_len n a b (k+1) (j+1)
  rw[apart]
  split
  ·exact⟨Nat.succ_le_succ h1.1,h1.2⟩
  ·split
   ·exact⟨h2.1,Nat.succ_le_succ h2.2⟩
   ·exact⟨Nat.le_succ_of_le h3.1,Nat.le_succ_of_le h3.2⟩
theorem diffA_len (s:List By) (a b:List V):(diffA s a b).length≤a.length+b.length:=by
 have h:=apart_len (a.length+b.length) a b 0 0
 unfold diffA
 rw[List.length_append,List.length_map,List.length_map]
 omega
theorem arr_len_sz (f:Nat) (es:List V) (y:List V):es.length≤sz (f+1) (.slice es y):=by
 show es.length≤2+(es.map fun e=>sz f e+1).sum
 have h:∀l:List V,l.length≤(l.map fun e=>sz f e+1).sum:=by
  intro l
  induction l with
  | nil=>exact Nat.zero_le _
  | cons a l ih=>rw[List.map_cons,List.sum_cons,List.length_cons];omega
 have:=h es
 omega
theorem get_mem {xs:List (Lit×V)} {k:By} {x:V} (h:Skey xs) (hg:get? xs (.string k)=some x):(Lit.string k,x)∈xs:=by
 rcases key_two xs k with⟨c,hc⟩|hno
 ·rw[get_yes h hc] at hg
  injection hg with hg
  exact hg▸hc
 ·rw[get_no hno] at hg;cases hg
theorem ukeys_nodup {xs bs:List (Lit×V)} (hx:Skey xs) (hb:Skey bs):(ukeys xs bs).Nodup:=(ukeys_rise hx hb).imp fun h e=>by subst e;exact List.lt_irrefl _ h
theorem diff_len {d x n:Int}:∀ {f:Nat} {lv:Int} {s:List By} {a b:V},gd d x f lv a→gd d x f lv b→(diff n f s a b).length≤sz f a+sz f b
 | 0,_,_,_,_,h,_=>h.elim
 | f+1,lv,s,a,b,ha,hb=>by
  have p1:=sz_pos ha
  by_cases hob:isObj a=true∧isObj b=true
  ·obtain⟨h1,h2⟩:=hob
   obtain⟨xs,rfl⟩:∃xs,a = .map xs:=by
    cases a with
    | map xs=>exact⟨xs,rfl⟩
    | _=>cases h1
   obtain⟨ys,rfl⟩:∃ys,b = .map ys:=by
    cases b with
    | map ys=>exact⟨ys,rfl⟩
    | _=>cases h2
   have m1:=(gd_map ha).2
   have m2:=(gd_map hb).2
   have hn:=ukeys_nodup m1.skey m2.skey
   have q1:=pick_sum f m1.skey hn
   have q2:=pick_sum f m2.skey hn
   have q3:=diffO_len (f:=f) (m:=diff n f) (s:=s) (xs:=xs) (bs:=ys) (l:=ukeys xs ys) (fun k hk=>by
    rcases (ukeys_mem m1.skey m2.skey).1 hk with⟨c,hc⟩|⟨c,hc⟩
    ·exact Or.inl (by rw[get_yes m1.skey hc];simp)
    ·exact Or.inr (by rw[get_yes m2.skey hc];simp)) fun k _ u v hu hv=>diff_len (m1.2 _ (get_mem m1.skey hu)).2 (m2.2 _ (get_mem m2.skey hv)).2
   have e1:sz (f+1) (.map xs)=2+costs f xs:=sz_obj f xs
   have e2:sz (f+1) (.map ys)=2+costs f ys:=sz_obj f ys
   show (diffO (diff n f) s xs ys (ukeys xs ys)).length≤_
   omega
  ·have hone:∀c:Bool,(if c=true then ([]:List Opn) else [(2,s,b)]).length≤1:=fun c=>by cases c<;>simp
   by_cases harr:∃xs y ys z,a = .slice xs y∧b = .slice ys z
   ·obtain⟨xs,y,ys,z,rfl,rfl⟩:=harr
    have e1:=arr_len_sz f xs y
    have e2:=arr_len_sz f ys z
    have e3:=diffA_len s xs ys
    show (if ((xs.length:Int)+1)*((ys.length:Int)+1)≤n then diffA s xs ys else if veq (.slice xs y) (.slice ys z)=true then [] else [(2,s,.slice ys z)]).length≤_
    split
    ·omega
    ·have:=hone (veq (.slice xs y) (.slice ys z))
     omega
   ·have e:diff n (f+1) s a b=if veq a b=true then [] else [(2,s,b)]:=by
     cases a<;>cases b<;>first|rfl|exact absurd ⟨rfl,rfl⟩ hob|exact absurd ⟨_,_,_,_,rfl,rfl⟩ harr
    rw[e]
    have:=hone (veq a b)
    omega
end Sp
end

section
open Go.RowKit Go.Maps
namespace Sp
theorem get_mput {es:List (Lit×V)} (h:Skey es) (k j:By) (c:V):get? (mput (.string k) c es) (.string j)=if j=k then some c else get? es (.string j):=by
 have hs:=mput_skey (c:=c) (k:=k) h
 by_cases e:j=k
 ·subst e
  rw[if_pos rfl,get_yes hs (mem_mput.2 (Or.inl rfl))]
 ·rw[if_neg e]
  rcases key_two es j with⟨c',hc⟩|hn
  ·rw[get_yes h hc,get_yes hs (mem_mput.2 (Or.inr ⟨hc,fun e'=>e (by injection e')⟩))]
  ·rw[get_no hn,get_no fun p hp=>?_]
   rcases mem_mput.1 hp with rfl|⟨hp,_⟩
   ·exact fun e'=>e (by injection e' with e';exact e'.symm)
   ·exact hn p hp
theorem get_mdel2 {es:List (Lit×V)} (h:Skey es) (k j:By):get? (mdel (.string k) es) (.string j)=if j=k then none else get? es (.string j):=by
 by_cases e:j=k
 ·subst e
  rw[if_pos rfl,get_no fun p hp=>(mem_mdel.1 hp).2]
 ·rw[if_neg e,get_mdel h e]
theorem skey_ext:∀ {xs ys:List (Lit×V)},Skey xs→Skey ys→(∀k:By,get? xs (.string k)=get? ys (.string k))→xs=ys:=by
 have mem_iff:∀ {xs:List (Lit×V)},Skey xs → ∀ (k:By) (c:V),(Lit.string k,c)∈xs↔get? xs (.string k)=some c:=fun h k c=>⟨get_yes h,get_mem h⟩
 have main:∀ {xs ys:List (Lit×V)},Skey xs→Skey ys→(∀p,p∈xs↔p∈ys)→xs=ys:=by
  intro xs
  induction xs with
  | nil =>
   intro ys _ _ h
   cases ys with
   | nil=>rfl
   | cons b ys=>have:=(h b).2 List.mem_cons_self;cases this
  | cons a l ih =>
   intro ys hx hy h
   cases ys with
   | nil=>have:=(h a).1 List.mem_cons_self;cases this
   | cons b m =>
    have h1:=List.pairwise_cons.1 hx.1
    have h2:=List.pairwise_cons.1 hy.1
    obtain⟨ka,ea⟩:=hx.2 a List.mem_cons_self
    obtain⟨kb,eb⟩:=hy.2 b List.mem_cons_self
    have hab:a=b:=by
     rcases List.mem_cons.1 ((h a).1 List.mem_cons_self) with e|e
     ·exact e
     ·rcases List.mem_cons.1 ((h b).2 List.mem_cons_self) with e2|e2
      ·exact e2.symm
      ·have q1:=h2.1 a e
       have q2:=h1.1 b e2
       rw[ea,eb] at q1 q2
       rw[before_asym q1] at q2;cases q2
    subst hab
    have:l=m:=ih ⟨h1.2,fun p hp=>hx.2 p (List.mem_cons_of_mem _ hp)⟩ ⟨h2.2,fun p hp=>hy.2 p (List.mem_cons_of_mem _ hp)⟩ fun p=>by
     constructor
     ·intro hp
      rcases List.mem_cons.1 ((h p).1 (List.mem_cons_of_mem _ hp)) with e|e
      ·subst e
       have:=h1.1 p hp
       rw[ea,before_irr] at this;cases this
      ·exact e
     ·intro hp
      rcases List.mem_cons.1 ((h p).2 (List.mem_cons_of_mem _ hp)) with e|e
      ·subst e
       have:=h2.1 p hp
       rw[ea,before_irr] at this;cases this
      ·exact e
    rw[this]
 intro xs ys hx hy h
 refine main hx hy fun p=>?_
 constructor
 ·intro hp
  obtain⟨k,e⟩:=hx.2 p hp
  have hp':(Lit.string k,p.2)∈xs:=by rw[← e];exact hp
  have:=(mem_iff hy k p.2).2 (by rw[← h];exact (mem_iff hx k p.2).1 hp')
  rw[← e] at this;exact this
 ·intro hp
  obtain⟨k,e⟩:=hy.2 p hp
  have hp':(Lit.string k,p.2)∈ys:=by rw[← e];exact hp
  have:=(mem_iff hx k p.2).2 (by rw[h];exact (mem_iff hy k p.2).1 hp')
  rw[← e] at this;exact this
def mget (m:Option V→List By→V→V×List Opn) (s:List By) (es l:List (Lit×V)) (k:By):Option V:=match get? l (.string k) with
 | none=>get? es (.string k)
 | some q=>if isNull q=true then none else some (m (get? es (.string k)) (s++[k]) q).1
theorem mstep_skey {m:Option V→List By→V→V×List Opn} {s:List By} {k:By} {q:V} {es:List (Lit×V)} (h:Skey es):Skey (mstep m s (.string k,q) es).1:=by
 unfold mstep
 split
 ·simp only
  cases get? es (.string k) with
  | none=>exact h
  | some o=>exact mdel_skey h
 ·exact mput_skey h
theorem mstep_get {m:Option V→List By→V→V×List Opn} {s:List By} {k:By} {q:V} {es:List (Lit×V)} (h:Skey es) (j:By) :
  get? (mstep m s (.string k,q) es).1 (.string j)=if j=k then (if isNull q=true then none else some (m (get? es (.string k)) (s++[k]) q).1) else get? es (.string j):=by
 unfold mstep
 simp only
 by_cases hn:isNull q=true
 ·rw[if_pos hn]
  simp only[hn,if_true]
  cases hg:get? es (.string k) with
  | none =>
   simp only
   split
   ·rename_i e;subst e;exact hg
   ·rfl
  | some o=>exact get_mdel2 h k j
 ·rw[if_neg hn]
  simp only[if_neg hn]
  exact get_mput h k j _
theorem mall_get {m:Option V→List By→V→V×List Opn} {s:List By}:∀ {l es:List (Lit×V)},Skey l→Skey es→Skey (mall m s l es).1 ∧ ∀j:By,get? (mall m s l es).1 (.string j)=mget m s es l j
 | [],es,_,he=>⟨he,fun j=>rfl⟩
 | (kl,q)::r,es,hl,he=>by
  obtain⟨k,ek⟩:=hl.2 _ List.mem_cons_self
  simp only at ek
  subst ek
  have hp:=List.pairwise_cons.1 hl.1
  have hr:Skey r:=⟨hp.2,fun p hp=>hl.2 p (List.mem_cons_of_mem _ hp)⟩
  have hne:∀p∈r,p.1≠Lit.string k:=fun p h e=>by
   have:=hp.1 p h
   rw[e,before_irr] at this
   cases this
  obtain⟨h1,h2⟩:=mall_get (m:=m) (s:=s) hr (mstep_skey (m:=m) (s:=s) (k:=k) (q:=q) he)
  refine⟨h1,fun j=>?_⟩
  unfold mall
  rw[h2 j]
  unfold mget
  by_cases e:j=k
  ·subst e
   rw[get_no hne,get_yes hl List.mem_cons_self]
   simp only
   rw[mstep_get he,if_pos rfl]
  ·have e2:get? ((Lit.string k,q)::r) (.string j)=get? r (.string j):=by
    rcases key_two r j with⟨c,hc⟩|hn
    ·rw[get_yes hr hc,get_yes hl (List.mem_cons_of_mem _ hc)]
    ·rw[get_no hn,get_no fun p hp=>?_]
     rcases List.mem_cons.1 hp with rfl|hp
     ·exact fun e'=>e (by injection e' with e';exact e'.symm)
     ·exact hn p hp
   rw[e2,mstep_get he,if_neg e]
theorem pureM_get {f:Nat} {ps:List (Lit×V)} (h:Skey ps):Skey (pureM f ps) ∧ ∀k:By,get? (pureM f ps) (.string k)=match get? ps (.string k) with
  | none=>none
  | some q=>if isNull q=true then none else some (pure_ f q):=by
 have hs:Skey (pureM f ps):=by
  unfold pureM
  refine⟨List.pairwise_map.2 (h.1.filter _),fun p hp=>?_⟩
  obtain⟨q,hq,rfl⟩:=List.mem_map.1 hp
  exact h.2 q (List.mem_filter.1 hq).1
 refine⟨hs,fun k=>?_⟩
 have hno:∀q,get? ps (.string k)=some q→isNull q=true→get? (pureM f ps) (.string k)=none:=fun q hg hn=>get_no fun p hp e=>by
  unfold pureM at hp
  obtain⟨r,hr,rfl⟩:=List.mem_map.1 hp
  obtain⟨h1,h2⟩:=List.mem_filter.1 hr
  have h3:(Lit.string k,r.2)∈ps:=by rw[← e];exact h1
  rw[get_yes h h3] at hg
  injection hg with hg
  rw[hg,hn] at h2
  cases h2
 cases hg:get? ps (.string k) with
 | none =>
  refine get_no fun p hp e=>?_
  unfold pureM at hp
  obtain⟨r,hr,rfl⟩:=List.mem_map.1 hp
  have h3:(Lit.string k,r.2)∈ps:=by rw[← e];exact (List.mem_filter.1 hr).1
  rw[get_yes h h3] at hg
  cases hg
 | some q =>
  simp only
  split
  ·rename_i hn;exact hno q hg hn
  ·rename_i hn
   refine get_yes hs ?_
   unfold pureM
   exact List.mem_map.2 ⟨(.string k,q),List.mem_filter.2 ⟨get_mem h hg,by simpa using hn⟩,rfl⟩
theorem mrg_leaf {f:Nat} {o:Option V} {s:List By} {p:V} (h:(∀v,o=some v→isObj v=false)∨isObj p=false):(mrg (f+1) o s p).1=pure_ (f+1) p:=by
 cases o with
 | none=>rfl
 | some v =>
  rcases h with h|h
  ·have:=h v rfl
   cases v<;>cases p<;>first|rfl|cases this
  ·cases v<;>cases p<;>first|rfl|cases h
theorem mrg_map {f:Nat} {es ps:List (Lit×V)} {s:List By}:(mrg (f+1) (some (.map es)) s (.map ps)).1 = .map (mall (mrg f) s ps es).1:=by
 have he:mrg (f+1) (some (.map es)) s (.map ps)=mrgs (mrg f) s ps es:=rfl
 rw[he,mrgs_eq]
theorem mrg_twice {d x:Int}:∀ (f:Nat) {lv:Int} {o:Option V} {s s':List By} {p:V},1≤lv→(∀v,o=some v→gd d x f lv v)→gd d x f lv p→(mrg f (some (mrg f o s p).1) s' p).1=(mrg f o s p).1
 | 0,_,_,_,_,_,_,_,h=>h.elim
 | f+1,lv,o,s,s',p,hlv,ho,hp=>by
  cases hob:isObj p with
  | false =>
   rw[mrg_leaf (Or.inr hob),mrg_leaf (Or.inr hob)]
  | true =>
   obtain⟨ps,rfl⟩:∃ps,p = .map ps:=by
    cases p<;>first|exact⟨_,rfl⟩|cases hob
   have hpm:=(gd_map hp).2
   have fin:∀es1:List (Lit×V),Skey es1→(∀k:By,match get? ps (.string k) with
     | none=>True
     | some q=>if isNull q=true then get? es1 (.string k)=none else ∃w,get? es1 (.string k)=some w ∧ ∀s'',(mrg f (some w) s'' q).1=w)→(mrg (f+1) (some (.map es1)) s' (.map ps)).1 = .map es1:=fun es1 h1 h2=>by
    rw[mrg_map]
    obtain⟨g1,g2⟩:=mall_get (m:=mrg f) (s:=s') hpm.skey h1
    congr 1
    refine skey_ext g1 h1 fun k=>?_
    rw[g2 k]
    have h3:=h2 k
    unfold mget
    cases hg:get? ps (.string k) with
    | none=>rfl
    | some q =>
     rw[hg] at h3
     simp only at h3 ⊢
     split
     ·rename_i hn;rw[if_pos hn] at h3;exact h3.symm
     ·rename_i hn
      rw[if_neg hn] at h3
      obtain⟨w,e1,e2⟩:=h3
      rw[e1,e2]
   have pur:(mrg (f+1) (some (.map (pureM f ps))) s' (.map ps)).1 = .map (pureM f ps):=by
    obtain⟨q1,q2⟩:=pureM_get (f:=f) hpm.skey
    refine fin _ q1 fun k=>?_
    rw[q2 k]
    cases hg:get? ps (.string k) with
    | none=>trivial
    | some q =>
     simp only
     split
     ·rfl
     ·refine⟨_,rfl,fun s''=>?_⟩
      have hq:=(hpm.2 _ (get_mem hpm.skey hg)).2
      cases f with
      | zero=>exact hq.elim
      | succ f =>
       exact mrg_twice (f+1) (o:=none) (s:=[]) (lv:=lv+1) (by omega) (fun v e=>by cases e) hq
   cases o with
   | none=>exact pur
   | some v =>
    cases hv:isObj v with
    | false =>
     rw[mrg_leaf (o:=some v) (Or.inl fun v' e=>by injection e with e;rw[← e];exact hv)]
     exact pur
    | true =>
     obtain⟨es,rfl⟩:∃es,v = .map es:=by
      cases v<;>first|exact⟨_,rfl⟩|cases hv
     have hm:=(gd_map (ho _ rfl)).2
     rw[mrg_map]
     obtain⟨g1,g2⟩:=mall_get (m:=mrg f) (s:=s) hpm.skey hm.skey
     refine fin _ g1 fun k=>?_
     rw[g2 k]
     unfold mget
     cases hg:get? ps (.string k) with
     | none=>trivial
     | some q =>
      simp only
      split
      ·rfl
      ·refine⟨_,rfl,fun s''=>?_⟩
       have hq:=(hpm.2 _ (get_mem hpm.skey hg)).2
       exact mrg_twice f (lv:=lv+1) (by omega) (fun v e=>(hm.2 _ (get_mem hm.skey e)).2) hq
end Sp
end

section
open Go.RowKit Go.Maps
namespace Sp
theorem enc_cost {c:Nat} (hc:Sc c):(escS (Lib.encodeRune (c:Int))).length≤6∧(128≤c→(escS (Lib.encodeRune (c:Int))).length≤4):=by
 by_cases h:c<128
 ·rw[enc_one c h]
  refine⟨?_,fun h2=>by omega⟩
  have:=escB_len (UInt8.ofNat c)
  simp[escS];omega
 ·have h4:=enc_len (c:Int)
  rw[escS_high _ (enc_high c (by omega) hc []).1]
  exact⟨by omega,fun _=>h4⟩
theorem decN_width (n a b c d:Nat):(Lib.decodeN n a b c d).1<128∨((Lib.decodeN n a b c d).1=65533∧(Lib.decodeN n a b c d).2<2)∨2≤(Lib.decodeN n a b c d).2:=by
 unfold Lib.decodeN
 repeat' split
 all_goals first|exact Or.inl (by assumption)|exact Or.inr (Or.inl ⟨rfl,by decide⟩)|exact Or.inr (Or.inr (by simp))
theorem dec_width (l:By) (h:l≠[]) (h2:128≤(dec l).1) (h3:¬ ((dec l).1=65533∧(dec l).2<2)):2≤(dec l).2:=by
 rw[dec_list l h] at h2 h3 ⊢
 rcases decN_width l.length (l.getD 0 0).toNat (l.getD 1 0).toNat (l.getD 2 0).toNat (l.getD 3 0).toNat with h4|h4|h4
 ·omega
 ·exact absurd h4 h3
 ·exact h4
theorem chr_cost {l r:By} {c:Nat} (h:chr l=some (c,r)):(escS (Lib.encodeRune (c:Int))).length+3*r.length≤3*l.length:=by
 have hsc:=chr_sc h
 have hen:=enc_cost hsc
 unfold chr at h
 split at h
 ·rename_i k
  have k1:=tk_cons k
  unfold esc at h
  split at h
  ·rename_i k2
   have k3:=tk_cons k2
   have:=scal_len _ _ _ h
   omega
  ·have:=escIn_len _ escT (by decide) _ _ h
   omega
 ·split at h
  ·cases h
  ·rename_i hn
   injection h with h
   injection h with h1 h2
   subst h1 h2
   have hne:l≠[]:=by
    rintro rfl
    exact hn (Or.inr ⟨rfl,by decide⟩)
   have hle:=dec_le l
   have hpos:=dec_pos l hne
   rw[List.length_drop]
   by_cases h8:(dec l).1<128
   ·have e:escS (Lib.encodeRune ((dec l).1:Int))=escB (UInt8.ofNat (dec l).1):=by rw[enc_one _ h8];simp[escS]
    have h5:(escB (UInt8.ofNat (dec l).1)).length≤2:=by
     have e2:(UInt8.ofNat (dec l).1).toNat=(dec l).1:=by
      rw[UInt8.toNat_ofNat'];omega
     unfold escB
     rw[e2]
     split
     ·simp
     ·rw[if_neg (fun h=>hn (Or.inl h))];simp
    rw[e]
    omega
   ·have:=dec_width l hne (by omega) (fun h=>hn (Or.inr h))
    have:=hen.2 (by omega)
    omega
theorem chrs_cost:∀ (f:Nat) (l s r:By),chrs f l=some (s,r)→(escS s).length+3*r.length+3≤3*l.length
 | 0,_,_,_,h=>by cases h
 | f+1,l,s,r,h=>by
  unfold chrs at h
  split at h
  ·rename_i k
   have:=tk_cons k
   injection h with h;injection h with h1 h2
   subst h1 h2
   simp[escS];omega
  ·split at h
   ·cases h
   ·rename_i c r1 hc
    have h1:=chr_cost hc
    split at h
    ·cases h
    ·rename_i s1 r2 hx
     have h3:=chrs_cost f _ _ _ hx
     injection h with h;injection h with h4 h5
     subst h4 h5
     rw[escS_app,List.length_append]
     omega
theorem quo_cost {l s r:By} (h:quo l=some (s,r)):(quoT s).length+3*r.length≤3*l.length:=by
 unfold quo at h
 split at h
 ·rename_i k
  have k1:=tk_cons k
  have:=chrs_cost _ _ _ _ h
  unfold quoT
  simp only[List.length_cons,List.length_append,List.length_nil]
  omega
 ·cases h
def nmc (n:Nm):Nat:=if n.2.2=0 then (numT n).length else n.2.1.length+6
theorem frac_two {l f r:By} (h:frac l=some (f,r)):f.length+r.length≤l.length∧(f≠[]→f.length+1+r.length≤l.length):=by
 refine⟨frac_len h,fun hf=>?_⟩
 unfold frac at h
 have b:=dg_len l.tail
 split at h
 ·rename_i k
  have:=tk_cons k
  split at h
  ·cases h
  ·injection h with h;injection h with h h';subst h h';omega
 ·injection h with h;injection h with h h';exact absurd h.symm hf
theorem expo_two {l r:By} {e:Int} (h:expo l=some (e,r)):r.length≤l.length∧(e≠0→r.length+1≤l.length):=by
 unfold expo at h
 have a:=dg_len l.tail
 have b:=dg_len l.tail.tail
 have c:=List.length_tail (l:=l)
 have d:=List.length_tail (l:=l.tail)
 split at h
 ·rename_i k
  have hl:l.tail.length+1=l.length:=by
   simp only[Bool.or_eq_true] at k
   rcases k with k|k<;>exact tk_cons k
  repeat' split at h
  all_goals first|(injection h with h;injection h with h1 h2;subst h2;exact⟨by omega,fun _=>by omega⟩)|cases h
 ·injection h with h;injection h with h1 h2
  subst h2
  exact⟨Nat.le_refl _,fun hn=>absurd h1.symm hn⟩
theorem numB_cost {b:Bool} {l r:By} {n:Nm} (h:numB b l=some (n,r)):nmc n+1+4*r.length≤4*l.length+(if b then 4 else 0):=by
 unfold numB at h
 have a:=dg_len l
 split at h
 ·cases h
 ·rename_i hd
  have hdl:0<(dg l).length:=List.length_pos_iff.2 fun e=>hd (by simp[e])
  split at h
  ·cases h
  ·rename_i f r1 h1
   obtain⟨f1,f2⟩:=frac_two h1
   split at h
   ·cases h
   ·rename_i e r2 h2
    obtain⟨e1,e2⟩:=expo_two h2
    injection h with h;injection h with h3 h4
    subst h4 h3
    have t1:=trimL_len (dg l++f) 48
    have t2:=trimR_len (Lib.trimLeftB (dg l++f) 48) 48
    rw[List.length_append] at t1
    unfold mkNm
    simp only
    split
    ·have:nmc (false,[],0)=1:=by decide
     rw[this]
     split<;>omega
    ·rename_i hw
     have hwl:0<(Lib.trimRightB (Lib.trimLeftB (dg l++f) 48) 48).length:=List.length_pos_iff.2 hw
     unfold nmc
     split
     ·rename_i h0
      simp only at h0
      have hT:(numT (b,Lib.trimRightB (Lib.trimLeftB (dg l++f) 48) 48,e - ↑f.length + ↑(Lib.trimLeftB (dg l++f) 48).length - ↑(Lib.trimRightB (Lib.trimLeftB (dg l++f) 48) 48).length)).length≤(if b then 1 else 0)+(Lib.trimRightB (Lib.trimLeftB (dg l++f) 48) 48).length:=by
       unfold numT
       simp only
       rw[if_neg hw,if_pos h0]
       cases b<;>simp<;>omega
      split at hT<;>simp_all<;>omega
     ·rename_i h0
      simp only at h0 ⊢
      have hx:(Lib.trimRightB (Lib.trimLeftB (dg l++f) 48) 48).length+1+r2.length≤l.length:=by
       by_cases hf:f=[]
       ·subst hf
        by_cases he:e=0
        ·subst he
         simp only[List.length_nil] at *
         omega
        ·have:=e2 he
         simp only[List.length_nil] at *
         omega
       ·have:=f2 hf
        omega
      split<;>omega
theorem num_cost {l r:By} {n:Nm} (h:num l=some (n,r)):nmc n+1+4*r.length≤4*l.length:=by
 unfold num at h
 split at h
 ·rename_i k
  have k1:=tk_cons k
  have:=numB_cost h
  simp only[if_true] at this
  omega
 ·have:=numB_cost h
  simp only[Bool.false_eq_true,if_false] at this
  omega
def cm:Nat→V→Nat
 | 0,_=>0
 | f+1,d=>match d with
  | .slice es _=>2+(es.map fun e=>cm f e+1).sum
  | .map es=>2+(es.map fun p=>(quoT (strOf p.1)).length+2+cm f p.2).sum
  | .agg [.lit (.bool ng),.lit (.string ds),.lit (.int _ ex)]=>nmc (ng,ds,ex)
  | d=>(can (f+1) d).length
theorem itoa_4 (n:Int) (h0:-400≤n) (h1:n≤400):(Lib.itoa n).length≤4:=by
 have h:∀k:Fin 801,(Lib.itoa ((k.val:Int)-400)).length≤4:=by decide +kernel
 have:=h ⟨(n+400).toNat,by omega⟩
 have e:(((n+400).toNat:Nat):Int)-400=n:=by omega
 rw[e] at this
 exact this
theorem sz_cm {d x:Int} (hx:x≤400):∀ {f:Nat} {lv:Int} {v:V},gd d x f lv v→sz f v≤cm f v
 | 0,_,_,h=>h.elim
 | f+1,lv,v,⟨h0,h⟩=>by
  rcases h with⟨k,hk,rfl⟩|⟨s,hs,rfl⟩|⟨n,h1,h2,h3,rfl⟩|⟨es,h,rfl⟩|⟨es,h1,h2,rfl⟩
  ·exact Nat.le_refl _
  ·exact Nat.le_refl _
  ·show (numT n).length≤nmc n
   unfold nmc
   split
   ·exact Nat.le_refl _
   ·rename_i hne
    have h4:=itoa_4 n.2.2 (by omega) (by omega)
    unfold numT
    rw[if_neg hne]
    split
    ·simp
    ·simp only[List.length_append,List.length_cons]
     split<;>simp<;>omega
  ·show 2+(es.map fun e=>sz f e+1).sum≤2+(es.map fun e=>cm f e+1).sum
   have:∀l:List V,(∀e∈l,gd d x f (lv+1) e)→(l.map fun e=>sz f e+1).sum≤(l.map fun e=>cm f e+1).sum:=fun l hl=>by
    induction l with
    | nil=>exact Nat.le_refl _
    | cons a l ih =>
     have h5:=sz_cm hx (hl a List.mem_cons_self)
     have h6:=ih fun e he=>hl e (List.mem_cons_of_mem _ he)
     simp only[List.map_cons,List.sum_cons];omega
   have:=this es h
   omega
  ·show 2+(es.map fun p=>(quoT (strOf p.1)).length+2+sz f p.2).sum≤2+(es.map fun p=>(quoT (strOf p.1)).length+2+cm f p.2).sum
   have:∀l:List (Lit×V),(∀p∈l,gd d x f (lv+1) p.2)→(l.map fun p=>(quoT (strOf p.1)).length+2+sz f p.2).sum≤(l.map fun p=>(quoT (strOf p.1)).length+2+cm f p.2).sum:=fun l hl=>by
    induction l with
    | nil=>exact Nat.le_refl _
    | cons a l ih =>
     have h5:=sz_cm hx (hl a List.mem_cons_self)
     have h6:=ih fun e he=>hl e (List.mem_cons_of_mem _ he)
     simp only[List.map_cons,List.sum_cons];omega
   have:=this es fun p hp=>(h2 p hp).2
   omega
end Sp
end

section
open Go.RowKit Go.Maps
def cents (g:Nat) (es:List (Lit×Sp.V)):Nat:=(es.map fun p=>(Sp.quoT (strOf p.1)).length+2+Sp.cm g p.2).sum
theorem cents_insert (g:Nat) (x:Lit×Sp.V) (l:List (Lit×Sp.V)):cents g (DataW.insert x l)=(Sp.quoT (strOf x.1)).length+2+Sp.cm g x.2+cents g l:=by
 induction l with
 | nil=>rfl
 | cons y r ih =>
  unfold DataW.insert
  split
  ·rfl
  ·simp only[cents,List.map_cons,List.sum_cons] at ih ⊢; omega
theorem cents_filter (g:Nat) (c:Lit×Sp.V→Bool) (l:List (Lit×Sp.V)):cents g (l.filter c)≤cents g l:=by
 induction l with
 | nil=>simp
 | cons y r ih =>
  rw[List.filter_cons]
  split
  ·simp only[cents,List.map_cons,List.sum_cons] at ih ⊢; omega
  ·simp only[cents,List.map_cons,List.sum_cons] at ih ⊢; omega
theorem wordIn_cost {l r:Sp.By} {k:Nat} (h:Sp.wordIn l 0 Sp.words=some (k,r)):r.length+4≤l.length:=by
 have hp:∀ (x:Sp.By),Lib.hasPrefix l x=true→x.length≤l.length:=fun x hx=>by
  unfold Lib.hasPrefix at hx
  exact (List.isPrefixOf_iff_prefix.1 hx).length_le
 unfold Sp.words at h
 simp only[Sp.wordIn] at h
 repeat' split at h
 all_goals first
  | (rename_i hq;cases h;have:=hp _ hq;simp only[List.length_drop,List.length_cons,List.length_nil] at *; omega)
  | cases h
theorem val_cost (f:Nat):∀ (lv:Int) (l:Sp.By) (fl:Sp.Fl) (v:Sp.V) (r:Sp.By) (fl':Sp.Fl),Sp.val f lv l fl=some (v,r,fl') → ∀g,Sp.cm g v+1+4*r.length≤4*l.length:=by
 induction f with
 | zero=>intro lv l fl v r fl' h;cases h
 | succ f ih =>
  intro lv l fl v r fl' h g
  have hlen:=Sp.val_len _ _ _ _ _ _ _ h
  cases g with
  | zero=>simp[Sp.cm];omega
  | succ g =>
   unfold Sp.val at h
   split at h
   ·split at h
    ·cases h
    ·rename_i h1
     have hI:=lstAll_inv (σ:=Sp.V×Sp.Fl) (fun m s=>∃es,s.1 = .map es∧cents g es+4*m.length≤4*l.tail.length) (fun a b s ⟨es,e1,e4⟩ hab=>⟨es,e1,by omega⟩) (by
      rintro a s a' s' ⟨es,e1,e4⟩ hm
      unfold Sp.memb at hm
      split at hm
      ·cases hm
      ·rename_i k l1 hq
       have q1:=Sp.quo_cost hq
       have b:=Sp.skB_len l1
       split at hm
       ·rename_i htk
        have ht:=tk_cons htk
        have c:=Sp.skB_len (Sp.skB l1).tail
        split at hm
        ·cases hm
        ·rename_i d r2 fl2 hv
         have hc:=ih _ _ _ _ _ _ hv g
         injection hm with hm;injection hm with h1 h2;subst h1;subst h2
         refine⟨DataW.insert (.string k,d) (es.filter fun p=>!p.1.sameKey (.string k)),by rw[e1];rfl,?_⟩
         rw[cents_insert]
         have h4:=cents_filter g (fun p=>!p.1.sameKey (.string k)) es
         show (Sp.quoT k).length+2+Sp.cm g d+cents g (es.filter fun p=>!p.1.sameKey (.string k))+4*r2.length≤_
         omega
       ·cases hm) ⟨[],rfl,by simp[cents]⟩ h1
     obtain⟨⟨es,e1,e4⟩,hpos⟩:=hI
     injection h with h;injection h with h2 h3;injection h3 with h3 h4;subst h2;subst h3
     simp only at e1
     subst e1
     have:=List.length_tail (l:=l)
     show 2+cents g es+1+4*_≤_
     omega
   ·split at h
    ·split at h
     ·cases h
     ·rename_i h1
      have hI:=lstAll_inv (σ:=List Sp.V×Sp.Fl) (fun m s=>(s.1.map fun v=>Sp.cm g v+1).sum+4*m.length≤4*l.tail.length) (fun a b s e1 hab=>by omega) (by
       rintro a s a' s' ho hm
       unfold Sp.elem at hm
       split at hm
       ·cases hm
       ·rename_i d r2 fl2 hv
        have hc:=ih _ _ _ _ _ _ hv g
        injection hm with hm;injection hm with h1 h2;subst h1;subst h2
        simp only[List.map_append,List.map_cons,List.map_nil,List.sum_append,List.sum_cons,List.sum_nil]
        omega) (by simp) h1
      obtain⟨e4,hpos⟩:=hI
      injection h with h;injection h with h2 h3;injection h3 with h3 h4;subst h2;subst h3
      rename_i es2 _
      have:=List.length_tail (l:=l)
      simp only at e4
      show 2+(es2.map fun e=>Sp.cm g e+1).sum+1+4*_≤_
      omega
    ·split at h
     ·split at h
      ·cases h
      ·rename_i s r1 h1
       have q1:=Sp.quo_cost h1
       have q0:=Sp.quo_len h1
       injection h with h;injection h with h2 h3;injection h3 with h3 h4;subst h2;subst h3
       show (Sp.quoT s).length+1+4*_≤_
       omega
     ·split at h
      ·split at h
       ·cases h
       ·rename_i n r1 h1
        have q1:=Sp.num_cost h1
        injection h with h;injection h with h2 h3;injection h3 with h3 h4;subst h2;subst h3
        exact q1
      ·split at h
       ·cases h
       ·rename_i k r1 h1
        have q1:=wordIn_cost h1
        injection h with h;injection h with h2 h3;injection h3 with h3 h4;subst h2;subst h3
        have q2:=words_len k
        show (Sp.words.getD k []).length+1+4*_≤_
        omega
theorem read_cost {t:Sp.By} {d x:Int} {v:Sp.V} (h:Sp.readTo t d x=(0,some v)) (hx:x≤400):Sp.sz top v≤8000:=by
 have hg:=Sp.sz_cm hx (read_gd h)
 refine Nat.le_trans hg ?_
 unfold Sp.readTo at h
 split at h
 ·injection h with h1 h2;cases h2
 ·rename_i hl
  have hs:=Sp.skB_len t
  split at h
  ·injection h with h1 h2;cases h2
  ·rename_i v2 r fl hv
   have hb:=val_cost _ _ _ _ _ _ _ hv top
   repeat' split at h
   all_goals injection h with h1 h2
   all_goals first|(injection h2 with h2;subst h2;omega)|cases h2
end

section
def Sp.p1:Sp.By:=[91,49,44,50,93]
def Sp.p2:Sp.By:=[91,123,34,111,112,34,58,34,97,100,100,34,44,34,112,97,116,104,34,58,34,47,49,34,44,34,118,97,108,117,101,34,58,57,125,93]
def Sp.p3:Sp.By:=[47,49]
def Sp.p4:Sp.By:=[91,49,44,57,44,50,93]
def Sp.pv2:Sp.V:=Sp.vArr [Sp.vNum (false,[49],0),Sp.vNum (false,[57],0),Sp.vNum (false,[50],0)]
def Sp.ps:List Sp.St:=[(1,Sp.p1,[]),(5,Sp.p2,[]),(2,[],[]),(7,[],[]),(3,Sp.p3,[])]
theorem step_dump {d e n:Int} (hc:Sp.cfg d e n=true) (v:Sp.V×Sp.Inv) (s t:Sp.By):Sp.step d e n (some v) (2,s,t)=((0,0,Sp.can top v.1),some v):=by
 unfold Sp.step;rw[hc,if_pos rfl,if_neg (by simp),if_neg (by simp)];rfl
theorem step_load {d e n:Int} (hc:Sp.cfg d e n=true) (doc:Sp.Doc) (s t:Sp.By):Sp.step d e n doc (1,s,t)=Sp.ldd (Sp.readTo s d e) doc:=by
 unfold Sp.step;rw[hc,if_pos rfl,if_neg (by simp),if_pos rfl]
theorem step_merge {d e n:Int} (hc:Sp.cfg d e n=true) (v:Sp.V×Sp.Inv) (s t:Sp.By):Sp.step d e n (some v) (6,s,t)=((Sp.stMerge d e v s).1,some (Sp.stMerge d e v s).2):=by
 unfold Sp.step;rw[hc,if_pos rfl,if_neg (by simp),if_neg (by simp)];rfl
theorem step_diff {d e n:Int} (hc:Sp.cfg d e n=true) (v:Sp.V×Sp.Inv) (s t:Sp.By):Sp.step d e n (some v) (8,s,t)=(Sp.stDiff d e n v s,some v):=by
 unfold Sp.step;rw[hc,if_pos rfl,if_neg (by simp),if_neg (by simp)];rfl
theorem step_mdiff {d e n:Int} (hc:Sp.cfg d e n=true) (v:Sp.V×Sp.Inv) (s t:Sp.By):Sp.step d e n (some v) (9,s,t)=(Sp.stMergeDiff d e v s,some v):=by
 unfold Sp.step;rw[hc,if_pos rfl,if_neg (by simp),if_neg (by simp)];rfl
theorem step_none {d e n:Int} (hc:Sp.cfg d e n=true) (k:Int) (h1:1<k) (h9:k≤9) (s t:Sp.By):Sp.step d e n none (k,s,t)=((3,0,[]),none):=by
 unfold Sp.step;rw[hc,if_pos rfl,if_neg (by simp;omega),if_neg (by simp;omega)]
end
end Go.Proofs.YtdpomdelmdofmaaGreatDoor
