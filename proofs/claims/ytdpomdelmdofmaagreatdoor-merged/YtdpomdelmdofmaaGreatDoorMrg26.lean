/-
  Plain facts: what is read as a patch is within bounds.
-/
import Derived.Test.YtdpomdelmdofmaaGreatDoorMrg25
import Derived.Test.YtdpomdelmdofmaaGreatDoorMrg17
import Derived.Test.YtdpomdelmdofmaaGreatDoorMrg24
import Derived.Test.YtdpomdelmdofmaaGreatDoorMrg23
import Derived.ArgAppend
import Derived.Laws.Append
import Derived.Deep.DeepCutAuto
namespace Go.Proofs.YtdpomdelmdofmaaGreatDoor
section
open Go.RowKit Go.Maps
namespace Sp
theorem escB_one (c:UInt8):1≤(escB c).length:=by
 unfold escB
 repeat' split
 all_goals simp
theorem escS_ge:∀s:By,s.length≤(escS s).length
 | []=>Nat.le_refl _
 | c::r=>by
  have h1:=escB_one c
  have h2:=escS_ge r
  simp only[escS,List.length_append,List.length_cons]
  omega
theorem quoT_ge (s:By):s.length≤(quoT s).length:=by
 have:=escS_ge s
 simp[quoT];omega
section
variable {d x:Int} {f:Nat} {lv:Int} {q y:V} {k:By}
end
end Sp
end

section
open Go.RowKit Go.Maps
namespace Sp
theorem mem_mdel {α:Type} {k:By} {p:Lit×DataW α} {es:List (Lit×DataW α)}:p∈mdel (.string k) es↔p∈es∧p.1 ≠ .string k:=by
 unfold mdel
 rw[List.mem_filter]
 constructor
 ·rintro⟨h1,h2⟩
  refine⟨h1,fun e=>?_⟩
  rw[e,sameKey_str.2 rfl] at h2
  cases h2
 ·rintro⟨h1,h2⟩
  exact⟨h1,by rw[sameKey_ne h2];rfl⟩
theorem mem_mput {α:Type} {k:By} {c:DataW α} {p:Lit×DataW α} {es:List (Lit×DataW α)}:p∈mput (.string k) c es↔p=(.string k,c)∨(p∈es∧p.1 ≠ .string k):=by
 rw[(perm_mput (.string k) c es).mem_iff,List.mem_cons,mem_mdel]
theorem mem_sum:∀ {l:List Nat} {a:Nat},a∈l→a≤l.sum
 | b::l,a,h=>by
  rw[List.sum_cons]
  rcases List.mem_cons.1 h with rfl|h
  ·omega
  ·have:=mem_sum h;omega
theorem sz_mem {f:Nat} {es:List (Lit×V)} {p:Lit×V} (h:p∈es):(quoT (strOf p.1)).length+2+sz f p.2≤sz (f+1) (.map es):=by
 have h1:(quoT (strOf p.1)).length+2+sz f p.2≤(es.map fun p=>(quoT (strOf p.1)).length+2+sz f p.2).sum:=mem_sum (List.mem_map.2 ⟨p,h,rfl⟩)
 show _≤2+(es.map fun p=>(quoT (strOf p.1)).length+2+sz f p.2).sum
 omega
section
variable {d x:Int}
def Mok (d x:Int) (f:Nat) (lv:Int) (es:List (Lit×V)):Prop:=es.Pairwise (fun p q=>p.1.before q.1=true) ∧ ∀p∈es,(∃s,p.1 = .string s∧Ut s)∧gd d x f (lv+1) p.2
theorem Mok.skey {f:Nat} {lv:Int} {es:List (Lit×V)} (h:Mok d x f lv es):Skey es:=⟨h.1,fun p hp=>by obtain⟨s,e,_⟩:=(h.2 p hp).1;exact⟨s,e⟩⟩
theorem gd_map {f:Nat} {lv:Int} {es:List (Lit×V)} (h:gd d x (f+1) lv (.map es)):lv≤d∧Mok d x f lv es:=by
 obtain⟨h0,h⟩:=h
 rcases h with⟨k,_,e⟩|⟨s,_,e⟩|⟨n,_,_,_,e⟩|⟨es',_,e⟩|⟨es',h1,h2,e⟩
 ·cases e
 ·cases e
 ·cases e
 ·cases e
 ·injection e with e
  subst e
  exact⟨h0,h1,h2⟩
theorem Mok.gd {f:Nat} {lv:Int} {es:List (Lit×V)} (h:Mok d x f lv es) (h0:lv≤d):gd d x (f+1) lv (.map es):=⟨h0,Or.inr (Or.inr (Or.inr (Or.inr ⟨es,h.1,h.2,rfl⟩)))⟩
theorem Mok.mdel {f:Nat} {lv:Int} {es:List (Lit×V)} (h:Mok d x f lv es) (k:Lit):Mok d x f lv (mdel k es):=⟨h.1.filter _,fun p hp=>h.2 p (List.mem_filter.1 hp).1⟩
theorem Mok.mput {f:Nat} {lv:Int} {es:List (Lit×V)} {k:By} {c:V} (h:Mok d x f lv es) (hk:Ut k) (hc:Sp.gd d x f (lv+1) c):Mok d x f lv (mput (.string k) c es):=by
 refine⟨(mput_skey h.skey).1,fun p hp=>?_⟩
 rcases mem_mput.1 hp with rfl|⟨hp,_⟩
 ·exact⟨⟨k,rfl,hk⟩,hc⟩
 ·exact h.2 p hp
theorem pure_gd:∀ {f:Nat} {lv:Int} {p:V},gd d x f lv p→gd d x f lv (pure_ f p)
 | 0,_,_,h=>h.elim
 | f+1,lv,p,h=>by
  cases hob:isObj p with
  | false=>rw[pure_leaf hob];exact h
  | true =>
   obtain⟨es,rfl⟩:∃es,p = .map es:=by
    cases p<;>first|exact⟨_,rfl⟩|cases hob
   obtain⟨h0,hm⟩:=gd_map h
   refine Mok.gd (es:=pureM f es) ⟨?_,fun q hq=>?_⟩ h0
   ·unfold pureM
    rw[List.pairwise_map]
    exact hm.1.filter _
   ·unfold pureM at hq
    obtain⟨p,hp,rfl⟩:=List.mem_map.1 hq
    have h2:=hm.2 p (List.mem_filter.1 hp).1
    exact⟨h2.1,pure_gd h2.2⟩
def MOk (d x:Int) (B P:Nat) (o:Opn):Prop:=o.1<3∧(o.2.1.map fun t=>t.length+1).sum≤P∧(o.1≠1 → ∃f lv,1≤lv∧gd d x f lv o.2.2∧sz f o.2.2≤B)
theorem MOk.mono {B P P':Nat} {o:Opn} (h:MOk d x B P o) (hP:P≤P'):MOk d x B P' o:=⟨h.1,Nat.le_trans h.2.1 hP,h.2.2⟩
def MrgOk (d x:Int) (f:Nat):Prop:=∀ (lv:Int) (o:Option V) (s:List By) (p:V) (B:Nat),1≤lv→(∀v,o=some v→gd d x f lv v∧sz f v≤B)→gd d x f lv p →
 gd d x f lv (mrg f o s p).1∧(∀q∈(mrg f o s p).2,MOk d x B ((s.map fun t=>t.length+1).sum+sz f p) q)∧(mrg f o s p).2.length≤sz f p
theorem get_gd {f:Nat} {lv:Int} {es:List (Lit×V)} {k:By} {v:V} (h:Mok d x f lv es) (hg:get? es (.string k)=some v):(Lit.string k,v)∈es:=by
 rcases key_two es k with⟨c,hc⟩|hn
 ·rw[get_yes h.skey hc] at hg
  injection hg with hg
  rw[← hg];exact hc
 ·rw[get_no hn] at hg;cases hg
theorem mall_ok {f:Nat} (ih:MrgOk d x f) {lv:Int} (hlv:1≤lv) {B:Nat} (s:List By):∀ (l es:List (Lit×V)),Mok d x f lv es→Mok d x f lv l→(∀q∈l,∀c,(q.1,c)∈es→sz f c≤B) →
  Mok d x f lv (mall (mrg f) s l es).1∧(∀q∈(mall (mrg f) s l es).2,MOk d x B ((s.map fun t=>t.length+1).sum+(l.map fun p=>(quoT (strOf p.1)).length+2+sz f p.2).sum) q)∧(mall (mrg f) s l es).2.length≤(l.map fun p=>(quoT (strOf p.1)).length+2+sz f p.2).sum
 | [],es,he,_,_=>⟨he,(fun q hq=>by cases hq),Nat.le_refl _⟩
 | q::l,es,he,hl,hB=>by
  obtain⟨⟨k,ek,hk⟩,hq⟩:=hl.2 q List.mem_cons_self
  obtain⟨qk,qv⟩:=q
  simp only at ek hq
  subst ek
  have hp:=List.pairwise_cons.1 hl.1
  have hl':Mok d x f lv l:=⟨hp.2,fun p hp=>hl.2 p (List.mem_cons_of_mem _ hp)⟩
  have hne:∀p∈l,p.1≠Lit.string k:=fun p hpl e=>by
   have:=hp.1 p hpl
   rw[e,before_irr] at this
   cases this
  have hv:∀v,get? es (.string k)=some v→gd d x f (lv+1) v∧sz f v≤B:=fun v hg=>by
   have hm:=get_gd he hg
   exact⟨(he.2 _ hm).2,hB _ List.mem_cons_self _ hm⟩
  have hst:Mok d x f lv (mstep (mrg f) s (.string k,qv) es).1∧(∀r∈(mstep (mrg f) s (.string k,qv) es).2,MOk d x B ((s.map fun t=>t.length+1).sum+((quoT k).length+2+sz f qv)) r)∧(mstep (mrg f) s (.string k,qv) es).2.length≤(quoT k).length+2+sz f qv ∧ ∀p∈l,∀c,(p.1,c)∈(mstep (mrg f) s (.string k,qv) es).1→(p.1,c)∈es:=by
   have hsn:((s++[k]).map fun t=>t.length+1).sum=(s.map fun t=>t.length+1).sum+(k.length+1):=sum_snoc s k
   have hkq:=quoT_ge k
   unfold mstep
   by_cases hn:isNull qv=true
   ·rw[if_pos hn]
    simp only
    cases hg:get? es (.string k) with
    | none=>exact⟨he,(fun r hr=>by cases hr),Nat.zero_le _,fun p _ c h=>h⟩
    | some o =>
     obtain⟨g1,g2⟩:=hv o hg
     refine⟨he.mdel _,fun r hr=>?_,by simp;omega,fun p _ c h=>(mem_mdel.1 h).1⟩
     obtain rfl:r=(0,s++[keyB (.string k)],o):=by simpa using hr
     refine⟨by omega,?_,fun _=>⟨f,lv+1,by omega,g1,g2⟩⟩
     show ((s++[k]).map fun t=>t.length+1).sum≤_
     rw[hsn];omega
   ·rw[if_neg hn]
    simp only
    obtain⟨g1,g2,g3⟩:=ih (lv+1) (get? es (.string k)) (s++[k]) qv B (by omega) hv hq
    refine⟨he.mput hk g1,fun r hr=>(g2 r hr).mono ?_,Nat.le_trans g3 (by omega),fun p hpl c h=>?_⟩
    ·rw[hsn];omega
    ·rcases mem_mput.1 h with e|h
     ·exact absurd (congrArg Prod.fst e) (hne p hpl)
     ·exact h.1
  obtain⟨s1,s2,s3,s4⟩:=hst
  obtain⟨r1,r2,r3⟩:=mall_ok ih hlv s l _ s1 hl' fun p hpl c h=>hB p (List.mem_cons_of_mem _ hpl) c (s4 p hpl c h)
  have e0:(((Lit.string k,qv)::l).map fun p=>(quoT (strOf p.1)).length+2+sz f p.2).sum=((quoT k).length+2+sz f qv)+(l.map fun p=>(quoT (strOf p.1)).length+2+sz f p.2).sum:=by simp[strOf]
  rw[e0]
  refine⟨r1,fun r hr=>?_,?_⟩
  ·rcases List.mem_append.1 hr with h|h
   ·exact (s2 r h).mono (by omega)
   ·exact (r2 r h).mono (by omega)
  ·unfold mall
   rw[List.length_append]
   omega
theorem sz_pos:∀ {f:Nat} {lv:Int} {v:V},gd d x f lv v→1≤sz f v
 | 0,_,_,h=>h.elim
 | f+1,lv,v,h=>by
  obtain⟨_,h⟩:=h
  rcases h with⟨k,hk,rfl⟩|⟨s,_,rfl⟩|⟨n,_,_,_,rfl⟩|⟨es,_,rfl⟩|⟨es,_,_,rfl⟩
  ·match k,hk with
   | 0,_=>exact Nat.succ_le_succ (Nat.zero_le 3)
   | 1,_=>exact Nat.succ_le_succ (Nat.zero_le 3)
   | 2,_=>exact Nat.succ_le_succ (Nat.zero_le 4)
  ·show 1≤(can (f+1) (vStr s)).length
   show 1≤(quoT s).length
   simp[quoT]
  ·show 1≤(can (f+1) (vNum n)).length
   show 1≤(numT n).length
   unfold numT
   split
   ·simp
   ·rename_i h
    have:n.2.1.length≠0:=fun e=>h (List.eq_nil_of_length_eq_zero e)
    simp only[List.length_append];omega
  ·rw[sz_arr];omega
  ·rw[sz_obj];omega
theorem mrg_ok:∀f:Nat,MrgOk d x f
 | 0=>fun lv o s p B _ _ h=>h.elim
 | f+1=>fun lv o s p B hlv ho hp=>by
  have hleaf:∀w:V,o=some w→(isObj w=false∨isObj p=false)→mrg (f+1) o s p=(pure_ (f+1) p,[(2,s,w)]):=fun w e h=>by
   subst e
   cases w<;>cases p<;>first|rfl|(rcases h with h|h<;>cases h)
  have h1:=sz_pos hp
  cases o with
  | none =>
   refine⟨pure_gd hp,fun q hq=>?_,h1⟩
   obtain rfl:q=(1,s,.nil):=by simpa[mrg] using hq
   exact⟨by omega,by simp,fun h=>absurd rfl h⟩
  | some v =>
   obtain⟨gv,sv⟩:=ho v rfl
   cases ob:isObj v with
   | false =>
    rw[hleaf v rfl (Or.inl ob)]
    refine⟨pure_gd hp,fun q hq=>?_,h1⟩
    obtain rfl:q=(2,s,v):=by simpa using hq
    exact⟨by omega,by simp,fun _=>⟨f+1,lv,hlv,gv,sv⟩⟩
   | true =>
    cases pb:isObj p with
    | false =>
     rw[hleaf v rfl (Or.inr pb)]
     refine⟨pure_gd hp,fun q hq=>?_,h1⟩
     obtain rfl:q=(2,s,v):=by simpa using hq
     exact⟨by omega,by simp,fun _=>⟨f+1,lv,hlv,gv,sv⟩⟩
    | true =>
     obtain⟨es,rfl⟩:∃es,v = .map es:=by
      cases v<;>first|exact⟨_,rfl⟩|cases ob
     obtain⟨ps,rfl⟩:∃ps,p = .map ps:=by
      cases p<;>first|exact⟨_,rfl⟩|cases pb
     obtain⟨h0,hm⟩:=gd_map gv
     obtain⟨_,hpm⟩:=gd_map hp
     have he:mrg (f+1) (some (.map es)) s (.map ps)=mrgs (mrg f) s ps es:=rfl
     rw[he,mrgs_eq]
     have hsz:(ps.map fun p=>(quoT (strOf p.1)).length+2+sz f p.2).sum≤sz (f+1) (.map ps):=Nat.le_add_left _ 2
     obtain⟨r1,r2,r3⟩:=mall_ok (mrg_ok f) hlv (B:=B) s ps es hm hpm fun q _ c hc=>by
      have:=sz_mem (f:=f) hc
      simp only at this
      omega
     exact⟨r1.gd h0,fun q hq=>(r2 q hq).mono (Nat.add_le_add_left hsz _),Nat.le_trans r3 hsz⟩
end
end Sp
end

section
open Go.RowKit Go.Maps
namespace Sp
theorem keys_mem {α:Type} {es:List (Lit×DataW α)} {k:By} (hs:∀p∈es,∃s,p.1 = .string s):k∈es.map (fun p=>keyB p.1) ↔ ∃c,(Lit.string k,c)∈es:=by
 rw[List.mem_map]
 constructor
 ·rintro⟨p,hp,e⟩
  obtain⟨s,es'⟩:=hs p hp
  obtain⟨pk,pv⟩:=p
  simp only at es' e
  subst es'
  have e':s=k:=e
  subst e'
  exact⟨pv,hp⟩
 ·rintro⟨c,hc⟩
  exact⟨_,hc,rfl⟩
theorem ufold_skey:∀ {bs xs:List (Lit×V)},Skey xs→(∀q∈bs,∃s,q.1 = .string s)→Skey (bs.foldl (fun (l:List (Lit×V)) q=>mput q.1 .nil l) xs)
 | [],_,h,_=>h
 | q::r,xs,h,hb=>by
  obtain⟨s,e⟩:=hb q List.mem_cons_self
  rw[List.foldl_cons,e]
  exact ufold_skey (mput_skey h) fun p hp=>hb p (List.mem_cons_of_mem _ hp)
theorem ufold_mem {k:By}:∀ {bs xs:List (Lit×V)},(∀q∈bs,∃s,q.1 = .string s)→((∃c,(Lit.string k,c)∈bs.foldl (fun (l:List (Lit×V)) q=>mput q.1 .nil l) xs)↔(∃c,(Lit.string k,c)∈xs) ∨ ∃c,(Lit.string k,c)∈bs)
 | [],xs,_=>by simp
 | q::r,xs,hb=>by
  obtain⟨s,e⟩:=hb q List.mem_cons_self
  obtain⟨qk,qv⟩:=q
  simp only at e
  subst e
  rw[List.foldl_cons,ufold_mem fun p hp=>hb p (List.mem_cons_of_mem _ hp)]
  constructor
  ·rintro (⟨c,h⟩|⟨c,h⟩)
   ·rcases mem_mput.1 h with h|⟨h,_⟩
    ·injection h with h1 _
     injection h1 with h1
     subst h1
     exact Or.inr ⟨qv,List.mem_cons_self⟩
    ·exact Or.inl ⟨c,h⟩
   ·exact Or.inr ⟨c,List.mem_cons_of_mem _ h⟩
  ·rintro (⟨c,h⟩|⟨c,h⟩)
   ·by_cases hk:k=s
    ·subst hk
     exact Or.inl ⟨.nil,mem_mput.2 (Or.inl rfl)⟩
    ·exact Or.inl ⟨c,mem_mput.2 (Or.inr ⟨h,fun e=>hk (by injection e)⟩)⟩
   ·rcases List.mem_cons.1 h with h|h
    ·injection h with h1 _
     injection h1 with h1
     subst h1
     exact Or.inl ⟨.nil,mem_mput.2 (Or.inl rfl)⟩
    ·exact Or.inr ⟨c,h⟩
theorem ukeys_mem {xs bs:List (Lit×V)} (hx:Skey xs) (hb:Skey bs) {k:By}:k∈ukeys xs bs↔(∃c,(Lit.string k,c)∈xs) ∨ ∃c,(Lit.string k,c)∈bs:=by
 unfold ukeys
 rw[keys_mem (ufold_skey hx hb.2).2,ufold_mem hb.2]
theorem ukeys_rise {xs bs:List (Lit×V)} (hx:Skey xs) (hb:Skey bs):(ukeys xs bs).Pairwise (fun a b=>a<b):=by
 unfold ukeys
 have h:=ufold_skey hx hb.2
 rw[List.pairwise_map]
 refine (List.Pairwise.and_mem.1 h.1).imp ?_
 rintro p q ⟨hp,hq,hpq⟩
 obtain⟨s,es⟩:=h.2 p hp
 obtain⟨t,et⟩:=h.2 q hq
 rw[es,et] at hpq ⊢
 exact before_le s t hpq
theorem rise_one:∀ {l m:List By},l.Pairwise (fun a b=>a<b)→m.Pairwise (fun a b=>a<b)→(∀k,k∈l↔k∈m)→l=m
 | [],[],_,_,_=>rfl
 | [],b::m,_,_,h=>by have:=(h b).2 List.mem_cons_self;cases this
 | a::l,[],_,_,h=>by have:=(h a).1 List.mem_cons_self;cases this
 | a::l,b::m,hl,hm,h=>by
  have h1:=List.pairwise_cons.1 hl
  have h2:=List.pairwise_cons.1 hm
  have hab:a=b:=by
   rcases List.mem_cons.1 ((h a).1 List.mem_cons_self) with e|e
   ·exact e
   ·rcases List.mem_cons.1 ((h b).2 List.mem_cons_self) with e2|e2
    ·exact e2.symm
    ·exact absurd (List.lt_trans (h2.1 a e) (h1.1 b e2)) (List.lt_irrefl b)
  subst hab
  have:l=m:=rise_one h1.2 h2.2 fun k=>by
   constructor
   ·intro hk
    rcases List.mem_cons.1 ((h k).1 (List.mem_cons_of_mem _ hk)) with e|e
    ·subst e;exact absurd (h1.1 k hk) (List.lt_irrefl k)
    ·exact e
   ·intro hk
    rcases List.mem_cons.1 ((h k).2 (List.mem_cons_of_mem _ hk)) with e|e
    ·subst e;exact absurd (h2.1 k hk) (List.lt_irrefl k)
    ·exact e
  rw[this]
end Sp
end

section
set_option maxHeartbeats 2000000
set_option maxRecDepth 100000
open Go.RowKit Go.Maps
theorem clip_some {w:World} {g o n cap:Nat} (h:n≤cap) (hc:cap≤maxLen) :
  Calls Tryz.prog 206 #[.slice (some ⟨g,o,none⟩) n cap] w fun e w'=>e = .returned (.slice (some ⟨g,o,none⟩) n n)∧w'=w:=by
 have h1:(n:Int)≤(cap:Int):=by omega
 have h2:(cap:Int)≤9223372036854775807:=by unfold maxLen at hc;omega
 have h3:(n:Int)≤9223372036854775807:=by omega
 go_enter Tryz.func206,Tryz.ntmps206
 go_wp2_with (fail)
 go_ret
 exact⟨rfl,rfl⟩
theorem clip_none {w:World} {c:Nat} :
  Calls Tryz.prog 206 #[.slice none 0 c] w fun e w'=>e = .returned (.slice none 0 0)∧w'=w:=by
 go_enter Tryz.func206,Tryz.ntmps206
 go_wp2_with (fail)
 go_ret
 exact⟨rfl,rfl⟩
def ToEnd (l:List Sp.By) (t:Sp.By) (w:World) (e:Ending) (w':World):Prop:=∃g cap,e = .returned (.slice (some ⟨g,0,none⟩) (l.length+1) cap)∧w.heap.size≤g∧TokG w' (fun k=>w.heap.size≤k) (.slice (some ⟨g,0,none⟩) (l.length+1) cap) (l++[t])∧Below w.heap.size w w'
theorem tok_row {w:World} {B n:Nat} {v:Value} {l:List Sp.By} {t:Sp.By} (h:w.ownsRow B 9 1 v (n+1) (l.map (fun s=>Value.string ⟨s.toArray⟩)++[.string ⟨t.toArray⟩])) (hn:n=l.length):∃g cap,v = .slice (some ⟨g,0,none⟩) (l.length+1) cap∧B≤g∧TokG w (fun k=>B≤k) (.slice (some ⟨g,0,none⟩) (l.length+1) cap) (l++[t]):=by
 subst hn
 obtain⟨g,cap,rfl,hcap,hcm,hlt,hc⟩:=owns_cell1 h (Nat.succ_pos _)
 have hB:=(owns_lt h g rfl).2
 refine⟨g,cap,rfl,hB,Or.inr ⟨g,0,cap,by simp,by simpa using hcap,hcm,hB,hlt,fun k hk=>?_⟩⟩
 have hk2:k<(l.map (fun s=>Value.string ⟨s.toArray⟩)++[Value.string ⟨t.toArray⟩]).length:=by simpa using hk
 have h1:=hc k hk2
 rw[Nat.zero_add,h1]
 congr 1
 rw[List.getElem_append,List.getElem_append]
 simp only[List.length_map]
 split<;>simp
theorem pTo_any {w:World} {G:Nat→Prop} {pv:Value} {l:List Sp.By} {t:Sp.By} (h:TokG w G pv l) (hl:l.length≤100000000) (hnil:l=[] → ∃c,pv = .slice none 0 c) :
  Calls Tryz.prog 163 #[pv,.string ⟨t.toArray⟩] w (ToEnd l t w):=by
 obtain⟨i0,hi,h0⟩:=Option.map_eq_some_iff.1 n_str
 injection h0 with hz h0
 injection h0 with hz2 hz3
 obtain⟨z0,hz9⟩:∃z0,z0=Value.string ⟨#[]⟩:=⟨_,rfl⟩
 rw[← hz9] at hz
 have hz1:z0.cells.size=1:=by rw[hz9];rfl
 have hb:Below w.heap.size w (w.alloc (.cells #[.string ⟨t.toArray⟩] 9)):=(Below.refl _ _).alloc (Nat.le_refl _) _
 have HN:=hide (heap_alloc_new w (.cells #[.string ⟨t.toArray⟩] 9))
 have HB:=hide hb
 obtain⟨ao,n,cap,hpv,hn,hcl,hnone,hcell⟩:∃ (ao:Option Addr) (n cap:Nat),pv = .slice ao n cap∧n=l.length∧(∀w1,Calls Tryz.prog 206 #[.slice ao n cap] w1 fun e w'=>e = .returned (.slice ao n n)∧w'=w1)∧(ao=none→n=0∧n=0)∧(∀b,ao=some b → ∀ (j:Nat) (u:Value),(l.map fun s=>Value.string ⟨s.toArray⟩)[j]? = some u→(w.alloc (.cells #[.string ⟨t.toArray⟩] 9)).cell? (b.add j)=some u):=by
  rcases h with⟨rfl,a,c,rfl,hcm⟩|⟨g,o,cap,rfl,h1,h2,_,h3,h4⟩
  ·obtain⟨c',e⟩:=hnil rfl
   injection e with e1 e2 e3
   subst e1
   exact⟨none,0,c,rfl,rfl,fun w1=>clip_none,fun _=>⟨rfl,rfl⟩,fun b e=>by cases e⟩
  ·refine⟨some ⟨g,o,none⟩,l.length,cap,rfl,rfl,fun w1=>clip_some h1 h2,(fun e=>by cases e),fun b e j u hj=>?_⟩
   injection e with e
   subst e
   rw[Addr.add_lit]
   rw[List.getElem?_map] at hj
   obtain⟨s,hs,rfl⟩:=Option.map_eq_some_iff.1 hj
   obtain⟨hjl,rfl⟩:=List.getElem?_eq_some_iff.1 hs
   exact (hb.cell (p:=⟨g,o+j,none⟩) h3).trans (h4 j hjl)
 subst hpv
 have HCELL:=hide hcell
 have HNONE:=hide hnone
 have HL:=hide hl
 have HNL:=hide hn
 obtain⟨Q,hQ⟩:∃Q,Q=ToEnd l t w:=⟨_,rfl⟩
 rw[← hQ]
 have HQ:=hide hQ
 clear h hb hcell hnone hl hn hQ hnil
 go_enter Tryz.func163,Tryz.ntmps163
 go_wp2_with (fail)
 refine (hcl _).mono ?_
 rintro e w' ⟨rfl,rfl⟩
 go_wp2_with (first
  | (at_builtin;refine wpList_append_grows _ rfl _ _ 121 rfl 9 i0 z0 1 16 Tryz.underlying121 hi hz hz2 hz3 hz1 (by decide) ao n n (l.map fun s=>Value.string ⟨s.toArray⟩) rfl (unhide HNONE) (by rw[List.length_map];have:=unhide HNL;omega) (unhide HCELL) ⟨w'.heap.size,0,none⟩ 1 1 [.string ⟨t.toArray⟩] rfl rfl (World.news_of_block (cs:=#[.string ⟨t.toArray⟩]) (t:=9) (fr:=(0,0)) (unhide HN)) (by simp[Value.oneCell']) (by omega) (by have:=unhide HL;have:=unhide HNL;unfold maxLen;omega) (by have:=unhide HL;have:=unhide HNL;omega) ?_;intro v2 w2 ho hg))
 have hb2:Below w'.heap.size w' w2:=⟨hg.os.trans (unhide HB).os,hg.tape.trans (unhide HB).tape,hg.output.trans (unhide HB).output,Nat.le_trans (unhide HB).size hg.size,fun k hk=>(hg.block k (Nat.lt_of_lt_of_le hk (unhide HB).size) (by simp)).trans ((unhide HB).block k hk)⟩
 obtain⟨g2,cap2,rfl,h5,h6⟩:=tok_row ho (unhide HNL)
 have HT:=hide h6
 have HB2:=hide hb2
 have hsz:(w'.alloc (.cells #[.string ⟨t.toArray⟩] 9)).heap.size=w'.heap.size+1:=by simp
 rw[hsz] at h5
 clear ho hg h6 hb2 hcl
 go_wp2_with (fail)
 show Q (.returned (.slice (some ⟨g2,0,none⟩) (l.length+1) cap2)) _
 rw[unhide HQ]
 refine⟨g2,cap2,rfl,by omega,(unhide HT).move fun k hk _=>⟨rfl,?_⟩,unhide HB2⟩
 rw[hsz] at hk
 omega
end

section
set_option maxRecDepth 100000
set_option maxHeartbeats 4000000
open Go.RowKit Go.Maps
theorem PBox.low3 {w w3:World} {q b i:Nat} {pth:Value} {key:Sp.By} (h:PBox w q pth b key i) (hq:q<w.heap.size) (hb:Below w.drew.heap.size w.drew w3):PBox w3 q pth b key i:=(hb.block q hq).trans h
section
variable {w:World} {D b i pb:Nat} {key:Sp.By} {pa gv:Option Addr} {pl pc:Nat} {pk:Int} {pn:Sp.Nm} {ps:Sp.By} {psl pmv:Value}
theorem dMerge_leaf {Q:World→Prop} {Q1:World→Addr→World→Prop}
  (hG:Calls Tryz.prog 159 #[plV (.slice pa pl pc) b key i] (plW w pa pl pc b key i) fun e w'=>e = .returned (.pointer gv)∧Below (w.heap.size+1) (plW w pa pl pc b key i) w')
  (hpv:VB w pb pk pn ps psl pmv)
  (hc:gv=none ∨ ∃y k n s sl mv,gv=some ⟨y,0,none⟩∧VB w y k n s sl mv∧((k != 6)=true∨((k != 6)=false∧(pk != 6)=true)))
  (hM:∀w1,Below w.heap.size w w1→Calls Tryz.prog 161 #[.pointer (some ⟨pb,0,none⟩)] w1 fun e w'=>∃x,e = .returned (.pointer (some x))∧Below w1.heap.size w1 w'∧Q1 w1 x w')
  (hP:∀x w1 w2,Below w.heap.size w w1→Below w1.heap.size w1 w2→Q1 w1 x w2→Calls Tryz.prog 160 #[.pointer (some ⟨D,0,none⟩),plV (.slice pa pl pc) b key i,.pointer (some x)] w2 fun e w'=>e = .returned (.tuple #[])∧Q w') :
  Calls Tryz.prog 120 #[.pointer (some ⟨D,0,none⟩),plV (.slice pa pl pc) b key i,.pointer (some ⟨pb,0,none⟩)] w fun e w'=>e = .returned (.tuple #[])∧Q w':=by
 have HG:=hide hG
 have HM:=hide hM
 have HP:=hide hP
 have hbx:=heap_alloc_new w (.cells #[.slice pa pl pc,.pointer (some ⟨b,0,none⟩),.string ⟨key.toArray⟩,.int .i64 i] 185)
 have HPB:=hide (show PBox (plW w pa pl pc b key i) w.heap.size (.slice pa pl pc) b key i from hbx)
 have hpl:Below w.heap.size w (plW w pa pl pc b key i):=(Below.refl _ _).alloc (Nat.le_refl _) _
 have HPL:=hide hpl
 have hps:(plW w pa pl pc b key i).heap.size=w.heap.size+1:=by simp
 have HPS:=hide hps
 have HPV:=hide hpv
 have HC:=hide hc
 clear hG hM hP hbx hpl hps hpv hc
 go_enter Tryz.func120,Tryz.ntmps120
 go_wp2_with (fail)
 refine (unhide HG).mono ?_
 rintro e w2 ⟨rfl,hb⟩
 have hb2:Below w.heap.size w w2:=⟨hb.os.trans (unhide HPL).os,hb.tape.trans (unhide HPL).tape,hb.output.trans (unhide HPL).output,Nat.le_trans (unhide HPL).size hb.size,fun k hk=>(hb.block k (by omega)).trans ((unhide HPL).block k hk)⟩
 have hp2:PBox w2 w.heap.size (.slice pa pl pc) b key i:=(hb.block _ (by omega)).trans (unhide HPB)
 have hl2:w.heap.size<w2.heap.size:=(Array.getElem?_eq_some_iff.1 hp2).1
 have HP2:=hide hp2
 have HB2:=hide hb2
 have HMM:=hide (fun w0 (h0:Below w2.heap.size w2 w0)=>unhide HM w0 (hb2.trans (h0.mono hb2.size)))
 have e0:=hp2.c0
 have e1:=hp2.c1
 have e2:=hp2.c2
 have e3:=hp2.c3
 have qk:=((unhide HPV).kept (hb2.block pb (unhide HPV).lt)).c0
 have HCC:=unhide HC
 clear hb hb2 hp2 HG HC HPB HPL HPS HM
 rcases HCC with rfl|⟨y,k,n,s,sl,mv,rfl,hy,hk|⟨hk,hk2⟩⟩
 ·go_wp2_with (fail)
  have hd:∀ {u:World},Below u.heap.size u u.drew:=fun {u}=>⟨rfl,rfl,rfl,Nat.le_refl _,fun _ _=>rfl⟩
  go_region_with (first
   | (go_at_call 161;refine (unhide HMM _ hd).mono ?_;rintro e w3 ⟨x,rfl,hb3,hq3⟩;have hp3:=(unhide HP2).low3 hl2 hb3;have f0:=hp3.c0;have f1:=hp3.c1;have f2:=hp3.c2;have f3:=hp3.c3)
   | (go_at_call 160;refine (unhide HP x _ w3 ((unhide HB2).trans (hd.mono (unhide HB2).size)) hb3 hq3).mono ?_;rintro e w4 ⟨rfl,hQ⟩))
  all_goals (
   go_wp2_with (fail)
   exact bodyPost_ret (v:=.tuple #[]) (by simp[results,Tryz.results120,go_sem]) rfl ⟨rfl,hQ⟩)
 ·have qy:=(hy.kept ((unhide HB2).block y hy.lt)).c0
  clear hy
  go_wp2_with (fail)
  have hd:∀ {u:World},Below u.heap.size u u.drew:=fun {u}=>⟨rfl,rfl,rfl,Nat.le_refl _,fun _ _=>rfl⟩
  go_region_with (first
   | (go_at_call 161;refine (unhide HMM _ hd).mono ?_;rintro e w3 ⟨x,rfl,hb3,hq3⟩;have hp3:=(unhide HP2).low3 hl2 hb3;have f0:=hp3.c0;have f1:=hp3.c1;have f2:=hp3.c2;have f3:=hp3.c3)
   | (go_at_call 160;refine (unhide HP x _ w3 ((unhide HB2).trans (hd.mono (unhide HB2).size)) hb3 hq3).mono ?_;rintro e w4 ⟨rfl,hQ⟩))
  all_goals (
   go_wp2_with (fail)
   exact bodyPost_ret (v:=.tuple #[]) (by simp[results,Tryz.results120,go_sem]) rfl ⟨rfl,hQ⟩)
 ·have qy:=(hy.kept ((unhide HB2).block y hy.lt)).c0
  clear hy
  go_wp2_with (fail)
  have hd:∀ {u:World},Below u.heap.size u u.drew:=fun {u}=>⟨rfl,rfl,rfl,Nat.le_refl _,fun _ _=>rfl⟩
  go_region_with (first
   | (go_at_call 161;refine (unhide HMM _ hd).mono ?_;rintro e w3 ⟨x,rfl,hb3,hq3⟩;have hp3:=(unhide HP2).low3 hl2 hb3;have f0:=hp3.c0;have f1:=hp3.c1;have f2:=hp3.c2;have f3:=hp3.c3)
   | (go_at_call 160;refine (unhide HP x _ w3 ((unhide HB2).trans (hd.mono (unhide HB2).size)) hb3 hq3).mono ?_;rintro e w4 ⟨rfl,hQ⟩))
  all_goals (
   go_wp2_with (fail)
   exact bodyPost_ret (v:=.tuple #[]) (by simp[results,Tryz.results120,go_sem]) rfl ⟨rfl,hQ⟩)
end
end
end Go.Proofs.YtdpomdelmdofmaaGreatDoor
