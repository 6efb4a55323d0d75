import Derived.Test.YtdpomdelmdofmaaGreatDoorUnd24
import Derived.ArgAppend
import Derived.Laws.Append
import Derived.Deep.DeepCutAuto
import Derived.DeepKeys4
namespace Go.Proofs.YtdpomdelmdofmaaGreatDoor
open Go.Proofs.Tryz
section
open Go.RowKit Go.Maps
namespace Sp
theorem Fp{α:Type}{k:By}{p:Lit×DataW α}{es:List (Lit×DataW α)}:p∈mdel (.string k) es<->p∈es/\p.1 ≠ .string k:=by
 unfold mdel;rw[List.mem_filter];constructor
 ·rintro⟨h1,h2⟩;refine⟨h1,fun e=>?_⟩;rw[e,DK.2 rfl] at h2;cases h2
 ·rintro⟨h1,h2⟩;exact⟨h1,by rw[sameKey_ne h2];rfl⟩
theorem Ew{α:Type}{k:By}{c:DataW α}{p:Lit×DataW α}{es:List (Lit×DataW α)}:p∈mput (.string k) c es<->p=(.string k,c)\/(p∈es/\p.1 ≠ .string k):=by
 rw[(Df (.string k) c es).mem_iff,List.mem_cons,Fp]
theorem OX:∀ {l:List Nat} {a:Nat},a∈l->a<=l.sum
 | b::l,a,h=>by
  rw[List.sum_cons];rcases List.mem_cons.1 h with rfl|h
  ·omega
  ·have:=OX h;omega
theorem JJ{f:Nat}{es:List (Lit×V)}{p:Lit×V}(h:p∈es):(Ah (strOf p.1)).length+2+sz f p.2<=sz (f+1) (.map es):=by
 have h1:(Ah (strOf p.1)).length+2+sz f p.2<=(es.map fun p=>(Ah (strOf p.1)).length+2+sz f p.2).sum:=OX (List.mem_map.2 ⟨p,h,rfl⟩);show _<=2+(es.map fun p=>(Ah (strOf p.1)).length+2+sz f p.2).sum;omega
section
variable{d x:Int}
def Mok(d x:Int)(f:Nat)(lv:Int)(es:List (Lit×V)):Prop:=es.Pairwise (fun p q=>p.1.before q.1=true) /\ ∀p∈es,(∃s,p.1 = .string s/\Ut s)/\gd d x f (lv+1) p.2
theorem Mok.skey{f:Nat}{lv:Int}{es:List (Lit×V)}(h:Mok d x f lv es):Bk es:=⟨h.1,fun p hp=>by obtain⟨s,e,_⟩:=(h.2 p hp).1;exact⟨s,e⟩⟩
theorem Dj{f:Nat}{lv:Int}{es:List (Lit×V)}(h:gd d x (f+1) lv (.map es)):lv<=d/\Mok d x f lv es:=by
 obtain⟨h0,h⟩:=h;rcases h with⟨k,_,e⟩|⟨s,_,e⟩|⟨n,_,_,_,e⟩|⟨es',_,e⟩|⟨es',h1,h2,e⟩
 ·cases e
 ·cases e
 ·cases e
 ·cases e
 ·injection e with e;subst e;exact⟨h0,h1,h2⟩
theorem Mok.gd{f:Nat}{lv:Int}{es:List (Lit×V)}(h:Mok d x f lv es)(h0:lv<=d):gd d x (f+1) lv (.map es):=⟨h0,Or.inr (Or.inr (Or.inr (Or.inr ⟨es,h.1,h.2,rfl⟩)))⟩
theorem Mok.mdel{f:Nat}{lv:Int}{es:List (Lit×V)}(h:Mok d x f lv es)(k:Lit):Mok d x f lv (mdel k es):=⟨h.1.filter _,fun p hp=>h.2 p (List.mem_filter.1 hp).1⟩
theorem Mok.mput{f:Nat}{lv:Int}{es:List (Lit×V)}{k:By}{c:V}(h:Mok d x f lv es)(hk:Ut k)(hc:Sp.gd d x f (lv+1) c):Mok d x f lv (mput (.string k) c es):=by
 refine⟨(Cg h.skey).1,fun p hp=>?_⟩;rcases Ew.1 hp with rfl|⟨hp,_⟩
 ·exact⟨⟨k,rfl,hk⟩,hc⟩
 ·exact h.2 p hp
theorem Ik:∀ {f:Nat} {lv:Int} {p:V},gd d x f lv p->gd d x f lv (Be f p)
 | 0,_,_,h=>h.elim
 | f+1,lv,p,h=>by
  cases hob:isObj p with
  | false=>rw[Hg hob];exact h
  | true =>
   obtain⟨es,rfl⟩:∃es,p = .map es:=by
    cases p<;>first|exact⟨_,rfl⟩|cases hob
   obtain⟨h0,hm⟩:=Dj h;refine Mok.gd (es:=pureM f es) ⟨?_,fun q hq=>?_⟩ h0
   ·unfold pureM;rw[List.pairwise_map];exact hm.1.filter _
   ·unfold pureM at hq;obtain⟨p,hp,rfl⟩:=List.mem_map.1 hq;have h2:=hm.2 p (List.mem_filter.1 hp).1;exact⟨h2.1,Ik h2.2⟩
def MOk(d x:Int)(B P:Nat)(o:Opn):Prop:=o.1<3/\(o.2.1.map fun t=>t.length+1).sum<=P/\(o.1≠1 -> ∃f lv,1<=lv/\gd d x f lv o.2.2/\sz f o.2.2<=B)
theorem MOk.mono{B P P':Nat}{o:Opn}(h:MOk d x B P o)(hP:P<=P'):MOk d x B P' o:=⟨h.1,Nat.le_trans h.2.1 hP,h.2.2⟩
def Vd(d x:Int)(f:Nat):Prop:=∀ (lv:Int) (o:Option V) (s:List By) (p:V) (B:Nat),1<=lv->(∀v,o=some v->gd d x f lv v/\sz f v<=B)->gd d x f lv p ->
 gd d x f lv (mrg f o s p).1/\(∀q∈(mrg f o s p).2,MOk d x B ((s.map fun t=>t.length+1).sum+sz f p) q)/\(mrg f o s p).2.length<=sz f p
theorem RY{f:Nat}{lv:Int}{es:List (Lit×V)}{k:By}{v:V}(h:Mok d x f lv es)(hg:AG es (.string k)=some v):(Lit.string k,v)∈es:=by
 rcases Ey es k with⟨c,hc⟩|hn
 ·rw[Ci h.skey hc] at hg;injection hg with hg;rw[<- hg];exact hc
 ·rw[DO hn] at hg;cases hg
theorem Gf{f:Nat}(ih:Vd d x f){lv:Int}(hlv:1<=lv){B:Nat}(s:List By):∀ (l es:List (Lit×V)),Mok d x f lv es->Mok d x f lv l->(∀q∈l,∀c,(q.1,c)∈es->sz f c<=B) ->
  Mok d x f lv (AU (mrg f) s l es).1/\(∀q∈(AU (mrg f) s l es).2,MOk d x B ((s.map fun t=>t.length+1).sum+(l.map fun p=>(Ah (strOf p.1)).length+2+sz f p.2).sum) q)/\(AU (mrg f) s l es).2.length<=(l.map fun p=>(Ah (strOf p.1)).length+2+sz f p.2).sum
 | [],es,he,_,_=>⟨he,(fun q hq=>by cases hq),Nat.le_refl _⟩
 | q::l,es,he,hl,hB=>by
  obtain⟨⟨k,ek,hk⟩,hq⟩:=hl.2 q List.mem_cons_self;obtain⟨qk,qv⟩:=q;simp only at ek hq;subst ek;have hp:=List.pairwise_cons.1 hl.1;have hl':Mok d x f lv l:=⟨hp.2,fun p hp=>hl.2 p (List.mem_cons_of_mem _ hp)⟩
  have hne:∀p∈l,p.1≠Lit.string k:=fun p hpl e=>by
   have:=hp.1 p hpl;rw[e,DE] at this;cases this
  have hv:∀v,AG es (.string k)=some v->gd d x f (lv+1) v/\sz f v<=B:=fun v hg=>by
   have hm:=RY he hg;exact⟨(he.2 _ hm).2,hB _ List.mem_cons_self _ hm⟩
  have hst:Mok d x f lv (AW (mrg f) s (.string k,qv) es).1/\(∀r∈(AW (mrg f) s (.string k,qv) es).2,MOk d x B ((s.map fun t=>t.length+1).sum+((Ah k).length+2+sz f qv)) r)/\(AW (mrg f) s (.string k,qv) es).2.length<=(Ah k).length+2+sz f qv /\ ∀p∈l,∀c,(p.1,c)∈(AW (mrg f) s (.string k,qv) es).1->(p.1,c)∈es:=by
   have hsn:((s++[k]).map fun t=>t.length+1).sum=(s.map fun t=>t.length+1).sum+(k.length+1):=Fm s k;have hkq:=Ij k;unfold AW;by_cases hn:isNull qv=true
   ·rw[if_pos hn];simp only;cases hg:AG es (.string k) with
    | none=>exact⟨he,(fun r hr=>by cases hr),Nat.zero_le _,fun p _ c h=>h⟩
    | some o =>
     obtain⟨g1,g2⟩:=hv o hg;refine⟨he.mdel _,fun r hr=>?_,by simp;omega,fun p _ c h=>(Fp.1 h).1⟩;obtain rfl:r=(0,s++[Ez (.string k)],o):=by simpa using hr
     refine⟨by omega,?_,fun _=>⟨f,lv+1,by omega,g1,g2⟩⟩;show ((s++[k]).map fun t=>t.length+1).sum<=_;rw[hsn];omega
   ·rw[if_neg hn];simp only;obtain⟨g1,g2,g3⟩:=ih (lv+1) (AG es (.string k)) (s++[k]) qv B (by omega) hv hq;refine⟨he.mput hk g1,fun r hr=>(g2 r hr).mono ?_,Nat.le_trans g3 (by omega),fun p hpl c h=>?_⟩
    ·rw[hsn];omega
    ·rcases Ew.1 h with e|h
     ·exact absurd (congrArg Prod.fst e) (hne p hpl)
     ·exact h.1
  obtain⟨s1,s2,s3,s4⟩:=hst;obtain⟨r1,r2,r3⟩:=Gf ih hlv s l _ s1 hl' fun p hpl c h=>hB p (List.mem_cons_of_mem _ hpl) c (s4 p hpl c h);have e0:(((Lit.string k,qv)::l).map fun p=>(Ah (strOf p.1)).length+2+sz f p.2).sum=((Ah k).length+2+sz f qv)+(l.map fun p=>(Ah (strOf p.1)).length+2+sz f p.2).sum:=by simp[strOf]
  rw[e0];refine⟨r1,fun r hr=>?_,?_⟩
  ·rcases List.mem_append.1 hr with h|h
   ·exact (s2 r h).mono (by omega)
   ·exact (r2 r h).mono (by omega)
  ·unfold AU;rw[List.length_append];omega
theorem W9:∀ {f:Nat} {lv:Int} {v:V},gd d x f lv v->1<=sz f v
 | 0,_,_,h=>h.elim
 | f+1,lv,v,h=>by
  obtain⟨_,h⟩:=h;rcases h with⟨k,hk,rfl⟩|⟨s,_,rfl⟩|⟨n,_,_,_,rfl⟩|⟨es,_,rfl⟩|⟨es,_,_,rfl⟩
  ·match k,hk with
   | 0,_=>exact Nat.succ_le_succ (Nat.zero_le 3)
   | 1,_=>exact Nat.succ_le_succ (Nat.zero_le 3)
   | 2,_=>exact Nat.succ_le_succ (Nat.zero_le 4)
  ·show 1<=(can (f+1) (Az s)).length;show 1<=(Ah s).length;simp[Ah]
  ·show 1<=(can (f+1) (Bj n)).length;show 1<=(A6 n).length;unfold A6;split
   ·simp
   ·rename_i h;have:n.2.1.length≠0:=fun e=>h (List.eq_nil_of_length_eq_zero e);simp only[List.length_append];omega
  ·rw[JK];omega
  ·rw[CY];omega
theorem Gc:∀f:Nat,Vd d x f
 | 0=>fun lv o s p B _ _ h=>h.elim
 | f+1=>fun lv o s p B hlv ho hp=>by
  have hleaf:∀w:V,o=some w->(isObj w=false\/isObj p=false)->mrg (f+1) o s p=(Be (f+1) p,[(2,s,w)]):=fun w e h=>by
   subst e;cases w<;>cases p<;>first|rfl|(rcases h with h|h<;>cases h)
  have h1:=W9 hp;cases o with
  | none =>
   refine⟨Ik hp,fun q hq=>?_,h1⟩;obtain rfl:q=(1,s,.nil):=by simpa[mrg] using hq
   exact⟨by omega,by simp,fun h=>absurd rfl h⟩
  | some v =>
   obtain⟨gv,sv⟩:=ho v rfl;cases ob:isObj v with
   | false =>
    rw[hleaf v rfl (Or.inl ob)];refine⟨Ik hp,fun q hq=>?_,h1⟩;obtain rfl:q=(2,s,v):=by simpa using hq
    exact⟨by omega,by simp,fun _=>⟨f+1,lv,hlv,gv,sv⟩⟩
   | true =>
    cases pb:isObj p with
    | false =>
     rw[hleaf v rfl (Or.inr pb)];refine⟨Ik hp,fun q hq=>?_,h1⟩;obtain rfl:q=(2,s,v):=by simpa using hq
     exact⟨by omega,by simp,fun _=>⟨f+1,lv,hlv,gv,sv⟩⟩
    | true =>
     obtain⟨es,rfl⟩:∃es,v = .map es:=by
      cases v<;>first|exact⟨_,rfl⟩|cases ob
     obtain⟨ps,rfl⟩:∃ps,p = .map ps:=by
      cases p<;>first|exact⟨_,rfl⟩|cases pb
     obtain⟨h0,hm⟩:=Dj gv;obtain⟨_,hpm⟩:=Dj hp;have he:mrg (f+1) (some (.map es)) s (.map ps)=GE (mrg f) s ps es:=rfl;rw[he,D8];have hsz:(ps.map fun p=>(Ah (strOf p.1)).length+2+sz f p.2).sum<=sz (f+1) (.map ps):=Nat.le_add_left _ 2;obtain⟨r1,r2,r3⟩:=Gf (Gc f) hlv (B:=B) s ps es hm hpm fun q _ c hc=>by
      have:=JJ (f:=f) hc;simp only at this;omega
     exact⟨r1.gd h0,fun q hq=>(r2 q hq).mono (Nat.add_le_add_left hsz _),Nat.le_trans r3 hsz⟩
end
end Sp
end

section
set_option maxHeartbeats 2000000
set_option maxRecDepth 100000
open Go.RowKit Go.Maps
theorem SH{w:World}{g o n cap:Nat}(h:n<=cap)(hc:cap<=maxLen) :
  Calls Tryz.prog 206 #[.slice (some ⟨g,o,none⟩) n cap] w fun e w'=>e = .returned (.slice (some ⟨g,o,none⟩) n n)/\w'=w:=by
 have h1:(n:Int)<=(cap:Int):=by omega
 have h2:(cap:Int)<=9223372036854775807:=by unfold maxLen at hc;omega
 have h3:(n:Int)<=9223372036854775807:=by omega
 go_enter func206,ntmps206
 go_wp2_with (fail)
 go_ret;exact⟨rfl,rfl⟩
theorem SI{w:World}{c:Nat} :
  Calls Tryz.prog 206 #[.slice none 0 c] w fun e w'=>e = .returned (.slice none 0 0)/\w'=w:=by
 go_enter func206,ntmps206
 go_wp2_with (fail)
 go_ret;exact⟨rfl,rfl⟩
def Vb(l:List Sp.By)(t:Sp.By)(w:World)(e:Ending)(w':World):Prop:=∃g cap,e = .returned (.slice (some ⟨g,0,none⟩) (l.length+1) cap)/\w.heap.size<=g/\AM w' (fun k=>w.heap.size<=k) (.slice (some ⟨g,0,none⟩) (l.length+1) cap) (l++[t])/\Below w.heap.size w w'
theorem VA{w:World}{B n:Nat}{v:Value}{l:List Sp.By}{t:Sp.By}(h:w.ownsRow B 9 1 v (n+1) (l.map (fun s=>Value.string ⟨s.toArray⟩)++[.string ⟨t.toArray⟩]))(hn:n=l.length):∃g cap,v = .slice (some ⟨g,0,none⟩) (l.length+1) cap/\B<=g/\AM w (fun k=>B<=k) (.slice (some ⟨g,0,none⟩) (l.length+1) cap) (l++[t]):=by
 subst hn;obtain⟨g,cap,rfl,hcap,hcm,hlt,hc⟩:=BF h (Nat.succ_pos _);have hB:=(AA h g rfl).2;refine⟨g,cap,rfl,hB,Or.inr ⟨g,0,cap,by simp,by simpa using hcap,hcm,hB,hlt,fun k hk=>?_⟩⟩;have hk2:k<(l.map (fun s=>Value.string ⟨s.toArray⟩)++[Value.string ⟨t.toArray⟩]).length:=by simpa using hk
 have h1:=hc k hk2;rw[Nat.zero_add,h1];congr 1;rw[List.getElem_append,List.getElem_append];simp only[List.length_map];split<;>simp
theorem VX{w:World}{G:Nat->Prop}{pv:Value}{l:List Sp.By}{t:Sp.By}(h:AM w G pv l)(hl:l.length<=100000000)(hnil:l=[] -> ∃c,pv = .slice none 0 c) :
  Calls Tryz.prog 163 #[pv,.string ⟨t.toArray⟩] w (Vb l t w):=by
 obtain⟨i0,hi,h0⟩:=Option.map_eq_some_iff.1 U5;injection h0 with hz h0;injection h0 with hz2 hz3;obtain⟨z0,hz9⟩:∃z0,z0=Value.string ⟨#[]⟩:=⟨_,rfl⟩
 rw[<- hz9] at hz;have hz1:z0.cells.size=1:=by rw[hz9];rfl
 have hb:Below w.heap.size w (w.alloc (.cells #[.string ⟨t.toArray⟩] 9)):=(Below.refl _ _).alloc (Nat.le_refl _) _;have HN:=Ab (heap_alloc_new w (.cells #[.string ⟨t.toArray⟩] 9));have HB:=Ab hb;obtain⟨ao,n,cap,hpv,hn,hcl,hnone,hcell⟩:∃ (ao:Option Addr) (n cap:Nat),pv = .slice ao n cap/\n=l.length/\(∀w1,Calls Tryz.prog 206 #[.slice ao n cap] w1 fun e w'=>e = .returned (.slice ao n n)/\w'=w1)/\(ao=none->n=0/\n=0)/\(∀b,ao=some b -> ∀ (j:Nat) (u:Value),(l.map fun s=>Value.string ⟨s.toArray⟩)[j]? = some u->(w.alloc (.cells #[.string ⟨t.toArray⟩] 9)).cell? (b.add j)=some u):=by
  rcases h with⟨rfl,a,c,rfl,hcm⟩|⟨g,o,cap,rfl,h1,h2,_,h3,h4⟩
  ·obtain⟨c',e⟩:=hnil rfl;injection e with e1 e2 e3;subst e1;exact⟨none,0,c,rfl,rfl,fun w1=>SI,fun _=>⟨rfl,rfl⟩,fun b e=>by cases e⟩
  ·refine⟨some ⟨g,o,none⟩,l.length,cap,rfl,rfl,fun w1=>SH h1 h2,(fun e=>by cases e),fun b e j u hj=>?_⟩;injection e with e;subst e;rw[Addr.add_lit];rw[List.getElem?_map] at hj;obtain⟨s,hs,rfl⟩:=Option.map_eq_some_iff.1 hj;obtain⟨hjl,rfl⟩:=List.getElem?_eq_some_iff.1 hs;exact (hb.cell (p:=⟨g,o+j,none⟩) h3).trans (h4 j hjl)
 subst hpv;have HCELL:=Ab hcell;have HNONE:=Ab hnone;have HL:=Ab hl;have HNL:=Ab hn;obtain⟨Q,hQ⟩:∃Q,Q=Vb l t w:=⟨_,rfl⟩
 rw[<- hQ];have HQ:=Ab hQ;clear h hb hcell hnone hl hn hQ hnil
 go_enter func163,ntmps163
 go_wp2_with (fail);refine (hcl _).mono ?_
 rintro e w' ⟨rfl,rfl⟩
 go_wp2_with (first
  | (at_builtin;refine wpList_append_grows _ rfl _ _ 121 rfl 9 i0 z0 1 16 underlying121 hi hz hz2 hz3 hz1 (by decide) ao n n (l.map fun s=>Value.string ⟨s.toArray⟩) rfl (Aa HNONE) (by rw[List.length_map];have:=Aa HNL;omega) (Aa HCELL) ⟨w'.heap.size,0,none⟩ 1 1 [.string ⟨t.toArray⟩] rfl rfl (World.news_of_block (cs:=#[.string ⟨t.toArray⟩]) (t:=9) (fr:=(0,0)) (Aa HN)) (by simp[Value.oneCell']) (by omega) (by have:=Aa HL;have:=Aa HNL;unfold maxLen;omega) (by have:=Aa HL;have:=Aa HNL;omega) ?_;intro v2 w2 ho hg))
 have hb2:Below w'.heap.size w' w2:=⟨hg.os.trans (Aa HB).os,hg.tape.trans (Aa HB).tape,hg.output.trans (Aa HB).output,Nat.le_trans (Aa HB).size hg.size,fun k hk=>(hg.block k (Nat.lt_of_lt_of_le hk (Aa HB).size) (by simp)).trans ((Aa HB).block k hk)⟩
 obtain⟨g2,cap2,rfl,h5,h6⟩:=VA ho (Aa HNL);have HT:=Ab h6;have HB2:=Ab hb2;have hsz:(w'.alloc (.cells #[.string ⟨t.toArray⟩] 9)).heap.size=w'.heap.size+1:=by simp
 rw[hsz] at h5;clear ho hg h6 hb2 hcl
 go_wp2_with (fail);show Q (.returned (.slice (some ⟨g2,0,none⟩) (l.length+1) cap2)) _
 rw[Aa HQ];refine⟨g2,cap2,rfl,by omega,(Aa HT).move fun k hk _=>⟨rfl,?_⟩,Aa HB2⟩;rw[hsz] at hk;omega
end

section
set_option maxRecDepth 100000
set_option maxHeartbeats 4000000
open Go.RowKit Go.Maps
theorem AN.low3{w w3:World}{q b i:Nat}{pth:Value}{key:Sp.By}(h:AN w q pth b key i)(hq:q<w.heap.size)(hb:Below w.drew.heap.size w.drew w3):AN w3 q pth b key i:=(hb.block q hq).trans h
section
variable{w:World}{D b i pb:Nat}{key:Sp.By}{pa gv:Option Addr}{pl pc:Nat}{pk:Int}{pn:Sp.Nm}{ps:Sp.By}{psl pmv:Value}
theorem IU{Q:World->Prop}{Q1:World->Addr->World->Prop}
  (hG:Calls Tryz.prog 159 #[plV (.slice pa pl pc) b key i] (plW w pa pl pc b key i) fun e w'=>e = .returned (.pointer gv)/\Below (w.heap.size+1) (plW w pa pl pc b key i) w')
  (hpv:VB w pb pk pn ps psl pmv)
  (hc:gv=none \/ ∃y k n s sl mv,gv=some ⟨y,0,none⟩/\VB w y k n s sl mv/\((k != 6)=true\/((k != 6)=false/\(pk != 6)=true)))
  (hM:∀w1,Below w.heap.size w w1->Calls Tryz.prog 161 #[.pointer (some ⟨pb,0,none⟩)] w1 fun e w'=>∃x,e = .returned (.pointer (some x))/\Below w1.heap.size w1 w'/\Q1 w1 x w')
  (hP:∀x w1 w2,Below w.heap.size w w1->Below w1.heap.size w1 w2->Q1 w1 x w2->Calls Tryz.prog 160 #[.pointer (some ⟨D,0,none⟩),plV (.slice pa pl pc) b key i,.pointer (some x)] w2 fun e w'=>e = .returned (.tuple #[])/\Q w') :
  Calls Tryz.prog 120 #[.pointer (some ⟨D,0,none⟩),plV (.slice pa pl pc) b key i,.pointer (some ⟨pb,0,none⟩)] w fun e w'=>e = .returned (.tuple #[])/\Q w':=by
 have HG:=Ab hG;have HM:=Ab hM;have HP:=Ab hP;have hbx:=heap_alloc_new w (.cells #[.slice pa pl pc,.pointer (some ⟨b,0,none⟩),.string ⟨key.toArray⟩,.int .i64 i] 185);have HPB:=Ab (show AN (plW w pa pl pc b key i) w.heap.size (.slice pa pl pc) b key i from hbx);have hpl:Below w.heap.size w (plW w pa pl pc b key i):=(Below.refl _ _).alloc (Nat.le_refl _) _;have HPL:=Ab hpl;have hps:(plW w pa pl pc b key i).heap.size=w.heap.size+1:=by simp
 have HPS:=Ab hps;have HPV:=Ab hpv;have HC:=Ab hc;clear hG hM hP hbx hpl hps hpv hc
 go_enter func120,ntmps120
 go_wp2_with (fail);refine (Aa HG).mono ?_
 rintro e w2 ⟨rfl,hb⟩;have hb2:Below w.heap.size w w2:=⟨hb.os.trans (Aa HPL).os,hb.tape.trans (Aa HPL).tape,hb.output.trans (Aa HPL).output,Nat.le_trans (Aa HPL).size hb.size,fun k hk=>(hb.block k (by omega)).trans ((Aa HPL).block k hk)⟩
 have hp2:AN w2 w.heap.size (.slice pa pl pc) b key i:=(hb.block _ (by omega)).trans (Aa HPB);have hl2:w.heap.size<w2.heap.size:=(Array.getElem?_eq_some_iff.1 hp2).1;have HP2:=Ab hp2;have HB2:=Ab hb2;have HMM:=Ab (fun w0 (h0:Below w2.heap.size w2 w0)=>Aa HM w0 (hb2.trans (h0.mono hb2.size)));have e0:=hp2.c0;have e1:=hp2.c1;have e2:=hp2.c2;have e3:=hp2.c3;have qk:=((Aa HPV).kept (hb2.block pb (Aa HPV).lt)).c0;have HCC:=Aa HC;clear hb hb2 hp2 HG HC HPB HPL HPS HM;rcases HCC with rfl|⟨y,k,n,s,sl,mv,rfl,hy,hk|⟨hk,hk2⟩⟩
 ·go_wp2_with (fail);have hd:∀ {u:World},Below u.heap.size u u.drew:=fun {u}=>⟨rfl,rfl,rfl,Nat.le_refl _,fun _ _=>rfl⟩
  go_region_with (first
   | (go_at_call 161;refine (Aa HMM _ hd).mono ?_;rintro e w3 ⟨x,rfl,hb3,hq3⟩;have hp3:=(Aa HP2).low3 hl2 hb3;have f0:=hp3.c0;have f1:=hp3.c1;have f2:=hp3.c2;have f3:=hp3.c3)
   | (go_at_call 160;refine (Aa HP x _ w3 ((Aa HB2).trans (hd.mono (Aa HB2).size)) hb3 hq3).mono ?_;rintro e w4 ⟨rfl,hQ⟩))
  all_goals (
   go_wp2_with (fail);exact bodyPost_ret (v:=.tuple #[]) (by simp[results,results120,go_sem]) rfl ⟨rfl,hQ⟩)
 ·have qy:=(hy.kept ((Aa HB2).block y hy.lt)).c0;clear hy
  go_wp2_with (fail);have hd:∀ {u:World},Below u.heap.size u u.drew:=fun {u}=>⟨rfl,rfl,rfl,Nat.le_refl _,fun _ _=>rfl⟩
  go_region_with (first
   | (go_at_call 161;refine (Aa HMM _ hd).mono ?_;rintro e w3 ⟨x,rfl,hb3,hq3⟩;have hp3:=(Aa HP2).low3 hl2 hb3;have f0:=hp3.c0;have f1:=hp3.c1;have f2:=hp3.c2;have f3:=hp3.c3)
   | (go_at_call 160;refine (Aa HP x _ w3 ((Aa HB2).trans (hd.mono (Aa HB2).size)) hb3 hq3).mono ?_;rintro e w4 ⟨rfl,hQ⟩))
  all_goals (
   go_wp2_with (fail);exact bodyPost_ret (v:=.tuple #[]) (by simp[results,results120,go_sem]) rfl ⟨rfl,hQ⟩)
 ·have qy:=(hy.kept ((Aa HB2).block y hy.lt)).c0;clear hy
  go_wp2_with (fail);have hd:∀ {u:World},Below u.heap.size u u.drew:=fun {u}=>⟨rfl,rfl,rfl,Nat.le_refl _,fun _ _=>rfl⟩
  go_region_with (first
   | (go_at_call 161;refine (Aa HMM _ hd).mono ?_;rintro e w3 ⟨x,rfl,hb3,hq3⟩;have hp3:=(Aa HP2).low3 hl2 hb3;have f0:=hp3.c0;have f1:=hp3.c1;have f2:=hp3.c2;have f3:=hp3.c3)
   | (go_at_call 160;refine (Aa HP x _ w3 ((Aa HB2).trans (hd.mono (Aa HB2).size)) hb3 hq3).mono ?_;rintro e w4 ⟨rfl,hQ⟩))
  all_goals (
   go_wp2_with (fail);exact bodyPost_ret (v:=.tuple #[]) (by simp[results,results120,go_sem]) rfl ⟨rfl,hQ⟩)
end
end

section
set_option maxRecDepth 100000
set_option maxHeartbeats 2000000
open Go.RowKit Go.Maps
section
variable{w:World}{D b i pb:Nat}{key:Sp.By}{pa:Option Addr}{pl pc:Nat}{pk:Int}{pn:Sp.Nm}{ps:Sp.By}{psl pmv:Value}{Q:World->Prop}
theorem CT:Below w.heap.size w (plW w pa pl pc b key i):=(Below.refl _ _).alloc (Nat.le_refl _) _
theorem M3(hpv:VB w pb pk pn ps psl pmv)(hk:(pk != 0)=true)(hC:∀w2,Below w.heap.size w w2->Calls Tryz.prog 120 #[.pointer (some ⟨D,0,none⟩),plV (.slice pa pl pc) b key i,.pointer (some ⟨pb,0,none⟩)] w2 fun e w'=>e = .returned (.tuple #[])/\Q w') :
  Calls Tryz.prog 162 #[.pointer (some ⟨D,0,none⟩),plV (.slice pa pl pc) b key i,.pointer (some ⟨pb,0,none⟩)] w fun e w'=>e = .returned (.tuple #[])/\Q w':=by
 have hpl:Below w.heap.size w (plW w pa pl pc b key i):=CT;have qk:=(hpv.kept (hpl.block pb hpv.lt)).c0;have hp2:AN (plW w pa pl pc b key i) w.heap.size (.slice pa pl pc) b key i:=heap_alloc_new w _;have e0:=hp2.c0;have e1:=hp2.c1;have e2:=hp2.c2;have e3:=hp2.c3;have HC:=Ab (hC _ hpl);clear hC hp2 hpl hpv
 go_enter func162,ntmps162
 go_wp2_with (fail);refine (Aa HC).mono ?_
 rintro e w' ⟨rfl,hQ⟩
 go_wp2_with (fail);exact bodyPost_end (results_none rfl _ _ _) rfl ⟨rfl,hQ⟩
theorem N7(hpv:VB w pb pk pn ps psl pmv)(hk:(pk != 0)=false)(hG:Calls Tryz.prog 159 #[plV (.slice pa pl pc) b key i] (plW w pa pl pc b key i) fun e w'=>e = .returned (.pointer none)/\Below (w.heap.size+1) (plW w pa pl pc b key i) w') :
  Calls Tryz.prog 162 #[.pointer (some ⟨D,0,none⟩),plV (.slice pa pl pc) b key i,.pointer (some ⟨pb,0,none⟩)] w fun e w'=>e = .returned (.tuple #[])/\Below w.heap.size w w':=by
 have hpl:Below w.heap.size w (plW w pa pl pc b key i):=CT;have qk:=(hpv.kept (hpl.block pb hpv.lt)).c0;have hp2:AN (plW w pa pl pc b key i) w.heap.size (.slice pa pl pc) b key i:=heap_alloc_new w _;have e0:=hp2.c0;have e1:=hp2.c1;have e2:=hp2.c2;have e3:=hp2.c3;have HG:=Ab hG;clear hG hp2 hpl hpv
 go_enter func162,ntmps162
 go_wp2_with (fail);refine (Aa HG).mono ?_
 rintro e w' ⟨rfl,hb⟩;have HB:=Ab (GW hb);clear hb
 go_wp2_with (fail);exact bodyPost_end (results_none rfl _ _ _) rfl ⟨rfl,Aa HB⟩
theorem LX{y:Addr}(hpv:VB w pb pk pn ps psl pmv)(hk:(pk != 0)=false)(hG:Calls Tryz.prog 159 #[plV (.slice pa pl pc) b key i] (plW w pa pl pc b key i) fun e w'=>e = .returned (.pointer (some y))/\Below (w.heap.size+1) (plW w pa pl pc b key i) w')
  (hR:∀w2,Below w.heap.size w w2->Calls Tryz.prog 199 #[.pointer (some ⟨D,0,none⟩),plV (.slice pa pl pc) b key i] w2 fun e w'=>e = .returned (.tuple #[])/\Q w') :
  Calls Tryz.prog 162 #[.pointer (some ⟨D,0,none⟩),plV (.slice pa pl pc) b key i,.pointer (some ⟨pb,0,none⟩)] w fun e w'=>e = .returned (.tuple #[])/\Q w':=by
 have hpl:Below w.heap.size w (plW w pa pl pc b key i):=CT;have qk:=(hpv.kept (hpl.block pb hpv.lt)).c0;have hp2:AN (plW w pa pl pc b key i) w.heap.size (.slice pa pl pc) b key i:=heap_alloc_new w _;have HP2:=Ab hp2;have hps:(plW w pa pl pc b key i).heap.size=w.heap.size+1:=by simp
 have e0:=hp2.c0;have e1:=hp2.c1;have e2:=hp2.c2;have e3:=hp2.c3;have HG:=Ab hG;have HR:=Ab hR;clear hG hp2 hpl hpv hR
 go_enter func162,ntmps162
 go_wp2_with (fail);refine (Aa HG).mono ?_
 rintro e w' ⟨rfl,hb⟩;have hp3:AN w' w.heap.size (.slice pa pl pc) b key i:=(hb.block _ (by omega)).trans (Aa HP2);have f0:=hp3.c0;have f1:=hp3.c1;have f2:=hp3.c2;have f3:=hp3.c3;have HB:=Ab (GW hb);have HRR:=Ab (Aa HR _ (Aa HB));clear hb hp3 HR
 go_wp2_with (fail);refine (Aa HRR).mono ?_
 rintro e w4 ⟨rfl,hQ⟩
 go_wp2_with (fail);exact bodyPost_end (results_none rfl _ _ _) rfl ⟨rfl,hQ⟩
end
end

section
open Go.RowKit Go.Maps
def nv(x:Sp.By×Bool×Bool):Value:=.agg #[.string ⟨x.1.toArray⟩,.bool x.2.1,.bool x.2.2]
def DW(x:Sp.By×Bool×Bool):Lit:=.string (keyBytes [.string x.1,.bool x.2.1,.bool x.2.2])
theorem Yy:laidOutB Tryz.prog=true:=by kernel_rfl
theorem Xy:(219:TypeId)<Tryz.prog.types.size:=of_decide_eq_true (by kernel_rfl)
theorem nka:Tryz.prog.keyTypeAt 2 219=true:=by kernel_rfl
theorem TL:Keyed Tryz.prog 219:=Keyed.of_law (deep_law_laid Yy (m:=2) (by omega) Xy nka (by rw[underlying219]))
theorem nkl(x:Sp.By×Bool×Bool):WideAt.IsKeyLit (DW x):=by unfold DW;exact trivial
theorem nkt:Tryz.prog.keyType 219=true:=by kernel_rfl
theorem Rw:Tryz.prog.cellsOf 219=3:=by kernel_rfl
theorem ncs:Tryz.prog.cellsOf 9=1:=by kernel_rfl
theorem ncb:Tryz.prog.cellsOf 4=1:=by kernel_rfl
theorem nsz:∃m,Tryz.prog.types.size=m+1:=⟨Tryz.prog.types.size-1,by have:=Xy;unfold TypeId at this;omega⟩
theorem PP(x:Sp.By×Bool×Bool)(h:x.1.length<=1048576):keyOf Tryz.prog 219 (nv x)=some (DW x):=by
 obtain⟨m,hm⟩:=nsz;have hl:(⟨x.1.toArray⟩:ByteArray).size<=maxLen:=by rw[Aw];unfold maxLen;omega
 unfold keyOf nv DW;rw[underlying219];simp only[nkt,Value.formed,underlying219,Rw,hm];simp[Program.keyLits,underlying219,underlying9,underlying4,Rw,ncs,ncb,Value.cells,hl]
theorem MV{x y:Sp.By×Bool×Bool}(h1:x.1.length<=1048576)(h2:y.1.length<=1048576)(h:DW x=DW y):x=y:=by
 have:=TL.inj (PP x h1) (h▸PP y h2);obtain⟨a,b,c⟩:=x;obtain⟨a',b',c'⟩:=y;unfold nv at this;simp at this;obtain⟨e1,e2,e3⟩:=this;rw[e1,e2,e3]
def JV:List (Sp.By×Bool×Bool):=[(Sp.Jy,true,false),(Sp.Fc,false,false),(Sp.Es,true,false),(Sp.L8,false,true),(Sp.copy_,false,true),(Sp.L7,true,false)]
def opN(k:Nat):Sp.By×Bool×Bool:=JV.getD k ([],false,false)
theorem Yx(w:World):(Instr.index 220 (.agg CA) (.int .i64 0)).run Tryz.prog w = .ok (nv (opN 0)) w:=by kernel_rfl
theorem Yw(w:World):(Instr.index 220 (.agg CA) (.int .i64 1)).run Tryz.prog w = .ok (nv (opN 1)) w:=by kernel_rfl
theorem Yv(w:World):(Instr.index 220 (.agg CA) (.int .i64 2)).run Tryz.prog w = .ok (nv (opN 2)) w:=by kernel_rfl
theorem Yu(w:World):(Instr.index 220 (.agg CA) (.int .i64 3)).run Tryz.prog w = .ok (nv (opN 3)) w:=by kernel_rfl
theorem Yt(w:World):(Instr.index 220 (.agg CA) (.int .i64 4)).run Tryz.prog w = .ok (nv (opN 4)) w:=by kernel_rfl
theorem Ys(w:World):(Instr.index 220 (.agg CA) (.int .i64 5)).run Tryz.prog w = .ok (nv (opN 5)) w:=by kernel_rfl
theorem Xo(k:Nat)(hk:k<6)(w:World):(Instr.index 220 (.agg CA) (.int .i64 k)).run Tryz.prog w = .ok (nv (opN k)) w:=by
 match k,hk with
 | 0,_=>exact Yx w
 | 1,_=>exact Yw w
 | 2,_=>exact Yv w
 | 3,_=>exact Yu w
 | 4,_=>exact Yt w
 | 5,_=>exact Ys w
theorem Io(k:Nat)(hk:k<6):(opN k).1.length<=1048576:=by
 match k,hk with
 | 0,_=>decide
 | 1,_=>decide
 | 2,_=>decide
 | 3,_=>decide
 | 4,_=>decide
 | 5,_=>decide
theorem V0{i j:Nat}(hi:i<6)(hj:j<6)(h:opN i=opN j):i=j:=by
 have:∀i,i<6 -> ∀j,j<6->opN i=opN j->i=j:=by decide
 exact this i hi j hj h
def nD:Nat->DataW Value
 | 0=>.map []
 | k+1=>(nD k).put (DW (opN k)) (.lit (.int .i64 k))
theorem MW:∀k,IsMap (nD k)
 | 0=>⟨[],rfl⟩
 | k+1=>(MW k).put _ _
theorem Rx{i:Nat}:∀ {k:Nat},k<=6->i<k->has (nD k) (DW (opN i))=true /\ ∀z,(nD k).atKey (DW (opN i)) z = .lit (.int .i64 i)
 | 0,_,h=>absurd h (by omega)
 | k+1,hk,h=>by
  by_cases e:i=k
  ·subst e;exact⟨has_put_same (MW _) (nkl _) _,fun z=>atKey_put_same (MW _) (nkl _) _ _⟩
  ·have hne:DW (opN i)≠DW (opN k):=fun h2=>e (V0 (by omega) (by omega) (MV (Io _ (by omega)) (Io _ (by omega)) h2));obtain⟨h1,h2⟩:=Rx (k:=k) (i:=i) (by omega) (by omega);exact⟨(has_put_other hne _).trans h1,fun z=>(atKey_put_other hne _ _).trans (h2 z)⟩
theorem U6{x:Sp.By×Bool×Bool}(hx:x.1.length<=1048576):∀ {k:Nat},k<=6->(∀i,i<k->x≠opN i)->has (nD k) (DW x)=false
 | 0,_,_=>rfl
 | k+1,hk,h=>by
  have hne:DW x≠DW (opN k):=fun h2=>h k (by omega) (MV hx (Io _ (by omega)) h2);exact (has_put_other hne _).trans (U6 hx (by omega) fun i hi=>h i (by omega))
def Sp.nOf(x:Sp.By×Bool×Bool):Option Nat:=JV.findIdx? (· == x)
theorem Sp.nOf_none{x:Sp.By×Bool×Bool}(h:Sp.nOf x=none)(i:Nat)(hi:i<6):x≠opN i:=by
 rintro rfl;have:∀i,i<6->Sp.nOf (opN i)≠none:=by decide
 exact this i hi h
theorem Sp.nOf_some{x:Sp.By×Bool×Bool}{k:Nat}(h:Sp.nOf x=some k):k<6/\x=opN k:=by
 unfold Sp.nOf at h;obtain⟨h1,h2,_⟩:=List.findIdx?_eq_some_iff_getElem.1 h;have h3:JV[k]=x:=by simpa using h2
 exact⟨h1,by rw[<- h3];unfold opN;simp[List.getD,List.getElem?_eq_getElem h1]⟩
def Sp.findOf(x:Sp.By×Bool×Bool):Option Nat:=(Sp.nOf (x.1,false,false)).orElse fun _=>(Sp.nOf (x.1,x.2.1,false)).orElse fun _=>Sp.nOf (x.1,false,x.2.2)
theorem Sp.findOf_kind(x:Sp.By×Bool×Bool):Sp.findOf x=Sp.Gg x.1 x.2.1 x.2.2:=by
 obtain⟨n,a,b⟩:=x;by_cases h0:n=Sp.Fc
 ·subst h0;revert a b;decide
 by_cases h1:n=Sp.Jy
 ·subst h1;revert a b;decide
 by_cases h2:n=Sp.Es
 ·subst h2;revert a b;decide
 by_cases h3:n=Sp.L7
 ·subst h3;revert a b;decide
 by_cases h4:n=Sp.L8
 ·subst h4;revert a b;decide
 by_cases h5:n=Sp.copy_
 ·subst h5;revert a b;decide
 have e0:(Sp.Fc == n)=false:=by simpa using fun h=>h0 h.symm
 have e1:(Sp.Jy == n)=false:=by simpa using fun h=>h1 h.symm
 have e2:(Sp.Es == n)=false:=by simpa using fun h=>h2 h.symm
 have e3:(Sp.L7 == n)=false:=by simpa using fun h=>h3 h.symm
 have e4:(Sp.L8 == n)=false:=by simpa using fun h=>h4 h.symm
 have e5:(Sp.copy_ == n)=false:=by simpa using fun h=>h5 h.symm
 have pe:∀ (m:Sp.By) (c d e f:Bool),((m,c,d) == (n,e,f))=(m == n && ((c,d) == (e,f))):=fun _ _ _ _ _=>rfl;unfold Sp.findOf Sp.nOf Sp.Gg JV;simp only[List.findIdx?_cons,List.findIdx?_nil,pe,e0,e1,e2,e3,e4,e5,Bool.false_and,Bool.false_eq_true,if_false,if_neg h0,if_neg h1,if_neg h2,if_neg h3,if_neg h4,if_neg h5];rfl
end

section
set_option maxRecDepth 100000
set_option maxHeartbeats 2000000
open Go.RowKit Go.Maps
noncomputable abbrev KE(v:Value):Option (DataW Value×List MemPlace):=plainElem Tryz.prog 176 v
theorem PZ{k:Nat}(hk:k<6):KE (.int .i64 k)=some (.lit (.int .i64 k),[]):=plainElem_int underlying176 (by
 match k,hk with
 | 0,_=>decide
 | 1,_=>decide
 | 2,_=>decide
 | 3,_=>decide
 | 4,_=>decide
 | 5,_=>decide)
theorem YC(w:World):(zeroValue 176).run Tryz.prog w = .ok (.int .i64 0) w:=by kernel_rfl
theorem RO{w:World}(hT:GY w) :
  Calls Tryz.prog 114 #[] w fun e w'=>∃m,e = .returned (.map (some m))/\w.heap.size<=m/\w'.ownsMap Tryz.prog 219 KE m 6 (nD 6)/\Below w.heap.size w w':=by
 have hmm:=@run_makeMap Tryz.prog;have hlt:3<w.heap.size:=by obtain⟨t,fr,e⟩:=hT;exact (Array.getElem?_eq_some_iff.1 e).1
 obtain⟨tt,fz,hg1⟩:=hT;have hba:Below w.heap.size w (w.alloc (.map #[] 0)):=(Below.refl _ _).alloc (Nat.le_refl _) _;have hg2:=(hba.block _ hlt).trans hg1;have H0:=Ab (show Below w.heap.size w (w.alloc (.map #[] 0))/\(w.alloc (.map #[] 0)).ownsMap Tryz.prog 219 KE w.heap.size 0 (nD 0) from⟨hba,World.ownsMap_made w Tryz.prog 219 KE⟩);have HLAW:=Ab TL;clear hg1 hba hlt
 go_enter func114,ntmps114
 go_wp2_with (refine wpList_load_row rfl 220 _ rfl 3 rfl tt _ fz _ hg2 underlying220 rfl (by kernel_rfl) ?_)
 clear hg2
 go_loopw [6] (fun i wr=>∃k:Nat,k<=6/\i = .int .i64 k/\Hid (Below w.heap.size w wr/\wr.ownsMap Tryz.prog 219 KE w.heap.size k (nD k))) (fun i _=>6-(intOf i).toNat)
 case atStart=>exact⟨0,by omega,rfl,H0⟩
 case round =>
  obtain⟨k,hk,rfl,HI⟩:=hrel;by_cases h6:k=6
  ·subst h6
   go_wp2_with (fail)
   go_ret;exact⟨_,rfl,Nat.le_refl _,(Aa HI).2,(Aa HI).1⟩
  ·have hk6:k<6:=by omega
   have hlt2:(k:Int)<6:=by omega
   have hidx:=fun w1=>Xo k hk6 w1;have HKL:=Ab (PP (opN k) (Io k hk6));have HO:=Ab ((Aa HI).2.alloc (.cells #[.string ⟨(opN k).1.toArray⟩,.bool (opN k).2.1,.bool (opN k).2.2] 219));have HN:=Ab (show k<maxLen by unfold maxLen;omega);have HV:=Ab (PZ hk6);have HB:=Ab ((Aa HI).1.alloc (Aa HI).1.size (.cells #[.string ⟨(opN k).1.toArray⟩,.bool (opN k).2.1,.bool (opN k).2.2] 219));unfold nv at hidx;clear HI H0
   go_wp2_with (first|(at_mapUpdate;refine wpList_mapUpdate_own _ rfl _ _ _ 174 rfl 219 176 (Aa HLAW) underlying174 KE w.heap.size k (nD k) rfl (Aa HO) (Aa HN) _ _ _ rfl rfl (Aa HKL) (.lit (.int .i64 k)) [] (Aa HV) ?_))
   intro w6 ho6 hg6;have HO6:=Ab ho6;have HB6:=Ab ((Aa HB).grown hg6 (Aa HB).size (fun j hj=>by cases hj;exact Nat.le_refl _));clear ho6 hg6
   go_wp2_with (fail);exact⟨⟨k+1,by omega,by go_num,Aa HB6,Aa HO6⟩,by simp[intOf];omega⟩
def en(x:Sp.By×Bool×Bool)(j:Nat):Sp.By×Bool×Bool:=if j=0 then (x.1,false,false) else if j=1 then (x.1,x.2.1,false) else (x.1,false,x.2.2)
def enC(s:ByteArray)(a b:Bool):Array Value:=#[.string s,.bool false,.bool false,.string s,.bool a,.bool false,.string s,.bool false,.bool b]
theorem Y9(s:ByteArray)(a b:Bool)(w:World):(Instr.index 259 (.agg (enC s a b)) (.int .i64 0)).run Tryz.prog w = .ok (.agg #[.string s,.bool false,.bool false]) w:=by kernel_rfl
theorem Y8(s:ByteArray)(a b:Bool)(w:World):(Instr.index 259 (.agg (enC s a b)) (.int .i64 1)).run Tryz.prog w = .ok (.agg #[.string s,.bool a,.bool false]) w:=by kernel_rfl
theorem Y7(s:ByteArray)(a b:Bool)(w:World):(Instr.index 259 (.agg (enC s a b)) (.int .i64 2)).run Tryz.prog w = .ok (.agg #[.string s,.bool false,.bool b]) w:=by kernel_rfl
theorem XY(x:Sp.By×Bool×Bool)(j:Nat)(hj:j<3)(w:World):(Instr.index 259 (.agg (enC ⟨x.1.toArray⟩ x.2.1 x.2.2)) (.int .i64 j)).run Tryz.prog w = .ok (nv (en x j)) w:=by
 match j,hj with
 | 0,_=>exact Y9 _ _ _ w
 | 1,_=>exact Y8 _ _ _ w
 | 2,_=>exact Y7 _ _ _ w
theorem Sh{x:Sp.By×Bool×Bool}{j:Nat}(h:x.1.length<=1048576):(en x j).1.length<=1048576:=by unfold en;split;exact h;split<;>exact h
theorem Qa{x:Sp.By×Bool×Bool}{j k:Nat}(hj:j<3)(h:∀q,q<j->Sp.nOf (en x q)=none)(hk:Sp.nOf (en x j)=some k):Sp.findOf x=some k:=by
 unfold Sp.findOf
 match j,hj with
 | 0,_=>rw[show Sp.nOf (x.1,false,false)=some k from hk];rfl
 | 1,_=>rw[show Sp.nOf (x.1,false,false)=none from h 0 (by omega),show Sp.nOf (x.1,x.2.1,false)=some k from hk];rfl
 | 2,_=>rw[show Sp.nOf (x.1,false,false)=none from h 0 (by omega),show Sp.nOf (x.1,x.2.1,false)=none from h 1 (by omega),show Sp.nOf (x.1,false,x.2.2)=some k from hk];rfl
theorem Oa{x:Sp.By×Bool×Bool}(h:∀q,q<3->Sp.nOf (en x q)=none):Sp.findOf x=none:=by
 unfold Sp.findOf;rw[show Sp.nOf (x.1,false,false)=none from h 0 (by omega),show Sp.nOf (x.1,x.2.1,false)=none from h 1 (by omega),show Sp.nOf (x.1,false,x.2.2)=none from h 2 (by omega)];rfl
def Ma(r:Option Nat):Value:=.tuple #[.int .i64 (r.getD 0:Nat),.bool r.isSome]
theorem Hs{w w':World}{m n:Nat}{D:DataW Value}(h:w.ownsMap Tryz.prog 219 KE m n D)(hk:w'.heap[m]? = w.heap[m]?):w'.ownsMap Tryz.prog 219 KE m n D:=by
 obtain⟨es,clock,hb,r⟩:=h;exact⟨es,clock,hk.trans hb,r⟩
theorem Ur{w:World}{m:Nat}{x:Sp.By×Bool×Bool}(ho:w.ownsMap Tryz.prog 219 KE m 6 (nD 6))(hx:x.1.length<=1048576) :
  Calls Tryz.prog 150 #[.map (some m),nv x] w fun e w'=>e = .returned (Ma (Sp.findOf x))/\Below w.heap.size w w':=by
 obtain⟨R,hR⟩:∃R,R=Ma (Sp.findOf x):=⟨_,rfl⟩
 rw[<- hR];have HR:=Ab hR;have HLAW:=Ab TL;have HO:=Ab ho;have HX:=Ab hx;have hml:m<w.heap.size:=by obtain⟨es,clock,hb,_⟩:=ho;exact (Array.getElem?_eq_some_iff.1 hb).1
 have HML:=Ab hml;have HKZ:=Ab (fun w=>YC w);have HIX:=Ab (fun j hj w=>XY x j hj w);unfold enC at HIX;unfold nv;generalize (⟨x.1.toArray⟩:ByteArray)=sx at *;obtain⟨va,hva⟩:∃va,va=x.2.1:=⟨_,rfl⟩
 obtain⟨vb,hvb⟩:∃vb,vb=x.2.2:=⟨_,rfl⟩
 rw[<- hva,<- hvb] at HIX |-;clear hR ho hx hml hva hvb
 go_enter func150,ntmps150
 go_wp2_with (fail)
 go_loopw [26] (fun i wr=>∃j:Nat,j<=3/\i = .int .i64 j/\Hid (Below w.heap.size w wr /\ ∀q,q<j->Sp.nOf (en x q)=none)) (fun i _=>3-(intOf i).toNat)
 case atStart=>exact⟨0,by omega,rfl,((Below.refl _ _).alloc (Nat.le_refl _) _).alloc (by simp) _,fun q hq=>absurd hq (by omega)⟩
 case round =>
  obtain⟨j,hj,rfl,HI⟩:=hrel;by_cases h3:j=3
  ·subst h3;have HV:=Ab (show R=Ma none by rw[Aa HR,Oa (Aa HI).2])
   go_wp2_with (fail)
   go_ret2
   exact⟨by rw[Aa HV];rfl,(Aa HI).1⟩
  ·have hj3:j<3:=by omega
   have hlt2:(j:Int)<3:=by omega
   have hidx:=fun w1=>Aa HIX j hj3 w1;unfold nv at hidx;have HKL:=Ab (PP (en x j) (Sh (Aa HX)));have HB:=Ab ((Aa HI).1.alloc (Aa HI).1.size (.cells #[.string ⟨(en x j).1.toArray⟩,.bool (en x j).2.1,.bool (en x j).2.2] 219));have HOO:=Ab (Hs (Aa HO) ((Aa HB).block m (Aa HML)));cases hn:Sp.nOf (en x j) with
   | none =>
    have HH:=Ab (U6 (k:=6) (Sh (j:=j) (Aa HX)) (Nat.le_refl _) fun i hi=>Sp.nOf_none hn i hi);have HNEXT:=Ab (show ∀q,q<j+1->Sp.nOf (en x q)=none from fun q hq=>if e:q=j then e▸hn else (Aa HI).2 q (by omega));clear hn HI
    go_wp2_with (first|(at_lookup;refine wpList_lookup_own_ok _ rfl _ _ 174 rfl 219 176 (Aa HLAW) underlying174 KE (Aa HKZ _) (.lit (.int .i64 0)) [] (PZ (k:=0) (by omega)) m 6 (nD 6) rfl (Aa HOO) _ _ rfl (Aa HKL) ?_;intro v2 ps2 hv2;clear hv2;rw[Aa HH]))
    exact⟨⟨j+1,by omega,by go_num,Aa HB,Aa HNEXT⟩,by simp[intOf];omega⟩
   | some k =>
    obtain⟨hk6,hek⟩:=Sp.nOf_some hn;obtain⟨hh,hat⟩:=Rx (k:=6) (i:=k) (Nat.le_refl _) hk6;rw[<- hek] at hh hat
    have HV:=Ab (show R = .tuple #[.int .i64 k,.bool true] by rw[Aa HR,Qa hj3 (Aa HI).2 hn];rfl);have HH:=Ab hh;have HAT:=Ab (fun (v:Value) (ps:List MemPlace) (h:KE v=some ((nD 6).atKey (DW (en x j)) (.lit (.int .i64 0)),ps))=>(show v = .int .i64 k from by
     obtain⟨c,e1,e2,_⟩:=plainElem_int_inv underlying176 h;have e3:=congrArg Prod.fst e2;simp only[hat] at e3;rw[e1];injection e3 with e3;injection e3 with _ e3;rw[e3]))
    clear hn HI hek hh hat
    go_wp2_with (first|(at_lookup;refine wpList_lookup_own_ok _ rfl _ _ 174 rfl 219 176 (Aa HLAW) underlying174 KE (Aa HKZ _) (.lit (.int .i64 0)) [] (PZ (k:=0) (by omega)) m 6 (nD 6) rfl (Aa HOO) _ _ rfl (Aa HKL) ?_;intro v2 ps2 hv2;obtain rfl:=Aa HAT _ _ hv2;clear hv2;rw[Aa HH]))
    go_ret2
    exact⟨by rw[Aa HV];rfl,Aa HB⟩
end
end Go.Proofs.YtdpomdelmdofmaaGreatDoor
