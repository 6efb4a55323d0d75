import Derived.Test.YtdpomdelmdofmaaGreatDoorUnd11
import Derived.Lib.ValidU
import Derived.Shelf.LaysC
import Derived.Shelf.Strings.Split
import Derived.Shelf.Strings.SlTrimAscii
import Derived.Shelf.Strconv.AtoiAll
import Derived.Shelf.Unicode.ValidAny
namespace Go.Proofs.YtdpomdelmdofmaaGreatDoor
open Go.Proofs.Tryz
open Go.Maps
def Sp.Hd(l:Sp.By):Prop:=∃c t,l=c::t/\Sp.isB c=false/\c≠93/\c≠125
theorem Sp.Hd.skB{l:Sp.By}(h:Sp.Hd l)(r:Sp.By):Sp.skB (l++r)=l++r:=by
 obtain⟨c,t,rfl,hb,_⟩:=h;simp[Sp.skB,hb]
theorem Sp.Hd.tk{l:Sp.By}(h:Sp.Hd l)(r:Sp.By){k:UInt8}(hk:k=93\/k=125):Sp.tk (l++r) k=false:=by
 obtain⟨c,t,rfl,_,h1,h2⟩:=h;rw[List.cons_append,Dr,beq_eq_false_iff_ne];rcases hk with rfl|rfl
 ·exact h1
 ·exact h2
theorem XC{c:UInt8}(h:Sp.isD c=true):Sp.isB c=false/\c≠93/\c≠125:=by
 refine⟨?_,?_,?_⟩
 ·have h1:48<=c.toNat:=by unfold Sp.isD at h;simp at h;omega
  unfold Sp.isB;simp only[Bool.or_eq_false_iff,beq_eq_false_iff_ne];refine⟨⟨⟨?_,?_⟩,?_⟩,?_⟩;all_goals (rintro rfl;simp at h1)
 ·rintro rfl;exact absurd h (by decide)
 ·rintro rfl;exact absurd h (by decide)
theorem OW{n:Sp.Nm}(hg:Sp.Gn n):∃c t,Sp.A6 n=c::t/\(c=45\/Sp.isD c=true):=by
 rcases hg with rfl|⟨hne,hd,_⟩
 ·exact⟨48,[],rfl,Or.inr (by decide)⟩
 ·obtain⟨ng,ds,ex⟩:=n;simp only at hne hd;unfold Sp.A6;rw[if_neg hne];cases ng with
  | true=>exact⟨45,_,rfl,Or.inl rfl⟩
  | false =>
   cases ds with
   | nil=>exact absurd rfl hne
   | cons c t=>exact⟨c,_,rfl,Or.inr (hd c (by simp))⟩
theorem P9{d x:Int}{f:Nat}{lv:Int}{v:Sp.V}(h:Sp.gd d x f lv v):Sp.Hd (Sp.can f v):=by
 cases f with
 | zero=>cases h
 | succ f =>
  obtain⟨_,⟨k,hk,rfl⟩|⟨s,_,rfl⟩|⟨n,hn,_,_,rfl⟩|⟨es,_,rfl⟩|⟨es,_,_,rfl⟩⟩:=h
  ·rw[Sp.GU]
   match k,hk with
   | 0,_=>exact⟨110,_,rfl,by decide,by decide,by decide⟩
   | 1,_=>exact⟨116,_,rfl,by decide,by decide,by decide⟩
   | 2,_=>exact⟨102,_,rfl,by decide,by decide,by decide⟩
  ·rw[Sp.Gs];exact⟨34,_,rfl,by decide,by decide,by decide⟩
  ·rw[Sp.IC];obtain⟨c,t,e,hc⟩:=OW hn;refine⟨c,t,e,?_⟩;rcases hc with rfl|hc
   ·exact⟨by decide,by decide,by decide⟩
   ·exact XC hc
  ·rw[Sp.CP];exact⟨91,_,rfl,by decide,by decide,by decide⟩
  ·rw[Sp.IB];exact⟨123,_,rfl,by decide,by decide,by decide⟩
theorem TN{cl:UInt8}(h:cl=93\/cl=125)(r:Sp.By):Sp.Nd (cl::r):=by
 intro c t e;injection e with e1 e2;subst e1;rcases h with rfl|rfl
 ·exact⟨by decide,by decide,by decide,by decide⟩
 ·exact⟨by decide,by decide,by decide,by decide⟩
theorem TM(r:Sp.By):Sp.Nd (44::r):=by
 intro c t e;injection e with e1 e2;subst e1;exact⟨by decide,by decide,by decide,by decide⟩
theorem KZ{cl:UInt8}(h:cl=93\/cl=125)(r:Sp.By):Sp.skB (cl::r)=cl::r:=by
 rcases h with rfl|rfl
 ·rfl
 ·rfl
theorem TX{σ:Type}(cl:UInt8)(hcl:cl=93\/cl=125)(item:Sp.By->σ->Option (Sp.By×σ))(P:Nat->σ->Prop)(r:Sp.By):∀ (xs:List Sp.By) (k:Nat) (s:σ) (n:Nat),
  (∀i (h:i<xs.length) s rest,P (k+i) s->Sp.Nd rest -> ∃s',item (xs[i]++rest) s=some (rest,s')/\P (k+i+1) s')->(∀y∈xs,Sp.Hd y)->xs≠[]->xs.length<=n->P k s ->
  ∃s',Sp.lst cl item n (Sp.Ai xs++cl::r) s=some (r,s')/\P (k+xs.length) s':=by
 intro xs;induction xs with
 | nil=>intro k s n _ _ h;exact absurd rfl h
 | cons y ys ih =>
  intro k s n hit hhd _ hn hP
  match n,hn with
  | n+1,hn =>
   have hy:=hhd y (by simp);have e1:Sp.Ai (y::ys)++cl::r=y++(Sp.Bt ys++cl::r):=by simp[Sp.Ai]
   rw[e1];unfold Sp.lst;rw[hy.skB];cases ys with
   | nil =>
    obtain⟨s',h1,h2⟩:=hit 0 (by simp) s (cl::r) hP (TN hcl r);simp only[List.getElem_cons_zero] at h1;simp only[Sp.Bt,List.nil_append];rw[h1];simp only;rw[KZ hcl,if_pos (by rw[Dr];simp)];exact⟨s',rfl,h2⟩
   | cons z zs =>
    have e2:Sp.Bt (z::zs)++cl::r=44::(Sp.Ai (z::zs)++cl::r):=by simp[Sp.Bt,Sp.Ai]
    rw[e2];obtain⟨s',h1,h2⟩:=hit 0 (by simp) s (44::(Sp.Ai (z::zs)++cl::r)) hP (TM _);simp only[List.getElem_cons_zero] at h1;rw[h1];simp only;have e3:Sp.skB (44::(Sp.Ai (z::zs)++cl::r))=44::(Sp.Ai (z::zs)++cl::r):=rfl;have e4:Sp.tk (44::(Sp.Ai (z::zs)++cl::r)) cl=false:=by
     rw[Dr];rcases hcl with rfl|rfl
     ·rfl
     ·rfl
    rw[e3,e4,if_neg (by decide),if_pos (by rfl),List.tail_cons];obtain⟨s2,h3,h4⟩:=ih (k+1) s' n (fun i hi s rest hp hr=>by
     have:=hit (i+1) (by simpa using hi) s rest (by rw[show k+(i+1)=k+1+i by omega];exact hp) hr;simp only[List.getElem_cons_succ] at this;rw[show k+1+i=k+(i+1) by omega];exact this) (fun y hy=>hhd y (by simp[hy])) (by simp) (by simp at hn |-; omega) h2
    exact⟨s2,h3,by rw[show k+(y::z::zs).length=k+1+(z::zs).length by simp;omega];exact h4⟩
theorem Jm(xs:List Sp.By)(h:∀y∈xs,Sp.Hd y):xs.length<=(Sp.Ai xs).length:=by
 have hr:∀ys:List Sp.By,ys.length<=(Sp.Bt ys).length:=by
  intro ys;induction ys with
  | nil=>simp
  | cons y r ih=>simp[Sp.Bt];omega
 cases xs with
 | nil=>simp
 | cons y r =>
  obtain⟨c,t,e,_⟩:=h y (by simp);have:=hr r;simp[Sp.Ai,e];omega
theorem IM{σ:Type}(op cl:UInt8)(hcl:cl=93\/cl=125)(item:Sp.By->σ->Option (Sp.By×σ))(P:Nat->σ->Prop)(r:Sp.By)(xs:List Sp.By)(s:σ)
  (hit:∀i (h:i<xs.length) s rest,P i s->Sp.Nd rest -> ∃s',item (xs[i]++rest) s=some (rest,s')/\P (i+1) s') (hhd:∀y∈xs,Sp.Hd y) (hP:P 0 s) :
  ∃s',Sp.Bh op cl item (op::(Sp.Ai xs++cl::r)) s=some (r,s')/\P xs.length s':=by
 unfold Sp.Bh;rw[if_pos (by rw[Dr];simp),List.tail_cons];cases xs with
 | nil =>
  rw[show Sp.Ai []++cl::r=cl::r from rfl,KZ hcl,if_pos (by rw[Dr];simp),List.tail_cons];exact⟨s,rfl,hP⟩
 | cons y ys =>
  have hy:=hhd y (by simp);have e1:Sp.Ai (y::ys)++cl::r=y++(Sp.Bt ys++cl::r):=by simp[Sp.Ai]
  have e2:Sp.skB (Sp.Ai (y::ys)++cl::r)=Sp.Ai (y::ys)++cl::r:=by rw[e1,hy.skB]
  have e3:Sp.tk (Sp.Ai (y::ys)++cl::r) cl=false:=by rw[e1];exact hy.tk _ hcl
  rw[e2,e3,if_neg (by decide)];have hj:=Jm (y::ys) hhd;obtain⟨s',h1,h2⟩:=TX cl hcl item P r (y::ys) 0 s ((Sp.Ai (y::ys)++cl::r).length+1) (fun i hi s rest hp hr=>by
   rw[Nat.zero_add] at hp |-;exact hit i hi s rest hp hr) hhd (by simp) (by rw[List.length_append];omega) hP
  rw[Nat.zero_add] at h2;exact⟨s',h1,h2⟩
theorem E2:∀ (a b:Sp.By),bytesBefore a b=true->a<b
 | [],[],h=>by simp[bytesBefore] at h
 | _::_,[],h=>by simp[bytesBefore] at h
 | [],_::_,_=>List.nil_lt_cons _ _
 | a::r,b::s,h=>by
  simp only[bytesBefore,Bool.or_eq_true,Bool.and_eq_true,decide_eq_true_eq,beq_iff_eq] at h;rw[List.cons_lt_cons_iff];rcases h with h|⟨h1,h2⟩
  ·exact Or.inl h
  ·exact Or.inr ⟨h1,E2 r s h2⟩
theorem MA{es:List (Lit×Sp.V)}(hp:es.Pairwise (fun p q=>p.1.before q.1=true))(hk:∀p∈es,∃s,p.1 = .string s):(Sp.keys es).mergeSort (fun a b=>decide (a<=b))=Sp.keys es:=by
 apply List.mergeSort_of_pairwise;unfold Sp.keys;rw[List.pairwise_map];refine (List.Pairwise.and_mem.1 hp).imp ?_;rintro p q ⟨h1,h2,h3⟩;obtain⟨s,hs⟩:=hk p h1;obtain⟨t,ht⟩:=hk q h2;rw[hs,ht] at h3 |-;simp only[decide_eq_true_eq];exact List.le_of_lt (E2 s t h3)
theorem K6{es:List (Lit×Sp.V)}(hp:es.Pairwise (fun p q=>p.1.before q.1=true))(hk:∀p∈es,∃s,p.1 = .string s):es.Pairwise (fun p q=>p.1≠q.1):=by
 refine (List.Pairwise.and_mem.1 hp).imp ?_;rintro p q ⟨h1,h2,h3⟩ e;obtain⟨s,hs⟩:=hk p h1;rw[<- e,hs] at h3;have:=WideAt.bytes_irrefl s;rw[show (Lit.string s).before (Lit.string s)=bytesBefore s s from rfl,this] at h3;cases h3
def Sp.entT(f:Nat)(p:Lit×Sp.V):Sp.By:=Sp.Ah (strOf p.1)++58::Sp.can f p.2
theorem GD{f:Nat}{es:List (Lit×Sp.V)}(hp:es.Pairwise (fun p q=>p.1.before q.1=true))(hk:∀p∈es,∃s,p.1 = .string s):Sp.can (f+1) (Sp.Av es)=123::(Sp.Ai (es.map (Sp.entT f))++[125]):=by
 rw[Sp.IB,MA hp hk];have:(Sp.keys es).map (fun k=>Sp.Ah k++58::Sp.can f (Sp.look es k))=es.map (Sp.entT f):=by
  unfold Sp.keys;rw[List.map_map];apply List.map_congr_left;intro p hpm;obtain⟨s,hs⟩:=hk p hpm;have h2:Sp.look es s=p.2:=by
   unfold Sp.look;exact WideAt.atKey_mem .nil trivial (K6 hp hk) (by rw[<- hs];exact hpm)
  obtain⟨k,v⟩:=p;simp only at hs h2;subst hs;simp only[Function.comp,Sp.entT,strOf];rw[h2]
 rw[this]
theorem FZ{x:Lit×Sp.V}{l:List (Lit×Sp.V)}(h:∀p∈l,x.1.before p.1=false):DataW.insert x l=l++[x]:=by
 induction l with
 | nil=>rfl
 | cons y r ih =>
  unfold DataW.insert;rw[h y (by simp),if_neg (by decide),ih (fun p hp=>h p (by simp[hp]))];rfl
end Go.Proofs.YtdpomdelmdofmaaGreatDoor

namespace Go.Proofs.YtdpomdelmdofmaaGreatDoor
open Go.Proofs.Tryz
open Go.Maps
theorem Gb{d x lv:Int}{fl:Sp.Fl}{e:Int}(hlv:lv<=d)(h:Sp.OkF d x fl)(he:e<=x):Sp.OkF d x (fl.1,(max fl.2.1 lv,e)):=by
 obtain⟨h1,h2,h3⟩:=h;exact⟨h1,by simp only;omega,he⟩
theorem NL{p q:Lit×Sp.V}(hp:∃s,p.1 = .string s)(hq:∃s,q.1 = .string s)(h:p.1.before q.1=true):q.1.before p.1=false:=by
 obtain⟨s,hs⟩:=hp;obtain⟨t,ht⟩:=hq;rw[hs,ht] at h |-;cases hb:(Lit.string t).before (Lit.string s) with
 | false=>rfl
 | true =>
  have:=Go.WideShapes.bytes_trans s t s h hb;rw[WideAt.bytes_irrefl] at this;cases this
theorem Ty{es:List (Lit×Sp.V)}(hp:es.Pairwise (fun p q=>p.1.before q.1=true))(hk:∀p∈es,∃s,p.1 = .string s){i:Nat}(hi:i<es.length){k:Sp.By}(hki:es[i].1 = .string k) :
  DataW.put (Sp.Av (es.take i)) (.string k) es[i].2=Sp.Av (es.take (i+1))/\Maps.has (Sp.Av (es.take i)) (.string k)=false:=by
 have hb:∀p∈es.take i,p.1.before es[i].1=true:=by
  intro p hpm;obtain⟨j,hj,e⟩:=List.getElem_of_mem hpm;rw[List.length_take] at hj;rw[List.getElem_take] at e;rw[<- e];exact List.pairwise_iff_getElem.1 hp j i (by omega) hi (by omega)
 have hks:∀p∈es.take i,∃s,p.1 = .string s:=fun p h=>hk p (List.mem_of_mem_take h);have hns:∀p∈es.take i,p.1.sameKey (.string k)=false:=by
  intro p hpm;have h1:=hb p hpm;obtain⟨s,hs⟩:=hks p hpm;rw[hki,hs] at h1;rw[hs];show (s == k)=false;rw[beq_eq_false_iff_ne];rintro rfl;rw[show (Lit.string s).before (Lit.string s)=bytesBefore s s from rfl,WideAt.bytes_irrefl] at h1;cases h1
 have hfil:((es.take i).filter fun p=>!p.1.sameKey (.string k))=es.take i:=List.filter_eq_self.2 fun p hpm=>by rw[hns p hpm];rfl
 constructor
 ·simp only[Sp.Av,DataW.put,hfil];rw[FZ (fun p hpm=>by
   have:=NL (p:=p) (q:=es[i]) (hks p hpm) ⟨k,hki⟩ (hb p hpm);rw[hki] at this;exact this),List.take_succ_eq_append_getElem hi]
  congr 2;rw[<- hki]
 ·simp only[Sp.Av,Maps.has];rw[List.any_eq_false];intro p hpm;rw[hns p hpm];decide
theorem Vr{d x:Int}(hx:x<=1000000)(f:Nat):∀ (lv:Int) (v:Sp.V),Sp.gd d x f lv v -> ∀ (fl:Sp.Fl) (r:Sp.By),Sp.Nd r -> ∃fl',Sp.val f lv (Sp.can f v++r) fl=some (v,r,fl')/\(Sp.OkF d x fl->Sp.OkF d x fl'):=by
 induction f with
 | zero=>intro lv v h;cases h
 | succ f ih =>
  intro lv v h fl r hr;obtain⟨hlv,⟨k,hk,rfl⟩|⟨s,hs,rfl⟩|⟨n,hn,hn1,hn2,rfl⟩|⟨es,hes,rfl⟩|⟨es,hp,hes,rfl⟩⟩:=h
  ·refine⟨(fl.1,(max fl.2.1 lv,fl.2.2)),?_,fun ho=>Gb hlv ho ho.2.2⟩;rw[Sp.GU]
   match k,hk with
   | 0,_=>rfl
   | 1,_=>rfl
   | 2,_=>rfl
  ·refine⟨(fl.1,(max fl.2.1 lv,fl.2.2)),?_,fun ho=>Gb hlv ho ho.2.2⟩;rw[Sp.Gs];have hq:=MF hs r;have hpk:Sp.pk (Sp.Ah s++r)=34:=rfl;unfold Sp.val;rw[hpk,if_neg (by decide),if_neg (by decide),if_pos rfl,hq]
  ·refine⟨(fl.1,(max fl.2.1 lv,max (max fl.2.2 n.2.2) (-n.2.2))),?_,fun ho=>Gb hlv ho (by have:=ho.2.2;omega)⟩;rw[Sp.IC];have hq:=TH hn ⟨by omega,by omega⟩ r hr;obtain⟨c,t,e,hc⟩:=OW hn;have hpk:Sp.pk (Sp.A6 n++r)=c.toNat:=by rw[e];rfl
   have hcc:c.toNat=45\/(48<=c.toNat/\c.toNat<=57):=by
    rcases hc with rfl|hc
    ·exact Or.inl rfl
    ·unfold Sp.isD at hc;simp at hc;exact Or.inr hc
   unfold Sp.val;rw[hpk,if_neg (by omega),if_neg (by omega),if_neg (by omega),if_pos hcc,hq]
  ·have hj:=IM (σ:=List Sp.V×Sp.Fl) 91 93 (Or.inl rfl) (Sp.C7 (Sp.val f (lv+1))) (fun i s=>s.1=es.take i/\(Sp.OkF d x fl->Sp.OkF d x s.2)) r (es.map (Sp.can f)) ([],(fl.1,(max fl.2.1 lv,fl.2.2))) (by
    rintro i hi ⟨a,fl1⟩ rest ⟨ha,hf⟩ hrest;rw[List.length_map] at hi;simp only at ha hf;subst ha;rw[List.getElem_map];obtain⟨fl2,h1,h2⟩:=ih (lv+1) es[i] (hes _ (List.getElem_mem hi)) fl1 rest hrest;unfold Sp.C7;simp only;rw[h1];exact⟨_,rfl,(List.take_succ_eq_append_getElem hi).symm,fun ho=>h2 (hf ho)⟩) (by
    intro y hy;obtain⟨e,he,rfl⟩:=List.mem_map.1 hy;exact P9 (hes e he)) ⟨by simp,fun ho=>Gb hlv ho ho.2.2⟩
   obtain⟨⟨es',fl'⟩,h1,h2,h3⟩:=hj;rw[List.length_map,List.take_length] at h2;simp only at h2 h3;subst h2;refine⟨fl',?_,h3⟩;rw[Sp.CP];have e1:91::(Sp.Ai (es'.map (Sp.can f))++[93])++r=91::(Sp.Ai (es'.map (Sp.can f))++93::r):=by simp
   rw[e1];unfold Sp.val;rw[show Sp.pk (91::(Sp.Ai (es'.map (Sp.can f))++93::r))=91 from rfl,if_neg (by decide),if_pos rfl,h1]
  ·have hk:∀p∈es,∃s,p.1 = .string s:=fun p hpm=>let ⟨⟨s,hs,_⟩,_⟩:=hes p hpm; ⟨s,hs⟩
   have hj:=IM (σ:=Sp.V×Sp.Fl) 123 125 (Or.inr rfl) (Sp.CJ (Sp.val f (lv+1))) (fun i s=>s.1=Sp.Av (es.take i)/\(Sp.OkF d x fl->Sp.OkF d x s.2)) r (es.map (Sp.entT f)) (Sp.Av [],(fl.1,(max fl.2.1 lv,fl.2.2))) (by
    rintro i hi ⟨a,fl1⟩ rest ⟨ha,hf⟩ hrest;rw[List.length_map] at hi;simp only at ha hf;subst ha;rw[List.getElem_map];obtain⟨⟨k,hki,hut⟩,hg⟩:=hes es[i] (List.getElem_mem hi);obtain⟨fl2,h1,h2⟩:=ih (lv+1) es[i].2 hg fl1 rest hrest;obtain⟨q1,q2⟩:=Ty hp hk hi hki;have e1:Sp.entT f es[i]++rest=Sp.Ah k++(58::(Sp.can f es[i].2++rest)):=by
     unfold Sp.entT;rw[hki];simp[strOf]
    rw[e1];unfold Sp.CJ;rw[MF hut];simp only;rw[show Sp.skB (58::(Sp.can f es[i].2++rest))=58::(Sp.can f es[i].2++rest) from rfl,if_pos (by rfl),List.tail_cons,(P9 hg).skB,h1];simp only;rw[q1,q2,Bool.or_false];exact⟨_,rfl,rfl,fun ho=>h2 (hf ho)⟩) (by
    intro y hy;obtain⟨e,he,rfl⟩:=List.mem_map.1 hy;exact⟨34,_,rfl,by decide,by decide,by decide⟩) ⟨rfl,fun ho=>Gb hlv ho ho.2.2⟩
   obtain⟨⟨v',fl'⟩,h1,h2,h3⟩:=hj;rw[List.length_map,List.take_length] at h2;simp only at h2 h3;subst h2;refine⟨fl',?_,h3⟩;rw[GD hp hk];have e1:123::(Sp.Ai (es.map (Sp.entT f))++[125])++r=123::(Sp.Ai (es.map (Sp.entT f))++125::r):=by simp
   rw[e1];unfold Sp.val;rw[show Sp.pk (123::(Sp.Ai (es.map (Sp.entT f))++125::r))=123 from rfl,if_pos rfl,h1]
theorem CI{t:Sp.By}{d x:Int}{v:Sp.V}(h:Sp.readTo t d x=(0,some v)):Sp.gd d x top 1 v:=by
 unfold Sp.readTo at h;split at h
 ·injection h with h1 h2;cases h2
 ·split at h
  ·injection h with h1 h2;cases h2
  ·rename_i v2 r fl hv;split at h
   ·split at h
    ·injection h with h1 h2;cases h2
    ·rename_i k1;split at h
     ·injection h with h1 h2;cases h2
     ·rename_i k2;split at h
      ·injection h with h1 h2;cases h2
      ·rename_i k3;injection h with h1 h2;injection h2 with h2;subst h2;exact (WW d x _ _ _ _ _ _ _ hv ⟨by simpa using k1,by omega,by omega⟩).2
   ·injection h with h1 h2;cases h2
theorem Xf{d x:Int}{v:Sp.V}(hg:Sp.gd d x top 1 v)(hx0:0<=x)(hx:x<=1000000)(a b:Sp.By)(ha:∀l,Sp.skB (a++l)=Sp.skB l)(hb:Sp.skB b=[])(hnd:Sp.Nd b)(hl:(a++(Sp.can top v++b)).length<=2000) :
  Sp.readTo (a++(Sp.can top v++b)) d x=(0,some v):=by
 have hd0:1<=d:=by
  have hgg:∀f,Sp.gd d x f 1 v->1<=d:=by
   intro f h;cases f with
   | zero=>cases h
   | succ f=>exact h.1
  exact hgg top hg
 obtain⟨fl',h1,h2⟩:=Vr hx top 1 v hg (false,(0,0)) b hnd;obtain⟨k1,k2,k3⟩:=h2 ⟨rfl,by simp only;omega,hx0⟩;rw[IH (by omega) (by rw[ha,(P9 hg).skB];exact h1),hb,if_pos (show ([]:Sp.By).isEmpty=true from rfl),k1,if_neg (by decide),if_neg (by omega),if_neg (by omega)]
end Go.Proofs.YtdpomdelmdofmaaGreatDoor

namespace Go.Proofs.YtdpomdelmdofmaaGreatDoor
open Go.Proofs.Tryz
open Go.RowKit Go.Maps
namespace Sp
def dgs:By:=[48,49,50,51,52,53,54,55,56,57]
def ixf(acc:Nat)(l:By):Nat:=l.foldl (fun a c=>a*10+(c.toNat-48)) acc
def idx(t:By):Option Nat :=
 if t=[]\/(1<t.length/\t[0]? = some 48)\/t.all (dgs.contains ·)=false then none else some (min (ixf 0 t) 9223372036854775807)
theorem Jn{t:By}(h:t=[]\/(1<t.length/\t[0]? = some 48)\/t.all (dgs.contains ·)=false):idx t=none:=by unfold idx;rw[if_pos h]
theorem Nc{t:By}(h:¬ (t=[]\/(1<t.length/\t[0]? = some 48)\/t.all (dgs.contains ·)=false)):idx t=some (min (ixf 0 t) 9223372036854775807):=by unfold idx;rw[if_neg h]
theorem Pg(b:UInt8)(h:dgs.contains b=true):48<=b.toNat/\b.toNat<=57:=by
 simp only[dgs,List.contains_eq_mem,List.mem_cons,List.not_mem_nil,or_false,decide_eq_true_eq] at h;rcases h with rfl|rfl|rfl|rfl|rfl|rfl|rfl|rfl|rfl|rfl<;>decide
end Sp
namespace Sp
def Aj(d:V)(t:By):Except Nat V:=match d with
 | .map es=>if Maps.has (.map es:V) (.string t)=true then .ok ((DataW.map es).atKey (.string t) .nil) else .error 11
 | .slice es _=>match idx t with
  | none=>.error 12
  | some i=>match es[i]? with
   | some e=>.ok e
   | none=>.error 11
 | _=>.error 11
end Sp
namespace Sp
def Ag(d:V):List By->Except Nat V
 | []=>.ok d
 | t::r=>match Aj d t with
  | .ok e=>Ag e r
  | .error c=>.error c
end Sp
namespace Sp
def une:By->Option By
 | []=>some []
 | c::r=>if c=126 then (match r with
  | 48::q=>(une q).map (126 :: ·)
  | 49::q=>(une q).map (47 :: ·)
  | _=>none)
  else (une r).map (c :: ·)
theorem Ee(c:UInt8)(r:By):une (c::r)=if c=126 then (match r with
  | 48::q=>(une q).map (126 :: ·)
  | 49::q=>(une q).map (47 :: ·)
  | _=>none)
  else (une r).map (c :: ·):=by
 match r with
 | []=>rfl
 | b::q =>
  by_cases h0:b=48
  ·subst h0;rfl
  ·by_cases h1:b=49
   ·subst h1;rfl
   ·conv=>lhs;unfold une
    rfl
def ahd(l:By):By:=l.takeWhile (fun c=>c != 126)
end Sp
namespace Sp
def pcs:By->List By
 | []=>[[]]
 | c::r=>if c=47 then []::pcs r else match pcs r with
  | p::ps=>(c::p)::ps
  | []=>[[c]]
def ahs(l:By):By:=l.takeWhile (fun c=>c != 47)
def keysOf:List By->Option (List By)
 | []=>some []
 | t::r=>match une t with
  | none=>none
  | some k=>(keysOf r).map (k :: ·)
def toks(l:By):Option (List By):=if Lib.validD l=true then (match pcs l with
 | []::r=>keysOf r
 | _=>none) else none
end Sp
noncomputable def veq(a b:Sp.V):Bool:=@decide (a=b) (Classical.propDecidable _)
theorem FI{a b:Sp.V}(h:a=b):veq a b=true:=by unfold veq;exact @decide_eq_true _ (Classical.propDecidable _) h
theorem Ed{a b:Sp.V}(h:a≠b):veq a b=false:=by unfold veq;exact @decide_eq_false _ (Classical.propDecidable _) h
end Go.Proofs.YtdpomdelmdofmaaGreatDoor

namespace Go.Proofs.YtdpomdelmdofmaaGreatDoor
open Go.Proofs.Tryz
open Go.RowKit Go.Maps
theorem O4{es:List (Lit×Sp.V)}{k:Lit}(hd:es.Pairwise (fun p q=>p.1≠q.1))(hk:∀p∈es,∃s,p.1 = .string s)(h:Maps.has (.map es:Sp.V) k=true):∃p∈es,p.1=k/\(DataW.map es).atKey k .nil=p.2:=by
 obtain⟨p,hp,hs⟩:=List.any_eq_true.1 (show es.any (fun p=>p.1.sameKey k)=true from h);have e:=WideAt.sameKey_eq hs;obtain⟨s,hs2⟩:=hk p hp;refine⟨p,hp,e,?_⟩;subst e;exact WideAt.atKey_mem .nil (by rw[hs2];trivial) hd (show (p.1,p.2)∈es from hp)
theorem Lw{x:Sp.By}:∀ {l:List Sp.By},x∈l->x.length<=(Sp.Ai l).length
 | [],h=>by cases h
 | y::r,h=>by
  have hR:∀ {l:List Sp.By},x∈l->x.length<=(Sp.Bt l).length:=by
   intro l;induction l with
   | nil=>intro h;cases h
   | cons z s ih =>
    intro h;simp only[Sp.Bt,List.length_cons,List.length_append];rcases List.mem_cons.1 h with rfl|h
    ·omega
    ·have:=ih h;omega
  simp only[Sp.Ai,List.length_append];rcases List.mem_cons.1 h with rfl|h
  ·omega
  ·have:=hR h;omega
theorem Nk{dd xx:Int}{f:Nat}{lv:Int}{d e:Sp.V}{t:Sp.By}(h:Sp.gd dd xx (f+1) lv d)(hc:Sp.Aj d t = .ok e):Sp.gd dd xx f (lv+1) e/\(Sp.can f e).length<=(Sp.can (f+1) d).length:=by
 obtain⟨_,h⟩:=h;rcases h with⟨k,_,rfl⟩|⟨s,_,rfl⟩|⟨n,_,_,_,rfl⟩|⟨es,h,rfl⟩|⟨es,hp,hk,rfl⟩
 ·have:(Except.error 11:Except Nat Sp.V) = .ok e:=hc;cases this
 ·have:(Except.error 11:Except Nat Sp.V) = .ok e:=hc;cases this
 ·have:(Except.error 11:Except Nat Sp.V) = .ok e:=hc;cases this
 ·unfold Sp.Aj Sp.Ar at hc;simp only at hc;split at hc
  ·cases hc
  ·split at hc
   ·rename_i x hx;injection hc with hc;subst hc;have hm:=List.mem_of_getElem? hx;refine⟨h _ hm,?_⟩;rw[Sp.CP];have:=Lw (List.mem_map_of_mem (f:=Sp.can f) hm);simp only[List.length_cons,List.length_append];omega
   ·cases hc
 ·have hks:∀p∈es,∃s,p.1 = .string s:=fun p hpm=>by obtain⟨⟨s,hs,_⟩,_⟩:=hk p hpm;exact⟨s,hs⟩
  unfold Sp.Aj Sp.Av at hc;simp only at hc;split at hc
  ·rename_i hh;obtain⟨p,hpm,_,he⟩:=O4 (K6 hp hks) hks hh;injection hc with hc;rw[he] at hc;subst hc;refine⟨(hk p hpm).2,?_⟩;rw[GD hp hks];have:=Lw (List.mem_map_of_mem (f:=Sp.entT f) hpm);simp only[Sp.entT,List.length_cons,List.length_append] at this |-;omega
  ·cases hc
theorem O7{dd xx:Int}:∀ (l:List Sp.By) (f:Nat) (lv:Int) (d e:Sp.V),Sp.gd dd xx f lv d->Sp.Ag d l = .ok e -> ∃f' lv',f'<=f/\Sp.gd dd xx f' lv' e/\(Sp.can f' e).length<=(Sp.can f d).length
 | [],f,lv,d,e,h,hf=>by
  injection hf with hf;subst hf;exact⟨f,lv,Nat.le_refl _,h,Nat.le_refl _⟩
 | t::r,0,lv,d,e,h,hf=>h.elim
 | t::r,f+1,lv,d,e,h,hf=>by
  unfold Sp.Ag at hf;split at hf
  ·rename_i e1 h1;obtain⟨a,b⟩:=Nk h h1;obtain⟨f',lv',c1,c2,c3⟩:=O7 r f _ _ _ a hf;exact⟨f',lv',by omega,c2,by omega⟩
  ·cases hf
theorem FD{dd xx:Int}:∀ (f g:Nat) (lv:Int) (d:Sp.V),Sp.gd dd xx f lv d->f<=g->Sp.can g d=Sp.can f d
 | 0,_,_,_,h,_=>h.elim
 | f+1,0,_,_,_,hg=>by omega
 | f+1,g+1,lv,d,h,hg=>by
  obtain⟨_,h⟩:=h;rcases h with⟨k,_,rfl⟩|⟨s,_,rfl⟩|⟨n,_,_,_,rfl⟩|⟨es,h,rfl⟩|⟨es,hp,hk,rfl⟩
  ·rfl
  ·rfl
  ·rfl
  ·rw[Sp.CP,Sp.CP,List.map_congr_left fun e he=>FD f g _ e (h e he) (by omega)]
  ·have hks:∀p∈es,∃s,p.1 = .string s:=fun p hpm=>by obtain⟨⟨s,hs,_⟩,_⟩:=hk p hpm;exact⟨s,hs⟩
   rw[GD hp hks,GD hp hks,List.map_congr_left fun p hpm=>show Sp.entT g p=Sp.entT f p by unfold Sp.entT;rw[FD f g _ p.2 (hk p hpm).2 (by omega)]]
theorem Rep.up1:∀ {f:Nat} {F:Nat->Prop} {w:World} {v:Value} {d:Sp.V},Rep f F w v d->Rep (f+1) F w v d:=by
 intro f;induction f with
 | zero=>intro F w v d h;exact h.elim
 | succ f ih =>
  intro F w v d h;obtain⟨b,hv,hb,h⟩:=h;rcases h with h|h|h|⟨es,sl,ps,hd,h,ho,hs,ha⟩|⟨es,m,n,D,hd,h,hm,ho,hp⟩
  ·exact⟨b,hv,hb,Or.inl h⟩
  ·exact⟨b,hv,hb,Or.inr (Or.inl h)⟩
  ·exact⟨b,hv,hb,Or.inr (Or.inr (Or.inl h))⟩
  ·exact⟨b,hv,hb,Or.inr (Or.inr (Or.inr (Or.inl ⟨es,sl,ps,hd,h,ho,hs,ha.mono fun _ _ h=>ih h⟩)))⟩
  ·exact⟨b,hv,hb,Or.inr (Or.inr (Or.inr (Or.inr ⟨es,m,n,D,hd,h,hm,ho,hp.mono fun _ _ h=>ih h⟩)))⟩
theorem Rep.up{F:Nat->Prop}{w:World}{v:Value}{d:Sp.V}{f g:Nat}(h:Rep f F w v d)(hg:f<=g):Rep g F w v d:=by
 induction g with
 | zero =>
  obtain rfl:f=0:=by omega
  exact h
 | succ g ih =>
  by_cases e:f=g+1
  ·subst e;exact h
  ·exact (ih (by omega)).up1
theorem Ie:∀ (n:Nat) (t k:Sp.By),t.length<=n->Sp.une t=some k->k.length<=t.length
 | _,[],k,_,h=>by
  have:(some []:Option Sp.By)=some k:=h;injection this with this;rw[<- this];exact Nat.le_refl _
 | 0,_::_,_,hn,_=>by simp at hn
 | n+1,c::r,k,hn,h=>by
  rw[Sp.Ee] at h;simp only[List.length_cons] at hn |-;split at h
  ·split at h
   ·rename_i q;obtain⟨a,ha,rfl⟩:=Option.map_eq_some_iff.1 h;have:=Ie n q a (by simp only[List.length_cons] at hn;omega) ha;simp only[List.length_cons];omega
   ·rename_i q;obtain⟨a,ha,rfl⟩:=Option.map_eq_some_iff.1 h;have:=Ie n q a (by simp only[List.length_cons] at hn;omega) ha;simp only[List.length_cons];omega
   ·cases h
  ·obtain⟨a,ha,rfl⟩:=Option.map_eq_some_iff.1 h;have:=Ie n r a (by omega) ha;simp only[List.length_cons];omega
theorem J6:∀ (ts ks:List Sp.By),Sp.keysOf ts=some ks->ks.length=ts.length /\ ∀k∈ks,∃t∈ts,k.length<=t.length
 | [],ks,h=>by
  have:(some []:Option (List Sp.By))=some ks:=h;injection this with this;subst this;exact⟨rfl,fun k hk=>by cases hk⟩
 | t::r,ks,h=>by
  unfold Sp.keysOf at h;split at h
  ·cases h
  ·rename_i k hk;obtain⟨a,ha,rfl⟩:=Option.map_eq_some_iff.1 h;obtain⟨h1,h2⟩:=J6 r a ha;refine⟨by simp[h1],fun x hx=>?_⟩;rcases List.mem_cons.1 hx with rfl|hx
   ·exact⟨t,by simp,Ie _ _ _ (Nat.le_refl _) hk⟩
   ·obtain⟨y,hy,e⟩:=h2 x hx;exact⟨y,by simp[hy],e⟩
theorem Rn:∀ (l:Sp.By),(Sp.pcs l).length<=l.length+1 /\ ∀t∈Sp.pcs l,t.length<=l.length
 | []=>by simp[Sp.pcs]
 | c::r=>by
  obtain⟨h1,h2⟩:=Rn r;unfold Sp.pcs;split
  ·refine⟨by simp only[List.length_cons];omega,fun t ht=>?_⟩;rcases List.mem_cons.1 ht with rfl|ht
   ·simp
   ·have:=h2 t ht;simp only[List.length_cons];omega
  ·split
   ·rename_i p ps hp;rw[hp] at h1 h2;refine⟨by simp only[List.length_cons] at h1 |-; omega,fun t ht=>?_⟩;rcases List.mem_cons.1 ht with rfl|ht
    ·have:=h2 p (by simp);simp only[List.length_cons];omega
    ·have:=h2 t (by simp[ht]);simp only[List.length_cons];omega
   ·exact⟨by simp,fun t ht=>by
    have:t=[c]:=by simpa using ht
    subst this;simp⟩
theorem Mo{l:Sp.By}{ks:List Sp.By}(h:Sp.toks l=some ks):ks.length<=l.length /\ ∀k∈ks,k.length<=l.length:=by
 unfold Sp.toks at h;split at h
 ·split at h
  ·rename_i r hp;obtain⟨h1,h2⟩:=J6 _ _ h;obtain⟨h3,h4⟩:=Rn l;rw[hp] at h3 h4;refine⟨by simp only[List.length_cons] at h3;omega,fun k hk=>?_⟩;obtain⟨t,ht,e⟩:=h2 k hk;exact Nat.le_trans e (h4 t (by simp[ht]))
  ·cases h
 ·cases h
end Go.Proofs.YtdpomdelmdofmaaGreatDoor

namespace Go.Proofs.YtdpomdelmdofmaaGreatDoor
open Go.Proofs.Tryz
open Go.RowKit
theorem Ge{α β:Type}{f g:α->β}{l:List α}(h:∀a∈l,f a=g a):l.map f=l.map g:=List.map_congr_left h
theorem Iw{α β:Type}{f g:α->List β}{l:List α}(h:∀a∈l,f a=g a):l.flatMap f=l.flatMap g:=by
 induction l with
 | nil=>rfl
 | cons a r ih=>rw[List.flatMap_cons,List.flatMap_cons,h a (by simp),ih fun b hb=>h b (by simp[hb])]
theorem Ae.up1:∀ {f:Nat} {w:World} {v:Value} {a:Sp.A},Ae f w v a->Ae (f+1) w v a/\Sp.fp (f+1) a=Sp.fp f a/\Sp.str (f+1) a=Sp.str f a
 | 0,_,_,_,h=>h.elim
 | f+1,w,v,a,h=>by
  obtain⟨b,g,x,rfl,hv,h⟩:=h;rcases h with⟨k,h1,h2,rfl,h⟩|⟨n,h2,rfl,h,hbd⟩|⟨s,h2,rfl,h⟩|⟨al,sl,ps,rfl,h,ho,hs,ha⟩|⟨es,n,D,rfl,h,ho,hp⟩
  ·exact⟨⟨b,g,_,rfl,hv,Or.inl ⟨k,h1,h2,rfl,h⟩⟩,rfl,rfl⟩
  ·exact⟨⟨b,g,_,rfl,hv,Or.inr (Or.inl ⟨n,h2,rfl,h,hbd⟩)⟩,rfl,rfl⟩
  ·exact⟨⟨b,g,_,rfl,hv,Or.inr (Or.inr (Or.inl ⟨s,h2,rfl,h⟩))⟩,rfl,rfl⟩
  ·have hk:∀c∈al,Sp.fp (f+1) c=Sp.fp f c/\Sp.str (f+1) c=Sp.str f c:=fun c hc=>by
    obtain⟨u,hu⟩:=ha.right hc;exact (Ae.up1 hu).2
   refine⟨⟨b,g,_,rfl,hv,Or.inr (Or.inr (Or.inr (Or.inl ⟨al,sl,ps,rfl,h,ho,hs,ha.mono fun _ _ h=>(Ae.up1 h).1⟩)))⟩,?_,?_⟩
   ·rw[Sp.AQ,Sp.AQ,Iw fun c hc=>(hk c hc).1]
   ·rw[Sp.Bo,Sp.Bo,Ge fun c hc=>(hk c hc).2]
  ·have hk:∀p∈es,Sp.fp (f+1) p.2=Sp.fp f p.2/\Sp.str (f+1) p.2=Sp.str f p.2:=fun p hpm=>by
    obtain⟨u,hu⟩:=hp.right hpm;exact (Ae.up1 hu).2
   refine⟨⟨b,g,_,rfl,hv,Or.inr (Or.inr (Or.inr (Or.inr ⟨es,n,D,rfl,h,ho,hp.mono fun _ _ h=>(Ae.up1 h).1⟩)))⟩,?_,?_⟩
   ·rw[Sp.Bi,Sp.Bi,Iw fun p hpm=>(hk p hpm).1]
   ·rw[Sp.Ba,Sp.Ba,Ge (g:=fun p=>(p.1,Sp.str f p.2)) fun p hpm=>by rw[(hk p hpm).2]]
theorem Ae.up{f g:Nat}{w:World}{v:Value}{a:Sp.A}(h:Ae f w v a)(hg:f<=g):Ae g w v a/\Sp.fp g a=Sp.fp f a/\Sp.str g a=Sp.str f a:=by
 induction g with
 | zero =>
  obtain rfl:f=0:=by omega
  exact h.elim
 | succ g ih =>
  by_cases e:f=g+1
  ·subst e;exact⟨h,rfl,rfl⟩
  ·obtain⟨h1,h2,h3⟩:=ih (by omega);obtain⟨h4,h5,h6⟩:=h1.up1;exact⟨h4,h5.trans h2,h6.trans h3⟩
theorem Ae.down1{dd xx:Int}:∀ {f:Nat} {lv:Int} {w:World} {v:Value} {a:Sp.A},Ae (f+1) w v a->Sp.gd dd xx f lv (Sp.str (f+1) a)->Ae f w v a/\Sp.fp f a=Sp.fp (f+1) a/\Sp.str f a=Sp.str (f+1) a
 | 0,_,_,_,_,_,h=>h.elim
 | f+1,lv,w,v,a,h,hg=>by
  obtain⟨b,g,x,rfl,hv,h⟩:=h;rcases h with⟨k,h1,h2,rfl,h⟩|⟨n,h2,rfl,h,hbd⟩|⟨s,h2,rfl,h⟩|⟨al,sl,ps,rfl,h,ho,hs,ha⟩|⟨es,n,D,rfl,h,ho,hp⟩
  ·exact⟨⟨b,g,_,rfl,hv,Or.inl ⟨k,h1,h2,rfl,h⟩⟩,rfl,rfl⟩
  ·exact⟨⟨b,g,_,rfl,hv,Or.inr (Or.inl ⟨n,h2,rfl,h,hbd⟩)⟩,rfl,rfl⟩
  ·exact⟨⟨b,g,_,rfl,hv,Or.inr (Or.inr (Or.inl ⟨s,h2,rfl,h⟩))⟩,rfl,rfl⟩
  ·rw[Sp.Bo] at hg;obtain⟨_,hg⟩:=hg;rcases hg with⟨_,_,e⟩|⟨_,_,e⟩|⟨_,_,_,_,e⟩|⟨es,hg,e⟩|⟨_,_,_,e⟩
   ·cases e
   ·cases e
   ·cases e
   ·have e2:al.map (Sp.str (f+1))=es:=by injection e
    subst e2;have hk:∀c∈al,∀u,Ae (f+1) w u c->Ae f w u c/\Sp.fp f c=Sp.fp (f+1) c/\Sp.str f c=Sp.str (f+1) c:=fun c hc u hu=>Ae.down1 hu (hg _ (List.mem_map_of_mem hc));have hk2:∀c∈al,Sp.fp f c=Sp.fp (f+1) c/\Sp.str f c=Sp.str (f+1) c:=fun c hc=>by
     obtain⟨u,hu⟩:=ha.right hc;exact (hk c hc u hu).2
    refine⟨⟨b,g,_,rfl,hv,Or.inr (Or.inr (Or.inr (Or.inl ⟨al,sl,ps,rfl,h,ho,hs,Al.mem (fun u c hc hu=>(hk c hc u hu).1) ha⟩)))⟩,?_,?_⟩
    ·rw[Sp.AQ,Sp.AQ,Iw fun c hc=>(hk2 c hc).1]
    ·rw[Sp.Bo,Sp.Bo,Ge fun c hc=>(hk2 c hc).2]
   ·cases e
  ·rw[Sp.Ba] at hg;obtain⟨_,hg⟩:=hg;rcases hg with⟨_,_,e⟩|⟨_,_,e⟩|⟨_,_,_,_,e⟩|⟨_,_,e⟩|⟨es2,_,hg,e⟩
   ·cases e
   ·cases e
   ·cases e
   ·cases e
   ·have e2:es.map (fun p=>(p.1,Sp.str (f+1) p.2))=es2:=by injection e
    subst e2;have hk:∀p∈es,∀u,Ae (f+1) w u p.2->Ae f w u p.2/\Sp.fp f p.2=Sp.fp (f+1) p.2/\Sp.str f p.2=Sp.str (f+1) p.2:=fun p hpm u hu=>Ae.down1 hu (hg _ (List.mem_map_of_mem (f:=fun p=>(p.1,Sp.str (f+1) p.2)) hpm)).2;have hk2:∀p∈es,Sp.fp f p.2=Sp.fp (f+1) p.2/\Sp.str f p.2=Sp.str (f+1) p.2:=fun p hpm=>by
     obtain⟨u,hu⟩:=hp.right hpm;exact (hk p hpm u hu).2
    refine⟨⟨b,g,_,rfl,hv,Or.inr (Or.inr (Or.inr (Or.inr ⟨es,n,D,rfl,h,ho,Pt.mem (fun u p hpm hu=>(hk p hpm u hu).1) hp⟩)))⟩,?_,?_⟩
    ·rw[Sp.Bi,Sp.Bi,Iw fun p hpm=>(hk2 p hpm).1]
    ·rw[Sp.Ba,Sp.Ba,Ge (g:=fun p=>(p.1,Sp.str (f+1) p.2)) fun p hpm=>by rw[(hk2 p hpm).2]]
theorem Ae.fit{dd xx lv:Int}{f g:Nat}{w:World}{v:Value}{a:Sp.A}(h:Ae g w v a)(hg:Sp.gd dd xx f lv (Sp.str g a))(hle:f<=g):Ae f w v a/\Sp.fp f a=Sp.fp g a/\Sp.str f a=Sp.str g a:=by
 induction g with
 | zero=>exact h.elim
 | succ g ih =>
  by_cases e:f=g+1
  ·subst e;exact⟨h,rfl,rfl⟩
  ·have hup:∀ (m f:Nat) (lv:Int) (d:Sp.V),Sp.gd dd xx f lv d->Sp.gd dd xx (f+m) lv d:=by
    intro m f;induction f with
    | zero=>intro _ _ h;exact h.elim
    | succ f ih =>
     intro lv d h;obtain⟨h0,h⟩:=h;rw[show f+1+m=(f+m)+1 by omega];refine⟨h0,?_⟩;rcases h with h|h|h|⟨es,h,e⟩|⟨es,h,h2,e⟩
     ·exact Or.inl h
     ·exact Or.inr (Or.inl h)
     ·exact Or.inr (Or.inr (Or.inl h))
     ·exact Or.inr (Or.inr (Or.inr (Or.inl ⟨es,fun e he=>ih _ _ (h e he),e⟩)))
     ·exact Or.inr (Or.inr (Or.inr (Or.inr ⟨es,h,fun p hp=>⟨(h2 p hp).1,ih _ _ (h2 p hp).2⟩,e⟩)))
   have h1:=h.down1 (by have:=hup (g-f) f lv _ hg;rw[show f+(g-f)=g by omega] at this;exact this);obtain⟨h2,h3,h4⟩:=ih h1.1 (by rw[h1.2.2];exact hg) (by omega);exact⟨h2,h3.trans h1.2.1,h4.trans h1.2.2⟩
theorem Ae.uniq{f f':Nat}{w w':World}{u u':Value}{a:Sp.A}(h:Ae f w u a)(h':Ae f' w' u' a):u=u':=by
 cases f with
 | zero=>exact h.elim
 | succ f =>
  cases f' with
  | zero=>exact h'.elim
  | succ f' =>
   obtain⟨b,g,x,rfl,rfl,_⟩:=h;obtain⟨b2,g2,x2,e,rfl,_⟩:=h';have e1:Sp.nd b g x=Sp.nd b2 g2 x2:=e;unfold Sp.nd at e1;injection e1 with e1;injection e1 with e1 _;injection e1 with e1;injection e1 with _ e1;rw[show b=b2 by omega]
namespace Sp
def er:Nat->A->A
 | 0,a=>a
 | f+1,a=>match a with
  | .agg [.lit (.int k b),.lit (.int l g),x]=>(match x with
   | .slice al y=>.agg [.lit (.int k b),.lit (.int l 0),.slice (al.map (er f)) y]
   | .map es=>.agg [.lit (.int k b),.lit (.int l g),.map (es.map fun p=>(p.1,er f p.2))]
   | z=>.agg [.lit (.int k b),.lit (.int l g),z])
  | y=>y
theorem er_arr(f b g:Nat)(al:List A):er (f+1) (nd b g (.slice al []))=nd b 0 (.slice (al.map (er f)) []):=rfl
theorem er_obj(f b g:Nat)(es:List (Lit×A)):er (f+1) (nd b g (.map es))=nd b g (.map (es.map fun p=>(p.1,er f p.2))):=rfl
theorem O9(f b g k:Nat):er (f+1) (nd b g (BV k))=nd b g (BV k):=rfl
theorem Sf(f b g:Nat)(n:Nm):er (f+1) (nd b g (Bj n))=nd b g (Bj n):=rfl
theorem Pa(f b g:Nat)(s:By):er (f+1) (nd b g (Az s))=nd b g (Az s):=rfl
theorem form(a:A):(∃k b l g al y,a = .agg [.lit (.int k b),.lit (.int l g),.slice al y])\/(∃k b l g es,a = .agg [.lit (.int k b),.lit (.int l g),.map es])\/((∀f,er f a=a)/\AL a=[] /\ ∀i c,kid a i c=a):=by
 by_cases h1:∃k b l g al y,a = .agg [.lit (.int k b),.lit (.int l g),.slice al y]
 ·exact Or.inl h1
 by_cases h2:∃k b l g es,a = .agg [.lit (.int k b),.lit (.int l g),.map es]
 ·exact Or.inr (Or.inl h2)
 refine Or.inr (Or.inr ⟨fun f=>?_,?_,fun i c=>?_⟩)
 ·cases f with
  | zero=>rfl
  | succ f =>
   unfold er;split
   ·split
    ·exact absurd ⟨_,_,_,_,_,_,rfl⟩ h1
    ·exact absurd ⟨_,_,_,_,_,rfl⟩ h2
    ·rfl
   ·rfl
 ·unfold AL;split
  ·split
   ·exact absurd ⟨_,_,_,_,_,_,rfl⟩ h1
   ·exact absurd ⟨_,_,_,_,_,rfl⟩ h2
   ·rfl
  ·rfl
 ·unfold kid;split
  ·split
   ·exact absurd ⟨_,_,_,_,_,_,rfl⟩ h1
   ·exact absurd ⟨_,_,_,_,_,rfl⟩ h2
   ·rfl
  ·rfl
theorem EP:∀ (f:Nat) (a:A),str f (er f a)=str f a
 | 0,_=>rfl
 | f+1,a=>by
  rcases form a with⟨k,b,l,g,al,y,rfl⟩|⟨k,b,l,g,es,rfl⟩|⟨h,_,_⟩
  ·show Ar ((al.map (er f)).map (str f))=Ar (al.map (str f));rw[List.map_map,Ge fun c _=>(show (str f ∘ er f) c=str f c from EP f c)]
  ·show Av ((es.map fun p=>(p.1,er f p.2)).map fun p=>(p.1,str f p.2))=Av (es.map fun p=>(p.1,str f p.2));rw[List.map_map,Ge (g:=fun p=>(p.1,str f p.2)) fun p _=>(show ((fun p=>(p.1,str f p.2)) ∘ fun p:Lit×A=>(p.1,er f p.2)) p=(p.1,str f p.2) by show (p.1,str f (er f p.2))=_;rw[EP f p.2])]
  ·rw[h]
theorem Pb(f:Nat)(a:A):AL (er (f+1) a)=(AL a).map (er f):=by
 rcases form a with⟨k,b,l,g,al,y,rfl⟩|⟨k,b,l,g,es,rfl⟩|⟨h,h2,_⟩
 ·rfl
 ·show (es.map fun p=>(p.1,er f p.2)).map Prod.snd=(es.map Prod.snd).map (er f);rw[List.map_map,List.map_map];rfl
 ·rw[h,h2];rfl
theorem EX:∀ (p:List Nat) (f:Nat) (a:A),sub p (er (f+p.length) a)=(sub p a).map (er f)
 | [],_,_=>rfl
 | i::r,f,a=>by
  show sub (i::r) (er ((f+r.length)+1) a)=_;rw[sub,sub,Pb,List.getElem?_map];cases (AL a)[i]? with
  | none=>rfl
  | some c=>exact EX r f c
theorem GF{α β:Type}(q:α->β)(u:α->α)(u':β->β)(h:∀a,q (u a)=u' (q a)):∀ (l:List α) (i:Nat),(l.modify i u).map q=(l.map q).modify i u'
 | [],i=>by simp
 | a::r,0=>by simp[h]
 | a::r,i+1=>by simp[GF q u u' h r i]
theorem XW(f i:Nat)(a c:A):er (f+1) (kid a i c)=kid (er (f+1) a) i (er f c):=by
 rcases form a with⟨k,b,l,g,al,y,rfl⟩|⟨k,b,l,g,es,rfl⟩|⟨h,h2,h3⟩
 ·show DataW.agg [.lit (.int k b),.lit (.int l 0),.slice ((al.set i c).map (er f)) []]=DataW.agg [.lit (.int k b),.lit (.int l 0),.slice ((al.map (er f)).set i (er f c)) []];rw[List.map_set]
 ·show DataW.agg [.lit (.int k b),.lit (.int l g),.map ((es.modify i fun p=>(p.1,c)).map fun p=>(p.1,er f p.2))]=DataW.agg [.lit (.int k b),.lit (.int l g),.map ((es.map fun p=>(p.1,er f p.2)).modify i fun p=>(p.1,er f c))];rw[GF (fun p:Lit×A=>(p.1,er f p.2)) (fun p=>(p.1,c)) (fun p=>(p.1,er f c)) fun p=>rfl]
 ·rw[h3,h,h3]
theorem BQ:∀ (p:List Nat) (f:Nat) {a n:A} (n':A),sub p a=some n->er (f+p.length) (put p n' a)=put p (er f n') (er (f+p.length) a)
 | [],_,_,_,_,_=>rfl
 | i::r,f,a,n,n',h=>by
  obtain⟨c,hc,h2⟩:=Cm h;rw[BO n' hc];have hc':(AL (er ((f+r.length)+1) a))[i]? = some (er (f+r.length) c):=by rw[Pb,List.getElem?_map,hc];rfl
  show er ((f+r.length)+1) _=put (i::r) _ (er ((f+r.length)+1) a);rw[BO _ hc',XW,BQ r f n' h2]
theorem Ug{a c:A}{i:Nat}(h:(AL a)[i]? = some c)(hy:∀k b l g al y,a = .agg [.lit (.int k b),.lit (.int l g),.slice al y]->y=[]):kid a i c=a:=by
 rcases FS h with⟨k,b,l,g,al,x,rfl,h7⟩|⟨k,b,l,g,es,key,rfl,h7⟩
 ·obtain rfl:=hy _ _ _ _ _ _ rfl;show DataW.agg [.lit (.int k b),.lit (.int l g),.slice (al.set i c) []]=_;have h8:=List.getElem?_eq_some_iff.1 h7;rw[show al.set i c=al by rw[<- h8.2];exact List.set_getElem_self h8.1]
 ·show DataW.agg [.lit (.int k b),.lit (.int l g),.map (es.modify i fun p=>(p.1,c))]=_;obtain⟨l1,l2,rfl,rfl⟩:=CW (fun _=>([]:List Nat)) es i _ h7;rw[Dh]
theorem RQ{a c:A}{i:Nat}(hc:(AL a)[i]? = some c)(x:A):(AL (kid a i x))[i]? = some x:=by
 rcases FS hc with⟨k,b,l,g,al,y,rfl,h7⟩|⟨k,b,l,g,es,key,rfl,h7⟩
 ·show (al.set i _)[i]? = _;rw[List.getElem?_set_self (List.getElem?_eq_some_iff.1 h7).1]
 ·show ((es.modify i fun p=>(p.1,x)).map Prod.snd)[i]? = _;rw[List.getElem?_map,List.getElem?_modify,h7];simp
theorem Ii:∀ {p:List Nat} {a n:A} (n':A),sub p a=some n->sub p (put p n' a)=some n'
 | [],_,_,_,_=>rfl
 | i::r,a,n,n',h=>by
  obtain⟨c,hc,h2⟩:=Cm h;rw[BO n' hc];have hk:(AL (kid a i (put r n' c)))[i]? = some (put r n' c):=RQ hc _;rw[sub,hk];exact Ii n' h2
theorem Wq{a c x y:A}{i:Nat}(h:(AL a)[i]? = some c):kid (kid a i x) i y=kid a i y:=by
 rcases FS h with⟨k,b,l,g,al,z,rfl,h7⟩|⟨k,b,l,g,es,key,rfl,h7⟩
 ·show DataW.agg [.lit (.int k b),.lit (.int l g),.slice ((al.set i x).set i y) []]=DataW.agg [.lit (.int k b),.lit (.int l g),.slice (al.set i y) []];rw[List.set_set]
 ·show DataW.agg [.lit (.int k b),.lit (.int l g),.map ((es.modify i fun p=>(p.1,x)).modify i fun p=>(p.1,y))]=DataW.agg [.lit (.int k b),.lit (.int l g),.map (es.modify i fun p=>(p.1,y))];obtain⟨l1,l2,rfl,rfl⟩:=CW (fun _=>([]:List Nat)) es i _ h7;rw[Dh,Dh,Dh]
theorem Ku:∀ {p:List Nat} {a n:A} (x y:A),sub p a=some n->put p y (put p x a)=put p y a
 | [],_,_,_,_,_=>rfl
 | i::r,a,n,x,y,h=>by
  obtain⟨c,hc,h2⟩:=Cm h;rw[BO x hc,BO y hc];have hk:(AL (kid a i (put r x c)))[i]? = some (put r x c):=RQ hc _;rw[BO y hk,Ku x y h2,Wq hc]
end Sp
theorem Ae.spare{f:Nat}{w:World}{u:Value}{a:Sp.A}(h:Ae f w u a):∀k b l g al y,a = .agg [.lit (.int k b),.lit (.int l g),.slice al y]->y=[]:=by
 cases f with
 | zero=>exact h.elim
 | succ f =>
  intro k b l g al y e;obtain⟨b2,g2,x,rfl,hv,h⟩:=h;unfold Sp.nd at e;injection e with e;injection e with _ e;injection e with _ e;injection e with e _;rcases h with⟨j,_,_,rfl,h⟩|⟨n,_,rfl,h,hbd⟩|⟨s,_,rfl,h⟩|⟨al2,sl,ps,rfl,_⟩|⟨es,n,D,rfl,_⟩
  ·cases e
  ·cases e
  ·cases e
  ·injection e with _ e;exact e.symm
  ·cases e
theorem Ae.put_self{f:Nat}{w:World}:∀ {p:List Nat} {u:Value} {a n:Sp.A},Ae (f+p.length) w u a->Sp.sub p a=some n->Sp.put p n a=a
 | [],_,_,_,_,h=>by injection h with h;exact h.symm
 | i::r,u,a,n,ht,h=>by
  obtain⟨c,hc,h2⟩:=Sp.Cm h;have h':Ae ((f+r.length)+1) w u a:=ht;obtain⟨x,hx⟩:∃u,Ae (f+r.length) w u c:=Ae.at (f:=f+r.length) (p:=[i]) h' (show Sp.sub [i] a=some c by simp[Sp.sub,hc]);rw[Sp.BO n hc,hx.put_self h2];exact Sp.Ug hc ht.spare
theorem Ae.er_arr{f b g:Nat}{w:World}{u:Value}{a:Sp.A}{al:List Sp.A}(h:Ae (f+1) w u a)(e:Sp.er (f+1) a=Sp.er (f+1) (Sp.nd b g (.slice al []))):∃g' al',a=Sp.nd b g' (.slice al' [])/\al'.map (Sp.er f)=al.map (Sp.er f):=by
 obtain⟨b2,g2,x,rfl,hv,h⟩:=h;rcases h with⟨j,_,_,rfl,h⟩|⟨n,_,rfl,h,hbd⟩|⟨s,_,rfl,h⟩|⟨al2,sl,ps,rfl,_⟩|⟨es,n,D,rfl,_⟩
 ·rw[Sp.O9,Sp.er_arr] at e;unfold Sp.nd at e;injection e with e;injection e with _ e;injection e with _ e;injection e with e _;cases e
 ·rw[Sp.Sf,Sp.er_arr] at e;unfold Sp.nd at e;injection e with e;injection e with _ e;injection e with _ e;injection e with e _;cases e
 ·rw[Sp.Pa,Sp.er_arr] at e;unfold Sp.nd at e;injection e with e;injection e with _ e;injection e with _ e;injection e with e _;cases e
 ·rw[Sp.er_arr,Sp.er_arr] at e;unfold Sp.nd at e;injection e with e;injection e with e1 e;injection e with _ e;injection e with e2 _;injection e1 with e1;injection e1 with _ e1;injection e2 with e2;exact⟨g2,al2,by rw[show b2=b by omega],e2⟩
 ·rw[Sp.er_obj,Sp.er_arr] at e;unfold Sp.nd at e;injection e with e;injection e with _ e;injection e with _ e;injection e with e _;cases e
theorem Ae.er_obj{f b g:Nat}{w:World}{u:Value}{a:Sp.A}{es:List (Lit×Sp.A)}(h:Ae (f+1) w u a)(e:Sp.er (f+1) a=Sp.er (f+1) (Sp.nd b g (.map es))):∃es',a=Sp.nd b g (.map es')/\es'.map (fun p=>(p.1,Sp.er f p.2))=es.map (fun p=>(p.1,Sp.er f p.2)):=by
 obtain⟨b2,g2,x,rfl,hv,h⟩:=h;rcases h with⟨j,_,_,rfl,h⟩|⟨n,_,rfl,h,hbd⟩|⟨s,_,rfl,h⟩|⟨al2,sl,ps,rfl,_⟩|⟨es2,n,D,rfl,_⟩
 ·rw[Sp.O9,Sp.er_obj] at e;unfold Sp.nd at e;injection e with e;injection e with _ e;injection e with _ e;injection e with e _;cases e
 ·rw[Sp.Sf,Sp.er_obj] at e;unfold Sp.nd at e;injection e with e;injection e with _ e;injection e with _ e;injection e with e _;cases e
 ·rw[Sp.Pa,Sp.er_obj] at e;unfold Sp.nd at e;injection e with e;injection e with _ e;injection e with _ e;injection e with e _;cases e
 ·rw[Sp.er_arr,Sp.er_obj] at e;unfold Sp.nd at e;injection e with e;injection e with _ e;injection e with _ e;injection e with e _;cases e
 ·rw[Sp.er_obj,Sp.er_obj] at e;unfold Sp.nd at e;injection e with e;injection e with e1 e;injection e with e3 e;injection e with e2 _;injection e1 with e1;injection e1 with _ e1;injection e3 with e3;injection e3 with _ e3;injection e2 with e2;exact⟨es2,by rw[show b2=b by omega,show g2=g by omega],e2⟩
end Go.Proofs.YtdpomdelmdofmaaGreatDoor

namespace Go.Proofs
open Go.Shelf
def Tryz.lays160_ren:Go.Shelf.Ren:=⟨fun|160=>195|232=>235|231=>234|227=>236|234=>238|233=>237|236=>240|235=>239|228=>281|271=>283|151=>282|197=>230|120=>307|152=>306|260=>276|137=>314|119=>315|224=>279|225=>278|217=>277|266=>304|n=>n,fun|9=>9|4=>4|3=>3|5=>5|117=>295|116=>294|0=>0|124=>298|21=>21|105=>289|46=>201|119=>207|139=>210|138=>209|n=>n,fun|3=>1|4=>2|n=>n⟩
theorem Tryz.lays160:Go.Proofs.Lays.n160 Tryz.prog Tryz.lays160_ren:={
 mixed:=by kernel_rfl
 f119:=Tryz.func315.trans (congrArg some (by kernel_rfl))
 f120:=Tryz.func307.trans (congrArg some (by kernel_rfl))
 f137:=Tryz.func314.trans (congrArg some (by kernel_rfl))
 f151:=Tryz.func282.trans (congrArg some (by kernel_rfl))
 f152:=Tryz.func306.trans (congrArg some (by kernel_rfl))
 f160:=Tryz.func195.trans (congrArg some (by kernel_rfl))
 f197:=Tryz.func230.trans (congrArg some (by kernel_rfl))
 f217:=Tryz.func277.trans (congrArg some (by kernel_rfl))
 f224:=Tryz.func279.trans (congrArg some (by kernel_rfl))
 f225:=Tryz.func278.trans (congrArg some (by kernel_rfl))
 f227:=Tryz.func236.trans (congrArg some (by kernel_rfl))
 f228:=Tryz.func281.trans (congrArg some (by kernel_rfl))
 f231:=Tryz.func234.trans (congrArg some (by kernel_rfl))
 f232:=Tryz.func235.trans (congrArg some (by kernel_rfl))
 f233:=Tryz.func237.trans (congrArg some (by kernel_rfl))
 f234:=Tryz.func238.trans (congrArg some (by kernel_rfl))
 f235:=Tryz.func239.trans (congrArg some (by kernel_rfl))
 f236:=Tryz.func240.trans (congrArg some (by kernel_rfl))
 f260:=Tryz.func276.trans (congrArg some (by kernel_rfl))
 f266:=Tryz.func304.trans (congrArg some (by kernel_rfl))
 f271:=Tryz.func283.trans (congrArg some (by kernel_rfl))
 t0:=underlying0
 a0:=Tryz.isAgg0
 z0:=Tryz.sizeOf0
 v0:=Tryz.zeroValue0
 t3:=underlying3
 a3:=Tryz.isAgg3
 z3:=Tryz.sizeOf3
 v3:=Tryz.zeroValue3
 t4:=underlying4
 a4:=Tryz.isAgg4
 z4:=Tryz.sizeOf4
 v4:=Tryz.zeroValue4
 t5:=underlying5
 a5:=Tryz.isAgg5
 z5:=Tryz.sizeOf5
 v5:=Tryz.zeroValue5
 t9:=underlying9
 a9:=Tryz.isAgg9
 z9:=Tryz.sizeOf9
 v9:=Tryz.zeroValue9
 t21:=underlying21
 a21:=Tryz.isAgg21
 z21:=Tryz.sizeOf21
 v21:=Tryz.zeroValue21
 t46:=underlying201
 a46:=Tryz.isAgg201
 z46:=Tryz.sizeOf201
 v46:=Tryz.zeroValue201
 t105:=underlying289
 a105:=Tryz.isAgg289
 z105:=Tryz.sizeOf289
 v105:=Tryz.zeroValue289
 t116:=underlying294
 a116:=Tryz.isAgg294
 z116:=Tryz.sizeOf294
 t117:=underlying295
 a117:=Tryz.isAgg295
 z117:=Tryz.sizeOf295
 v117:=Tryz.zeroValue295
 t119:=underlying207
 a119:=Tryz.isAgg207
 z119:=Tryz.sizeOf207
 t124:=underlying298
 a124:=Tryz.isAgg298
 z124:=Tryz.sizeOf298
 v124:=Tryz.zeroValue298
 t138:=underlying209
 a138:=Tryz.isAgg209
 z138:=Tryz.sizeOf209
 v138:=Tryz.zeroValue209
 t139:=underlying210
 a139:=Tryz.isAgg210
 z139:=Tryz.sizeOf210
 v139:=Tryz.zeroValue210
 g3:=by kernel_rfl
 g4:=by kernel_rfl }
def Tryz.laysC172_ren:Go.Shelf.Ren:=⟨fun|172=>196|244=>241|245=>242|247=>284|279=>285|280=>286|281=>287|282=>288|287=>308|316=>297|171=>94|205=>309|321=>316|322=>317|243=>131|246=>173|283=>212|284=>213|285=>214|286=>215|129=>257|317=>256|318=>258|319=>259|320=>260|337=>293|338=>294|n=>n,fun|9=>9|3=>3|75=>162|76=>163|4=>4|5=>5|167=>325|37=>117|0=>0|85=>326|2=>2|168=>328|53=>252|175=>345|46=>201|210=>348|127=>166|145=>360|143=>358|21=>21|171=>274|173=>277|212=>312|51=>313|20=>20|213=>314|232=>352|233=>353|80=>40|n=>n,fun|15=>8|16=>9|17=>5|18=>10|19=>11|n=>n⟩
theorem Tryz.laysC172:Go.Proofs.LaysC.n172 Tryz.prog Tryz.laysC172_ren:={
 mixed:=by kernel_rfl
 f129:=Tryz.func257.trans (congrArg some (by kernel_rfl))
 f171:=Tryz.func94.trans (congrArg some (by kernel_rfl))
 f172:=Tryz.func196.trans (congrArg some (by kernel_rfl))
 f205:=Tryz.func309.trans (congrArg some (by kernel_rfl))
 f243:=Tryz.func131.trans (congrArg some (by kernel_rfl))
 f244:=Tryz.func241.trans (congrArg some (by kernel_rfl))
 f245:=Tryz.func242.trans (congrArg some (by kernel_rfl))
 f246:=Tryz.func173.trans (congrArg some (by kernel_rfl))
 f247:=Tryz.func284.trans (congrArg some (by kernel_rfl))
 f279:=Tryz.func285.trans (congrArg some (by kernel_rfl))
 f280:=Tryz.func286.trans (congrArg some (by kernel_rfl))
 f281:=Tryz.func287.trans (congrArg some (by kernel_rfl))
 f282:=Tryz.func288.trans (congrArg some (by kernel_rfl))
 f283:=Tryz.func212.trans (congrArg some (by kernel_rfl))
 f284:=Tryz.func213.trans (congrArg some (by kernel_rfl))
 f285:=Tryz.func214.trans (congrArg some (by kernel_rfl))
 f286:=Tryz.func215.trans (congrArg some (by kernel_rfl))
 f287:=Tryz.func308.trans (congrArg some (by kernel_rfl))
 f316:=Tryz.func297.trans (congrArg some (by kernel_rfl))
 f317:=Tryz.func256.trans (congrArg some (by kernel_rfl))
 f318:=Tryz.func258.trans (congrArg some (by kernel_rfl))
 f319:=Tryz.func259.trans (congrArg some (by kernel_rfl))
 f320:=Tryz.func260.trans (congrArg some (by kernel_rfl))
 f321:=Tryz.func316.trans (congrArg some (by kernel_rfl))
 f322:=Tryz.func317.trans (congrArg some (by kernel_rfl))
 f337:=Tryz.func293.trans (congrArg some (by kernel_rfl))
 f338:=Tryz.func294.trans (congrArg some (by kernel_rfl))
 t0:=underlying0
 a0:=Tryz.isAgg0
 z0:=Tryz.sizeOf0
 v0:=Tryz.zeroValue0
 t2:=underlying2
 a2:=Tryz.isAgg2
 z2:=Tryz.sizeOf2
 v2:=Tryz.zeroValue2
 t3:=underlying3
 a3:=Tryz.isAgg3
 z3:=Tryz.sizeOf3
 v3:=Tryz.zeroValue3
 t4:=underlying4
 a4:=Tryz.isAgg4
 z4:=Tryz.sizeOf4
 v4:=Tryz.zeroValue4
 t5:=underlying5
 a5:=Tryz.isAgg5
 z5:=Tryz.sizeOf5
 v5:=Tryz.zeroValue5
 t9:=underlying9
 a9:=Tryz.isAgg9
 z9:=Tryz.sizeOf9
 v9:=Tryz.zeroValue9
 t20:=underlying20
 a20:=Tryz.isAgg20
 z20:=Tryz.sizeOf20
 v20:=Tryz.zeroValue20
 t21:=underlying21
 a21:=Tryz.isAgg21
 z21:=Tryz.sizeOf21
 v21:=Tryz.zeroValue21
 t37:=underlying117
 a37:=Tryz.isAgg117
 z37:=Tryz.sizeOf117
 v37:=Tryz.zeroValue117
 t46:=underlying201
 a46:=Tryz.isAgg201
 z46:=Tryz.sizeOf201
 v46:=Tryz.zeroValue201
 t51:=underlying313
 a51:=Tryz.isAgg313
 z51:=Tryz.sizeOf313
 v51:=Tryz.zeroValue313
 t53:=underlying252
 a53:=Tryz.isAgg252
 z53:=Tryz.sizeOf252
 v53:=Tryz.zeroValue252
 t75:=underlying162
 a75:=Tryz.isAgg162
 z75:=Tryz.sizeOf162
 v75:=Tryz.zeroValue162
 t76:=underlying163
 a76:=Tryz.isAgg163
 z76:=Tryz.sizeOf163
 v76:=Tryz.zeroValue163
 t85:=underlying326
 a85:=Tryz.isAgg326
 z85:=Tryz.sizeOf326
 v85:=Tryz.zeroValue326
 t127:=underlying166
 a127:=Tryz.isAgg166
 z127:=Tryz.sizeOf166
 v127:=Tryz.zeroValue166
 t143:=underlying358
 a143:=Tryz.isAgg358
 z143:=Tryz.sizeOf358
 v143:=Tryz.zeroValue358
 t145:=underlying360
 a145:=Tryz.isAgg360
 z145:=Tryz.sizeOf360
 v145:=Tryz.zeroValue360
 t167:=underlying325
 a167:=Tryz.isAgg325
 z167:=Tryz.sizeOf325
 v167:=Tryz.zeroValue325
 t168:=underlying328
 a168:=Tryz.isAgg328
 z168:=Tryz.sizeOf328
 v168:=Tryz.zeroValue328
 t171:=underlying274
 a171:=Tryz.isAgg274
 z171:=Tryz.sizeOf274
 v171:=Tryz.zeroValue274
 t173:=underlying277
 a173:=Tryz.isAgg277
 z173:=Tryz.sizeOf277
 v173:=Tryz.zeroValue277
 t175:=underlying345
 a175:=Tryz.isAgg345
 z175:=Tryz.sizeOf345
 v175:=Tryz.zeroValue345
 t210:=underlying348
 a210:=Tryz.isAgg348
 z210:=Tryz.sizeOf348
 v210:=Tryz.zeroValue348
 t212:=underlying312
 a212:=Tryz.isAgg312
 z212:=Tryz.sizeOf312
 v212:=Tryz.zeroValue312
 t213:=underlying314
 a213:=Tryz.isAgg314
 z213:=Tryz.sizeOf314
 t232:=underlying352
 a232:=Tryz.isAgg352
 z232:=Tryz.sizeOf352
 v232:=Tryz.zeroValue352
 t233:=underlying353
 a233:=Tryz.isAgg353
 z233:=Tryz.sizeOf353
 v233:=Tryz.zeroValue353
 g15:=by kernel_rfl
 g16:=by kernel_rfl
 g17:=by kernel_rfl
 g18:=by kernel_rfl
 g19:=by kernel_rfl
 t80:=underlying40
 a80:=Tryz.isAgg40
 z80:=Tryz.sizeOf40
 v80:=Tryz.zeroValue40
 i0:=by kernel_rfl
 i2:=by kernel_rfl
 i3:=by kernel_rfl
 i4:=by kernel_rfl
 i5:=by kernel_rfl
 i9:=by kernel_rfl
 i20:=by kernel_rfl
 i21:=by kernel_rfl
 i37:=by kernel_rfl
 i46:=by kernel_rfl
 i51:=by kernel_rfl
 i53:=by kernel_rfl
 i75:=by kernel_rfl
 i76:=by kernel_rfl
 i80:=by kernel_rfl
 i85:=by kernel_rfl
 i127:=by kernel_rfl
 i143:=by kernel_rfl
 i145:=by kernel_rfl
 i167:=by kernel_rfl
 i168:=by kernel_rfl
 i171:=by kernel_rfl
 i173:=by kernel_rfl
 i175:=by kernel_rfl
 i210:=by kernel_rfl
 i212:=by kernel_rfl
 i232:=by kernel_rfl
 i233:=by kernel_rfl
 m15:=by kernel_rfl
 m16:=by kernel_rfl
 m17:=by kernel_rfl
 m18:=by kernel_rfl
 m19:=by kernel_rfl
 c0:=by kernel_rfl
 c2:=by kernel_rfl
 c3:=by kernel_rfl
 c4:=by kernel_rfl
 c5:=by kernel_rfl
 c9:=by kernel_rfl
 c20:=by kernel_rfl
 c21:=by kernel_rfl
 c37:=by kernel_rfl
 c46:=by kernel_rfl
 c51:=by kernel_rfl
 c53:=by kernel_rfl
 c75:=by kernel_rfl
 c76:=by kernel_rfl
 c80:=by kernel_rfl
 c85:=by kernel_rfl
 c127:=by kernel_rfl
 c143:=by kernel_rfl
 c145:=by kernel_rfl
 c167:=by kernel_rfl
 c168:=by kernel_rfl
 c171:=by kernel_rfl
 c173:=by kernel_rfl
 c175:=by kernel_rfl
 c210:=by kernel_rfl
 c212:=by kernel_rfl
 c213:=by kernel_rfl
 c232:=by kernel_rfl
 c233:=by kernel_rfl }
def Tryz.lays145_ren:Go.Shelf.Ren:=⟨fun|145=>145|220=>193|219=>232|217=>277|225=>278|224=>279|267=>280|266=>304|314=>305|n=>n,fun|9=>9|4=>4|59=>212|3=>3|5=>5|46=>201|146=>342|51=>313|n=>n,fun|1=>6|n=>n⟩
theorem Tryz.lays145:Go.Proofs.Lays.n145 Tryz.prog Tryz.lays145_ren:={
 mixed:=by kernel_rfl
 f145:=Tryz.func145.trans (congrArg some (by kernel_rfl))
 f217:=Tryz.func277.trans (congrArg some (by kernel_rfl))
 f219:=Tryz.func232.trans (congrArg some (by kernel_rfl))
 f220:=Tryz.func193.trans (congrArg some (by kernel_rfl))
 f224:=Tryz.func279.trans (congrArg some (by kernel_rfl))
 f225:=Tryz.func278.trans (congrArg some (by kernel_rfl))
 f266:=Tryz.func304.trans (congrArg some (by kernel_rfl))
 f267:=Tryz.func280.trans (congrArg some (by kernel_rfl))
 f314:=Tryz.func305.trans (congrArg some (by kernel_rfl))
 t3:=underlying3
 a3:=Tryz.isAgg3
 z3:=Tryz.sizeOf3
 v3:=Tryz.zeroValue3
 t4:=underlying4
 a4:=Tryz.isAgg4
 z4:=Tryz.sizeOf4
 v4:=Tryz.zeroValue4
 t5:=underlying5
 a5:=Tryz.isAgg5
 z5:=Tryz.sizeOf5
 v5:=Tryz.zeroValue5
 t9:=underlying9
 a9:=Tryz.isAgg9
 z9:=Tryz.sizeOf9
 v9:=Tryz.zeroValue9
 t46:=underlying201
 a46:=Tryz.isAgg201
 z46:=Tryz.sizeOf201
 v46:=Tryz.zeroValue201
 t51:=underlying313
 a51:=Tryz.isAgg313
 z51:=Tryz.sizeOf313
 v51:=Tryz.zeroValue313
 t59:=underlying212
 a59:=Tryz.isAgg212
 z59:=Tryz.sizeOf212
 v59:=Tryz.zeroValue212
 t146:=underlying342
 a146:=Tryz.isAgg342
 z146:=Tryz.sizeOf342
 v146:=Tryz.zeroValue342
 g1:=by kernel_rfl }
open Go.RowKit Go.Lib in
theorem Tryz.strings_Cut(s sep:ByteArray)(m:Int)(w:World)(hs:s.size<4294967281)(hm:w.cell? ⟨6,0,none⟩=some (.int .i64 m)) :
  Calls Tryz.prog 145 #[.string s,.string sep] w fun e w'=>e = .returned (.tuple #[.string ⟨(Lib.cut s.data.toList sep.data.toList).1.toArray⟩,.string ⟨(Lib.cut s.data.toList sep.data.toList).2.1.toArray⟩,.bool (Lib.cut s.data.toList sep.data.toList).2.2]) /\ ∃n,w'=w.drewN n:=Any.strings_Cut Tryz.lays145 s sep m w hs hm
def Tryz.lays221_ren:Go.Shelf.Ren:=⟨fun|221=>144|268=>190|138=>191|143=>192|195=>229|197=>230|218=>231|219=>232|260=>276|217=>277|225=>278|224=>279|267=>280|266=>304|314=>305|n=>n,fun|9=>9|3=>3|31=>59|4=>4|0=>0|105=>289|21=>21|5=>5|46=>201|119=>207|139=>210|138=>209|146=>342|51=>313|n=>n,fun|1=>6|3=>1|4=>2|n=>n⟩
def Tryz.lays146_ren:Go.Shelf.Ren:=⟨fun|146=>109|221=>144|268=>190|138=>191|143=>192|195=>229|197=>230|218=>231|219=>232|260=>276|217=>277|225=>278|224=>279|267=>280|266=>304|314=>305|n=>n,fun|9=>9|31=>59|3=>3|4=>4|0=>0|105=>289|21=>21|5=>5|46=>201|119=>207|139=>210|138=>209|146=>342|51=>313|n=>n,fun|1=>6|3=>1|4=>2|n=>n⟩
theorem Tryz.lays146:Go.Proofs.Lays.n146 Tryz.prog Tryz.lays146_ren:={
 mixed:=by kernel_rfl
 f138:=Tryz.func191.trans (congrArg some (by kernel_rfl))
 f143:=Tryz.func192.trans (congrArg some (by kernel_rfl))
 f146:=Tryz.func109.trans (congrArg some (by kernel_rfl))
 f195:=Tryz.func229.trans (congrArg some (by kernel_rfl))
 f197:=Tryz.func230.trans (congrArg some (by kernel_rfl))
 f217:=Tryz.func277.trans (congrArg some (by kernel_rfl))
 f218:=Tryz.func231.trans (congrArg some (by kernel_rfl))
 f219:=Tryz.func232.trans (congrArg some (by kernel_rfl))
 f221:=Tryz.func144.trans (congrArg some (by kernel_rfl))
 f224:=Tryz.func279.trans (congrArg some (by kernel_rfl))
 f225:=Tryz.func278.trans (congrArg some (by kernel_rfl))
 f260:=Tryz.func276.trans (congrArg some (by kernel_rfl))
 f266:=Tryz.func304.trans (congrArg some (by kernel_rfl))
 f267:=Tryz.func280.trans (congrArg some (by kernel_rfl))
 f268:=Tryz.func190.trans (congrArg some (by kernel_rfl))
 f314:=Tryz.func305.trans (congrArg some (by kernel_rfl))
 t0:=underlying0
 a0:=Tryz.isAgg0
 z0:=Tryz.sizeOf0
 v0:=Tryz.zeroValue0
 t3:=underlying3
 a3:=Tryz.isAgg3
 z3:=Tryz.sizeOf3
 v3:=Tryz.zeroValue3
 t4:=underlying4
 a4:=Tryz.isAgg4
 z4:=Tryz.sizeOf4
 v4:=Tryz.zeroValue4
 t5:=underlying5
 a5:=Tryz.isAgg5
 z5:=Tryz.sizeOf5
 v5:=Tryz.zeroValue5
 t9:=underlying9
 a9:=Tryz.isAgg9
 z9:=Tryz.sizeOf9
 v9:=Tryz.zeroValue9
 t21:=underlying21
 a21:=Tryz.isAgg21
 z21:=Tryz.sizeOf21
 v21:=Tryz.zeroValue21
 t31:=underlying59
 a31:=Tryz.isAgg59
 z31:=Tryz.sizeOf59
 v31:=Tryz.zeroValue59
 t46:=underlying201
 a46:=Tryz.isAgg201
 z46:=Tryz.sizeOf201
 v46:=Tryz.zeroValue201
 t51:=underlying313
 a51:=Tryz.isAgg313
 z51:=Tryz.sizeOf313
 v51:=Tryz.zeroValue313
 t105:=underlying289
 a105:=Tryz.isAgg289
 z105:=Tryz.sizeOf289
 v105:=Tryz.zeroValue289
 t119:=underlying207
 a119:=Tryz.isAgg207
 z119:=Tryz.sizeOf207
 t138:=underlying209
 a138:=Tryz.isAgg209
 z138:=Tryz.sizeOf209
 v138:=Tryz.zeroValue209
 t139:=underlying210
 a139:=Tryz.isAgg210
 z139:=Tryz.sizeOf210
 v139:=Tryz.zeroValue210
 t146:=underlying342
 a146:=Tryz.isAgg342
 z146:=Tryz.sizeOf342
 v146:=Tryz.zeroValue342
 g1:=by kernel_rfl
 g3:=by kernel_rfl
 g4:=by kernel_rfl }
def Tryz.lays196_ren:Go.Shelf.Ren:=⟨fun|196=>108|259=>143|n=>n,fun|9=>9|4=>4|3=>3|5=>5|12=>12|119=>207|0=>0|46=>201|139=>210|138=>209|53=>252|n=>n,fun|3=>1|4=>2|n=>n⟩
theorem Tryz.lays196:Go.Proofs.Lays.n196 Tryz.prog Tryz.lays196_ren:={
 mixed:=by kernel_rfl
 f196:=Tryz.func108.trans (congrArg some (by kernel_rfl))
 f259:=Tryz.func143.trans (congrArg some (by kernel_rfl))
 t0:=underlying0
 a0:=Tryz.isAgg0
 z0:=Tryz.sizeOf0
 v0:=Tryz.zeroValue0
 t3:=underlying3
 a3:=Tryz.isAgg3
 z3:=Tryz.sizeOf3
 v3:=Tryz.zeroValue3
 t4:=underlying4
 a4:=Tryz.isAgg4
 z4:=Tryz.sizeOf4
 v4:=Tryz.zeroValue4
 t5:=underlying5
 a5:=Tryz.isAgg5
 z5:=Tryz.sizeOf5
 v5:=Tryz.zeroValue5
 t9:=underlying9
 a9:=Tryz.isAgg9
 z9:=Tryz.sizeOf9
 v9:=Tryz.zeroValue9
 t12:=underlying12
 a12:=Tryz.isAgg12
 z12:=Tryz.sizeOf12
 v12:=Tryz.zeroValue12
 t46:=underlying201
 a46:=Tryz.isAgg201
 z46:=Tryz.sizeOf201
 v46:=Tryz.zeroValue201
 t53:=underlying252
 a53:=Tryz.isAgg252
 z53:=Tryz.sizeOf252
 v53:=Tryz.zeroValue252
 t119:=underlying207
 a119:=Tryz.isAgg207
 z119:=Tryz.sizeOf207
 t138:=underlying209
 a138:=Tryz.isAgg209
 z138:=Tryz.sizeOf209
 v138:=Tryz.zeroValue209
 t139:=underlying210
 a139:=Tryz.isAgg210
 z139:=Tryz.sizeOf210
 v139:=Tryz.zeroValue210
 g3:=by kernel_rfl
 g4:=by kernel_rfl }
end Go.Proofs
