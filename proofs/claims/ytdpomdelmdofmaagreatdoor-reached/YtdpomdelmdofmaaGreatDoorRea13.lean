import Derived.Test.YtdpomdelmdofmaaGreatDoorRea12
import Derived.Lib.ValidU
open Or renaming inr->AI,inl->BY
open Option renaming map_eq_some_iff->AS
open List renaming length_map->AT,map_congr_left->A2,mem_map_of_mem->A3,tail_cons->A6,length_append->CD,length_cons->CH,getElem_cons_zero->CL,map_map->C1,getElem_map->Dt,take_length->DD,mem_cons->D2,mem_map->E0
open Go.DataW renaming agg->A1,insert->D3,put->F1,map->F2
open Go renaming bytesBefore->A4,Value->Ft
open Go.WideAt renaming bytes_irrefl->A5,atKey_mem->Dp
open Go.Lit renaming string->Bs
open List.Pairwise renaming and_mem->CR
open Except renaming error->C2
open Go.Maps renaming has->D0
open Go.WideShapes renaming bytes_trans->D1
open Prod renaming snd->FD
namespace Go.Proofs.YtdpomdelmdofmaaGreatDoor
open Go.Proofs.Tryz Go.Maps Go.RowKit
variable{l t:By}{d x lv:Int}{f i g:Nat}{v u:Ft}{es:List (Lit×To)}{w:World}{a c:dS}
def Hd(l:By):Prop:=∃c t,l=c::t/\jC c=false/\c≠93/\c≠125
theorem Hd.skB(h:Hd l)(r:By):eF (l++r)=l++r:=by
 obtain⟨c,t,rfl,hb,_⟩:=h;simp[eF,hb]
theorem Hd.tk(h:Hd l)(r:By){k:UInt8}(hk:k=93\/k=125):eA (l++r) k=false:=by
 obtain⟨c,t,rfl,_,h1,h2⟩:=h;rw[List.cons_append,Dy,beq_eq_false_iff_ne]
 grind
theorem Z4{c:UInt8}(h:fK c=true):jC c=false/\c≠93/\c≠125:=by
 refine⟨?_,?_,?_⟩
 ·have h1:48<=c.toNat:=by unfold fK at h;grind
  unfold jC;simp only[Bool.or_eq_false_iff,beq_eq_false_iff_ne];refine⟨⟨⟨?_,?_⟩,?_⟩,?_⟩;all_goals (rintro rfl;simp at h1)
 ·rintro rfl;exact absurd h (by decide)
 ·rintro rfl;exact absurd h (by decide)
theorem Qz{n:Nm}(hg:Gn n):∃c t,Cm n=c::t/\(c=45\/fK c=true):=by
 rcases hg with rfl|⟨hne,hd,_⟩
 ·exact⟨48,[],rfl,AI (by decide)⟩
 ·obtain⟨ng,ds,ex⟩:=n;simp only at hne hd;unfold Cm;rw[if_neg hne];cases ng with
  | true=>simp_all
  | false=>
   cases ds with
   | nil=>grind
   | cons c t=>grind
theorem R5{v:To}(h:dY d x f lv v):Hd (dZ f v):=by
 cases f with
 | zero=>cases h
 | succ f=>
  obtain⟨_,⟨k,hk,rfl⟩|⟨s,_,rfl⟩|⟨n,hn,_,_,rfl⟩|⟨es,_,rfl⟩|⟨es,_,_,rfl⟩⟩:=h
  ·rw[Hv]
   match k,hk with
   | 0,_=>exact⟨110,_,rfl,by decide,by decide,by decide⟩
   | 1,_=>exact⟨116,_,rfl,by decide,by decide,by decide⟩
   | 2,_=>exact⟨102,_,rfl,by decide,by decide,by decide⟩
  ·rw[GW];exact⟨34,_,rfl,by decide,by decide,by decide⟩
  ·rw[Jr];obtain⟨c,t,e,hc⟩:=Qz hn;refine⟨c,t,e,?_⟩;rcases hc with rfl|hc
   ·exact⟨by decide,by decide,by decide⟩
   ·exact Z4 hc
  ·rw[CV];exact⟨91,_,rfl,by decide,by decide,by decide⟩
  ·rw[GX];exact⟨123,_,rfl,by decide,by decide,by decide⟩
theorem Wg{cl:UInt8}(h:cl=93\/cl=125)(r:By):Nd (cl::r):=by
 intro c t e;injection e with e1 e2;subst e1;rcases h with rfl|rfl
 ·exact⟨by decide,by decide,by decide,by decide⟩
 ·exact⟨by decide,by decide,by decide,by decide⟩
theorem Wf(r:By):Nd (44::r):=by
 intro c t e;injection e with e1 e2;subst e1;exact⟨by decide,by decide,by decide,by decide⟩
theorem L9{cl:UInt8}(h:cl=93\/cl=125)(r:By):eF (cl::r)=cl::r:=by
 rcases h with rfl|rfl
 ·rfl
 ·rfl
theorem Wp{σ:Type}(cl:UInt8)(hcl:cl=93\/cl=125)(item:By->σ->Option (By×σ))(P:Nat->σ->Prop)(r:By):∀ (xs:List By) (k:Nat) (s:σ) (n:Nat),
  (∀i (h:i<xs.length) s rest,P (k+i) s->Nd rest -> ∃s',item (xs[i]++rest) s=some (rest,s')/\P (k+i+1) s')->(∀y∈xs,Hd y)->xs≠[]->xs.length<=n->P k s ->
  ∃s',gB cl item n (Am xs++cl::r) s=some (r,s')/\P (k+xs.length) s':=by
 intro xs;induction xs with
 | nil=>grind
 | cons y ys ih=>
  intro k s n hit q0 _ hn hP
  match n,hn with
  | n+1,hn=>
   have hy:=q0 y (by simp);have e1:Am (y::ys)++cl::r=y++(BC ys++cl::r):=by simp[Am]
   rw[e1];unfold gB;rw[hy.skB];cases ys with
   | nil=>
    obtain⟨s',h1,h2⟩:=hit 0 (by simp) s (cl::r) hP (Wg hcl r);simp only[CL] at h1;simp only[BC,List.nil_append];rw[h1];simp only;rw[L9 hcl,if_pos (by rw[Dy];simp)]
    grind
   | cons z zs=>
    have e2:BC (z::zs)++cl::r=44::(Am (z::zs)++cl::r):=by rfl
    rw[e2];obtain⟨s',h1,h2⟩:=hit 0 (by simp) s (44::(Am (z::zs)++cl::r)) hP (Wf _);simp only[CL] at h1;rw[h1];simp only;have e3:eF (44::(Am (z::zs)++cl::r))=44::(Am (z::zs)++cl::r):=rfl;have e4:eA (44::(Am (z::zs)++cl::r)) cl=false:=by
     rw[Dy]
     grind
    rw[e3,e4,if_neg (by decide),if_pos (by rfl),A6];obtain⟨s2,h3,h4⟩:=ih (k+1) s' n (fun i hi s rest hp hr=>by
     have:=hit (i+1) (by grind) s rest (by grind) hr
     grind) (by grind) (by simp) (by grind) h2
    grind
theorem JW(xs:List By)(h:∀y∈xs,Hd y):xs.length<=(Am xs).length:=by
 have hr:∀ys:List By,ys.length<=(BC ys).length:=by
  intro ys;induction ys with
  | nil=>simp
  | cons y r ih=>simp[BC];omega
 cases xs with
 | nil=>simp
 | cons y r=>
  obtain⟨c,t,e,_⟩:=h y (by simp);have:=hr r;simp[Am,e];omega
theorem JB{σ:Type}(op cl:UInt8)(hcl:cl=93\/cl=125)(item:By->σ->Option (By×σ))(P:Nat->σ->Prop)(r:By)(xs:List By)(s:σ)(hit:∀i (h:i<xs.length) s rest,P i s->Nd rest -> ∃s',item (xs[i]++rest) s=some (rest,s')/\P (i+1) s')(q0:∀y∈xs,Hd y)(hP:P 0 s):
  ∃s',Bn op cl item (op::(Am xs++cl::r)) s=some (r,s')/\P xs.length s':=by
 unfold Bn;rw[if_pos (by rw[Dy];simp),A6];cases xs with
 | nil=>
  rw[show Am []++cl::r=cl::r from rfl,L9 hcl,if_pos (by rw[Dy];simp),A6]
  grind
 | cons y ys=>
  have hy:=q0 y (by simp);have e1:Am (y::ys)++cl::r=y++(BC ys++cl::r):=by simp[Am]
  have e2:eF (Am (y::ys)++cl::r)=Am (y::ys)++cl::r:=by rw[e1,hy.skB]
  have e3:eA (Am (y::ys)++cl::r) cl=false:=by rw[e1];exact hy.tk _ hcl
  rw[e2,e3,if_neg (by decide)];have hj:=JW (y::ys) q0;obtain⟨s',h1,h2⟩:=Wp cl hcl item P r (y::ys) 0 s ((Am (y::ys)++cl::r).length+1) (by grind) q0 (by simp) (by grind) hP
  grind
theorem En:∀ (a b:By),A4 a b=true->a<b
 | [],[],h=>by simp[A4] at h
 | _::_,[],h=>by simp[A4] at h
 | [],_::_,_=>List.nil_lt_cons _ _
 | a::r,b::s,h=>by
  simp only[A4,Bool.or_eq_true,Bool.and_eq_true,decide_eq_true_eq,beq_iff_eq] at h;rw[List.cons_lt_cons_iff];rcases h with h|⟨h1,h2⟩
  ·grind
  ·exact AI ⟨h1,En r s h2⟩
theorem JM(hp:es.Pairwise (fun p q=>p.1.before q.1=true))(hk:∀p∈es,∃s,p.1=.string s):(fB es).mergeSort (fun a b=>decide (a<=b))=fB es:=by
 apply List.mergeSort_of_pairwise;unfold fB;rw[List.pairwise_map];refine (CR.1 hp).imp ?_;rintro p q ⟨h1,h2,h3⟩;obtain⟨s,hs⟩:=hk p h1;obtain⟨t,ht⟩:=hk q h2;rw[hs,ht] at h3 |-;simp only[decide_eq_true_eq];exact List.le_of_lt (En s t h3)
theorem Mc(hp:es.Pairwise (fun p q=>p.1.before q.1=true))(hk:∀p∈es,∃s,p.1=.string s):es.Pairwise (fun p q=>p.1≠q.1):=by
 refine (CR.1 hp).imp ?_;rintro p q ⟨h1,h2,h3⟩ e;obtain⟨s,hs⟩:=hk p h1;rw[<- e,hs] at h3;have:=A5 s;rw[show (Bs s).before (Bs s)=A4 s s from rfl,this] at h3;cases h3
def gV(f:Nat)(p:Lit×To):By:=Ag (strOf p.1)++58::dZ f p.2
theorem Hi(hp:es.Pairwise (fun p q=>p.1.before q.1=true))(hk:∀p∈es,∃s,p.1=.string s):dZ (f+1) (Ap es)=123::(Am (es.map (gV f))++[125]):=by
 rw[GX,JM hp hk];have:(fB es).map (fun k=>Ag k++58::dZ f (fT es k))=es.map (gV f):=by
  unfold fB;rw[C1];apply A2;intro p q0;obtain⟨s,hs⟩:=hk p q0;have h2:fT es s=p.2:=by
   unfold fT;exact Dp .nil trivial (Mc hp hk) (by grind)
  obtain⟨k,v⟩:=p;simp only at hs h2;subst hs;simp only[Function.comp,gV,strOf];rw[h2]
 rw[this]
theorem Gy{x:Lit×To}{l:List (Lit×To)}(h:∀p∈l,x.1.before p.1=false):D3 x l=l++[x]:=by
 induction l with
 | nil=>rfl
 | cons y r ih=>
  unfold D3
  grind
theorem GM{fl:Fl}{e:Int}(hlv:lv<=d)(h:gM d x fl)(he:e<=x):gM d x (fl.1,(max fl.2.1 lv,e)):=by
 obtain⟨h1,h2,h3⟩:=h;exact⟨h1,by grind,he⟩
theorem Pj{p q:Lit×To}(hp:∃s,p.1=.string s)(hq:∃s,q.1=.string s)(h:p.1.before q.1=true):q.1.before p.1=false:=by
 obtain⟨s,hs⟩:=hp;obtain⟨t,ht⟩:=hq;rw[hs,ht] at h |-;cases hb:(Bs t).before (Bs s) with
 | false=>rfl
 | true=>
  have:=D1 s t s h hb;rw[A5] at this;cases this
theorem VT(hp:es.Pairwise (fun p q=>p.1.before q.1=true))(hk:∀p∈es,∃s,p.1=.string s)(hi:i<es.length){k:By}(q5:es[i].1=.string k):
  F1 (Ap (es.take i)) (.string k) es[i].2=Ap (es.take (i+1))/\D0 (Ap (es.take i)) (.string k)=false:=by
 have hb:∀p∈es.take i,p.1.before es[i].1=true:=by
  intro p q0;obtain⟨j,hj,e⟩:=List.getElem_of_mem q0;rw[List.length_take] at hj;rw[List.getElem_take] at e;rw[<- e];exact List.pairwise_iff_getElem.1 hp j i (by omega) hi (by omega)
 have q6:∀p∈es.take i,∃s,p.1=.string s:=by grind
 have q7:∀p∈es.take i,p.1.sameKey (.string k)=false:=by
  intro p q0;have h1:=hb p q0;obtain⟨s,hs⟩:=q6 p q0;rw[q5,hs] at h1;rw[hs];show (s==k)=false;rw[beq_eq_false_iff_ne];rintro rfl;rw[show (Bs s).before (Bs s)=A4 s s from rfl,A5] at h1;cases h1
 have q4:((es.take i).filter fun p=>!p.1.sameKey (.string k))=es.take i:=List.filter_eq_self.2 (by grind);constructor
 ·simp only[Ap,F1,q4];rw[Gy (fun p q0=>by
   have:=Pj (p:=p) (q:=es[i]) (q6 p q0) ⟨k,q5⟩ (hb p q0)
   grind),List.take_succ_eq_append_getElem hi]
  grind
 ·simp only[Ap,D0]
  grind
theorem XY(hx:x<=1000000)(f:Nat):∀ (lv:Int) (v:To),dY d x f lv v -> ∀ (fl:Fl) (r:By),Nd r -> ∃fl',eN f lv (dZ f v++r) fl=some (v,r,fl')/\(gM d x fl->gM d x fl'):=by
 induction f with
 | zero=>intro lv v h;cases h
 | succ f ih=>
  intro lv v h fl r hr;obtain⟨hlv,⟨k,hk,rfl⟩|⟨s,hs,rfl⟩|⟨n,hn,q8,q9,rfl⟩|⟨es,q0,rfl⟩|⟨es,hp,q0,rfl⟩⟩:=h
  ·refine⟨(fl.1,(max fl.2.1 lv,fl.2.2)),?_,fun ho=>GM hlv ho ho.2.2⟩;rw[Hv]
   match k,hk with
   | 0,_=>rfl
   | 1,_=>rfl
   | 2,_=>rfl
  ·refine⟨(fl.1,(max fl.2.1 lv,fl.2.2)),?_,fun ho=>GM hlv ho ho.2.2⟩;rw[GW];have hq:=Oa hs r;have hpk:eS (Ag s++r)=34:=rfl
   grind [eN,dZ,gV]
  ·refine⟨(fl.1,(max fl.2.1 lv,max (max fl.2.2 n.2.2) (-n.2.2))),?_,fun ho=>GM hlv ho (by have:=ho.2.2;omega)⟩;rw[Jr];have hq:=V7 hn ⟨by omega,by omega⟩ r hr;obtain⟨c,t,e,hc⟩:=Qz hn;have hpk:eS (Cm n++r)=c.toNat:=by rw[e];rfl
   have q7:c.toNat=45\/(48<=c.toNat/\c.toNat<=57):=by
    rcases hc with rfl|hc
    ·grind
    ·unfold fK at hc;grind
   grind [eN,dZ,gV]
  ·have hj:=JB (σ:=List To×Fl) 91 93 (BY rfl) (CI (eN f (lv+1))) (fun i s=>s.1=es.take i/\(gM d x fl->gM d x s.2)) r (es.map (dZ f)) ([],(fl.1,(max fl.2.1 lv,fl.2.2))) (by
    rintro i hi ⟨a,fl1⟩ rest ⟨ha,hf⟩ hrest;rw[AT] at hi;simp only at ha hf;subst ha;rw[Dt];obtain⟨q5,h1,h2⟩:=ih (lv+1) es[i] (by grind) fl1 rest hrest;unfold CI
    simp_all) (by
    intro y hy;obtain⟨e,he,rfl⟩:=E0.1 hy;exact R5 (q0 e he)) ⟨by simp,fun ho=>GM hlv ho ho.2.2⟩
   obtain⟨⟨es',fl'⟩,h1,h2,h3⟩:=hj;rw[AT,DD] at h2;simp only at h2 h3;subst h2;refine⟨fl',?_,h3⟩;rw[CV]
   grind [eN,dZ,gV,gM,Am,AT,eS,CI]
  ·have hk:∀p∈es,∃s,p.1=.string s:=by grind
   have hj:=JB (σ:=To×Fl) 123 125 (AI rfl) (Cr (eN f (lv+1))) (fun i s=>s.1=Ap (es.take i)/\(gM d x fl->gM d x s.2)) r (es.map (gV f)) (Ap [],(fl.1,(max fl.2.1 lv,fl.2.2))) (by
    rintro i hi ⟨a,fl1⟩ rest ⟨ha,hf⟩ hrest;rw[AT] at hi;simp only at ha hf;subst ha;rw[Dt];obtain⟨⟨k,q4,q6⟩,hg⟩:=q0 es[i] (List.getElem_mem hi);obtain⟨q5,h1,h2⟩:=ih (lv+1) es[i].2 hg fl1 rest hrest;obtain⟨q1,q2⟩:=VT hp hk hi q4;have e1:gV f es[i]++rest=Ag k++(58::(dZ f es[i].2++rest)):=by
     unfold gV;rw[q4];simp[strOf]
    rw[e1];unfold Cr;rw[Oa q6];simp only;rw[show eF (58::(dZ f es[i].2++rest))=58::(dZ f es[i].2++rest) from rfl,if_pos (by rfl),A6,(R5 hg).skB,h1]
    grind) (by
    intro y hy;obtain⟨e,he,rfl⟩:=E0.1 hy;exact⟨34,_,rfl,by decide,by decide,by decide⟩) ⟨rfl,fun ho=>GM hlv ho ho.2.2⟩
   obtain⟨⟨v',fl'⟩,h1,h2,h3⟩:=hj;rw[AT,DD] at h2;simp only at h2 h3;subst h2;refine⟨fl',?_,h3⟩;rw[Hi hp hk]
   grind [eN,dZ,gV,gM,Am,AT,eS,CI]
theorem Ej{v:To}(h:eH t d x=(0,some v)):dY d x top 1 v:=by
 unfold eH at h;split at h
 ·grind
 ·split at h
  ·grind
  ·rename_i v2 r fl hv;split at h
   ·split at h
    ·grind
    ·rename_i k1;split at h
     ·grind
     ·rename_i k2;split at h
      ·grind
      ·rename_i k3;injection h with h1 h2;injection h2 with h2;subst h2;exact (Zu d x _ _ _ _ _ _ _ hv ⟨by grind,by omega,by omega⟩).2
   grind
theorem Tq{v:To}(hg:dY d x top 1 v)(q0:0<=x)(hx:x<=1000000)(a b:By)(ha:∀l,eF (a++l)=eF l)(hb:eF b=[])(hnd:Nd b)(hl:(a++(dZ top v++b)).length<=2000):
  eH (a++(dZ top v++b)) d x=(0,some v):=by
 have q4:1<=d:=by
  have q5:∀f,dY d x f 1 v->1<=d:=by
   intro f h;cases f with
   | zero=>cases h
   | succ f=>exact h.1
  grind
 obtain⟨fl',h1,h2⟩:=XY hx top 1 v hg (false,(0,0)) b hnd;obtain⟨k1,k2,k3⟩:=h2 ⟨rfl,by grind,q0⟩;rw[Jx (by omega) (by rw[ha,(R5 hg).skB];exact h1),hb,if_pos (by grind),k1,if_neg (by decide),if_neg (by omega),if_neg (by omega)]
def gS:By:=[48,49,50,51,52,53,54,55,56,57]
def gF(q0:Nat)(l:By):Nat:=l.foldl (fun a c=>a*10+(c.toNat-48)) q0
def eZ(t:By):Option Nat:=
 if t=[]\/(1<t.length/\t[0]? = some 48)\/t.all (gS.contains ·)=false then none else some (min (gF 0 t) 9223372036854775807)
theorem JX(h:t=[]\/(1<t.length/\t[0]? = some 48)\/t.all (gS.contains ·)=false):eZ t=none:=by grind [eZ]
theorem OK(h:¬ (t=[]\/(1<t.length/\t[0]? = some 48)\/t.all (gS.contains ·)=false)):eZ t=some (min (gF 0 t) 9223372036854775807):=by grind [eZ]
theorem QZ(b:UInt8)(h:gS.contains b=true):48<=b.toNat/\b.toNat<=57:=by
 simp only[gS,List.contains_eq_mem,D2,List.not_mem_nil,or_false,decide_eq_true_eq] at h;rcases h with rfl|rfl|rfl|rfl|rfl|rfl|rfl|rfl|rfl|rfl<;>decide
def Aq(d:To)(t:By):Except Nat To:=match d with
 | .map es=>if D0 (.map es:To) (.string t)=true then .ok ((F2 es).atKey (.string t) .nil) else .error 11
 | .slice es _=>match eZ t with
  | none=>.error 12
  | some i=>match es[i]? with
   | some e=>.ok e
   | none=>.error 11
 | _=>.error 11
def Ah(d:To):List By->Except Nat To
 | []=>.ok d
 | t::r=>match Aq d t with
  | .ok e=>Ah e r
  | .error c=>.error c
def eO:By->Option By
 | []=>some []
 | c::r=>if c=126 then (match r with
  | 48::q=>(eO q).map (126 :: ·)
  | 49::q=>(eO q).map (47 :: ·)
  | _=>none)
  else (eO r).map (c :: ·)
theorem Eq(c:UInt8)(r:By):eO (c::r)=if c=126 then (match r with
  | 48::q=>(eO q).map (126 :: ·)
  | 49::q=>(eO q).map (47 :: ·)
  | _=>none)
  else (eO r).map (c :: ·):=by
 match r with
 | []=>rfl
 | b::q=>
  by_cases h0:b=48
  ·subst h0;rfl
  ·by_cases h1:b=49
   ·subst h1;rfl
   ·conv=>lhs;unfold eO
    rfl
def fV(l:By):By:=l.takeWhile (fun c=>c != 126)
def eU:By->List By
 | []=>[[]]
 | c::r=>if c=47 then []::eU r else match eU r with
  | p::eV=>(c::p)::eV
  | []=>[[c]]
def iF(l:By):By:=l.takeWhile (fun c=>c != 47)
def gC:List By->Option (List By)
 | []=>some []
 | t::r=>match eO t with
  | none=>none
  | some k=>(gC r).map (k :: ·)
def fL(l:By):Option (List By):=if Lib.validD l=true then (match eU l with
 | []::r=>gC r
 | _=>none) else none
noncomputable def veq(a b:To):Bool:=@decide (a=b) (Classical.propDecidable _)
theorem EV{a b:To}(h:a=b):veq a b=true:=by unfold veq;grind
theorem Ep{a b:To}(h:a≠b):veq a b=false:=by unfold veq;grind
theorem QN{k:Lit}(hd:es.Pairwise (fun p q=>p.1≠q.1))(hk:∀p∈es,∃s,p.1=.string s)(h:D0 (.map es:To) k=true):∃p∈es,p.1=k/\(F2 es).atKey k .nil=p.2:=by
 obtain⟨p,hp,hs⟩:=List.any_eq_true.1 (show es.any (fun p=>p.1.sameKey k)=true from h);have e:=WideAt.sameKey_eq hs;obtain⟨s,hs2⟩:=hk p hp;refine⟨p,hp,e,?_⟩;subst e;exact Dp .nil (by rw[hs2];trivial) hd (by omega)
theorem MH{x:By}:∀ {l:List By},x∈l->x.length<=(Am l).length
 | [],h=>by cases h
 | y::r,h=>by
  have hR:∀ {l:List By},x∈l->x.length<=(BC l).length:=by
   intro l;induction l with
   | nil=>grind
   | cons z s ih=>
    intro h;simp only[BC,CH,CD]
    grind
  simp only[Am,CD]
  grind
theorem OS{dd xx:Int}{d e:To}(h:dY dd xx (f+1) lv d)(hc:Aq d t=.ok e):dY dd xx f (lv+1) e/\(dZ f e).length<=(dZ (f+1) d).length:=by
 obtain⟨_,h⟩:=h;rcases h with⟨k,_,rfl⟩|⟨s,_,rfl⟩|⟨n,_,_,_,rfl⟩|⟨es,h,rfl⟩|⟨es,hp,hk,rfl⟩
 ·have:(C2 11:Except Nat To)=.ok e:=hc;cases this
 ·have:(C2 11:Except Nat To)=.ok e:=hc;cases this
 ·have:(C2 11:Except Nat To)=.ok e:=hc;cases this
 ·unfold Aq Af at hc;simp only at hc;split at hc
  ·cases hc
  ·split at hc
   ·rename_i x hx;injection hc with hc;subst hc;have hm:=List.mem_of_getElem? hx;refine⟨h _ hm,?_⟩;rw[CV];have:=MH (A3 (f:=dZ f) hm)
    grind
   ·cases hc
 ·have q0:∀p∈es,∃s,p.1=.string s:=by grind
  unfold Aq Ap at hc;simp only at hc;split at hc
  ·rename_i hh;obtain⟨p,q4,_,he⟩:=QN (Mc hp q0) q0 hh;injection hc with hc;rw[he] at hc;subst hc;refine⟨(hk p q4).2,?_⟩;rw[Hi hp q0];have:=MH (A3 (f:=gV f) q4);simp only[gV,CH,CD] at this |-;omega
  ·cases hc
theorem QR{dd xx:Int}:∀ (l:List By) (f:Nat) (lv:Int) (d e:To),dY dd xx f lv d->Ah d l=.ok e -> ∃f' q0,f'<=f/\dY dd xx f' q0 e/\(dZ f' e).length<=(dZ f d).length
 | [],f,lv,d,e,h,hf=>by
  grind [Ah,dY,dZ]
 | t::r,0,lv,d,e,h,hf=>h.elim
 | t::r,f+1,lv,d,e,h,hf=>by
  unfold Ah at hf;split at hf
  ·rename_i e1 h1;obtain⟨a,b⟩:=OS h h1;obtain⟨f',q0,c1,c2,c3⟩:=QR r f _ _ _ a hf
   grind
  ·cases hf
theorem F9{dd xx:Int}:∀ (f g:Nat) (lv:Int) (d:To),dY dd xx f lv d->f<=g->dZ g d=dZ f d
 | 0,_,_,_,h,_=>h.elim
 | f+1,0,_,_,_,hg=>by omega
 | f+1,g+1,lv,d,h,hg=>by
  obtain⟨_,h⟩:=h;rcases h with⟨k,_,rfl⟩|⟨s,_,rfl⟩|⟨n,_,_,_,rfl⟩|⟨es,h,rfl⟩|⟨es,hp,hk,rfl⟩
  ·rfl
  ·rfl
  ·rfl
  ·rw[CV,CV,A2 fun e he=>F9 f g _ e (h e he) (by omega)]
  ·have q0:∀p∈es,∃s,p.1=.string s:=fun p q4=>by grind
   rw[Hi hp q0,Hi hp q0,A2 fun p q4=>show gV g p=gV f p by unfold gV;rw[F9 f g _ p.2 (hk p q4).2 (by omega)]]
theorem Rep.up1:∀ {f:Nat} {F:Nat->Prop} {w:World} {v:Ft} {d:To},Rep f F w v d->Rep (f+1) F w v d:=by
 intro f;induction f with
 | zero=>intro F w v d h;exact h.elim
 | succ f ih=>
  intro F w v d h;obtain⟨b,hv,hb,h⟩:=h;rcases h with h|h|h|⟨es,sl,ps,hd,h,ho,hs,ha⟩|⟨es,m,n,D,hd,h,hm,ho,hp⟩
  ·exact⟨b,hv,hb,BY h⟩
  ·exact⟨b,hv,hb,AI (BY h)⟩
  ·exact⟨b,hv,hb,by grind⟩
  ·exact⟨b,hv,hb,AI (AI (AI (BY ⟨es,sl,ps,hd,h,ho,hs,ha.mono fun _ _ h=>ih h⟩)))⟩
  ·exact⟨b,hv,hb,AI (AI (AI (AI ⟨es,m,n,D,hd,h,hm,ho,hp.mono fun _ _ h=>ih h⟩)))⟩
theorem Rep.up{F:Nat->Prop}{d:To}(h:Rep f F w v d)(hg:f<=g):Rep g F w v d:=by
 induction g with
 | zero=>grind
 | succ g ih=>
  by_cases e:f=g+1
  ·grind
  ·exact (ih (by omega)).up1
theorem I9:∀ (n:Nat) (t k:By),t.length<=n->eO t=some k->k.length<=t.length
 | _,[],k,_,h=>by
  have:(some []:Option By)=some k:=h
  grind
 | 0,_::_,_,hn,_=>by simp at hn
 | n+1,c::r,k,hn,h=>by
  rw[Eq] at h;simp only[CH] at hn |-;split at h
  ·split at h
   ·rename_i q;obtain⟨a,ha,rfl⟩:=AS.1 h;have:=I9 n q a (by grind) ha
    grind
   ·rename_i q;obtain⟨a,ha,rfl⟩:=AS.1 h;have:=I9 n q a (by grind) ha
    grind
   ·cases h
  ·obtain⟨a,ha,rfl⟩:=AS.1 h;have:=I9 n r a (by omega) ha
   grind
theorem KP:∀ (ts ks:List By),gC ts=some ks->ks.length=ts.length /\ ∀k∈ks,∃t∈ts,k.length<=t.length
 | [],ks,h=>by
  have:(some []:Option (List By))=some ks:=h
  grind
 | t::r,ks,h=>by
  unfold gC at h;split at h
  ·cases h
  ·rename_i k hk;obtain⟨a,ha,rfl⟩:=AS.1 h;obtain⟨h1,h2⟩:=KP r a ha;refine⟨by simp[h1],fun x hx=>?_⟩;rcases D2.1 hx with rfl|hx
   ·exact⟨t,by simp,I9 _ _ _ (Nat.le_refl _) hk⟩
   grind
theorem TE:∀ (l:By),(eU l).length<=l.length+1 /\ ∀t∈eU l,t.length<=l.length
 | []=>by simp[eU]
 | c::r=>by
  obtain⟨h1,h2⟩:=TE r;unfold eU
  grind
theorem NN{ks:List By}(h:fL l=some ks):ks.length<=l.length /\ ∀k∈ks,k.length<=l.length:=by
 unfold fL at h;split at h
 ·split at h
  ·rename_i r hp;obtain⟨h1,h2⟩:=KP _ _ h;obtain⟨h3,h4⟩:=TE l
   grind
  ·cases h
 ·cases h
theorem GO{α β:Type}{f g:α->β}{l:List α}(h:∀a∈l,f a=g a):l.map f=l.map g:=A2 h
theorem Jp{α β:Type}{f g:α->List β}{l:List α}(h:∀a∈l,f a=g a):l.flatMap f=l.flatMap g:=by
 induction l with
 | nil=>rfl
 | cons a r ih=>grind
theorem Ad.up1:∀ {f:Nat} {w:World} {v:Ft} {a:dS},Ad f w v a->Ad (f+1) w v a/\fp (f+1) a=fp f a/\dV (f+1) a=dV f a
 | 0,_,_,_,h=>h.elim
 | f+1,w,v,a,h=>by
  obtain⟨b,g,x,rfl,hv,h⟩:=h;rcases h with⟨k,h1,h2,rfl,h⟩|⟨n,h2,rfl,h,q4⟩|⟨s,h2,rfl,h⟩|⟨al,sl,ps,rfl,h,ho,hs,ha⟩|⟨es,n,D,rfl,h,ho,hp⟩
  ·exact⟨⟨b,g,_,rfl,hv,BY ⟨k,h1,h2,rfl,h⟩⟩,rfl,rfl⟩
  ·exact⟨⟨b,g,_,rfl,hv,AI (BY ⟨n,h2,rfl,h,q4⟩)⟩,rfl,rfl⟩
  ·exact⟨⟨b,g,_,rfl,hv,AI (AI (BY ⟨s,h2,rfl,h⟩))⟩,rfl,rfl⟩
  ·have hk:∀c∈al,fp (f+1) c=fp f c/\dV (f+1) c=dV f c:=fun c hc=>by
    obtain⟨u,hu⟩:=ha.right hc;exact (Ad.up1 hu).2
   refine⟨⟨b,g,_,rfl,hv,AI (AI (AI (BY ⟨al,sl,ps,rfl,h,ho,hs,ha.mono fun _ _ h=>(Ad.up1 h).1⟩)))⟩,?_,?_⟩
   ·rw[AP,AP,Jp fun c hc=>(hk c hc).1]
   ·rw[Bq,Bq,GO fun c hc=>(hk c hc).2]
  ·have hk:∀p∈es,fp (f+1) p.2=fp f p.2/\dV (f+1) p.2=dV f p.2:=fun p q0=>by
    obtain⟨u,hu⟩:=hp.right q0;exact (Ad.up1 hu).2
   refine⟨⟨b,g,_,rfl,hv,AI (AI (AI (AI ⟨es,n,D,rfl,h,ho,hp.mono fun _ _ h=>(Ad.up1 h).1⟩)))⟩,?_,?_⟩
   ·rw[Bo,Bo,Jp fun p q0=>(hk p q0).1]
   ·rw[AX,AX,GO (g:=fun p=>(p.1,dV f p.2)) fun p q0=>by grind]
theorem Ad.up(h:Ad f w v a)(hg:f<=g):Ad g w v a/\fp g a=fp f a/\dV g a=dV f a:=by
 induction g with
 | zero=>
  grind
 | succ g ih=>
  by_cases e:f=g+1
  ·grind
  ·obtain⟨h1,h2,h3⟩:=ih (by omega);obtain⟨h4,h5,h6⟩:=h1.up1
   grind
theorem Ad.down1{dd xx:Int}:∀ {f:Nat} {lv:Int} {w:World} {v:Ft} {a:dS},Ad (f+1) w v a->dY dd xx f lv (dV (f+1) a)->Ad f w v a/\fp f a=fp (f+1) a/\dV f a=dV (f+1) a
 | 0,_,_,_,_,_,h=>h.elim
 | f+1,lv,w,v,a,h,hg=>by
  obtain⟨b,g,x,rfl,hv,h⟩:=h;rcases h with⟨k,h1,h2,rfl,h⟩|⟨n,h2,rfl,h,q5⟩|⟨s,h2,rfl,h⟩|⟨al,sl,ps,rfl,h,ho,hs,ha⟩|⟨es,n,D,rfl,h,ho,hp⟩
  ·exact⟨⟨b,g,_,rfl,hv,BY ⟨k,h1,h2,rfl,h⟩⟩,rfl,rfl⟩
  ·exact⟨⟨b,g,_,rfl,hv,AI (BY ⟨n,h2,rfl,h,q5⟩)⟩,rfl,rfl⟩
  ·exact⟨⟨b,g,_,rfl,hv,AI (AI (BY ⟨s,h2,rfl,h⟩))⟩,rfl,rfl⟩
  ·rw[Bq] at hg;obtain⟨_,hg⟩:=hg;rcases hg with⟨_,_,e⟩|⟨_,_,e⟩|⟨_,_,_,_,e⟩|⟨es,hg,e⟩|⟨_,_,_,e⟩
   ·cases e
   ·cases e
   ·cases e
   ·have e2:al.map (dV (f+1))=es:=by injection e
    subst e2;have hk:∀c∈al,∀u,Ad (f+1) w u c->Ad f w u c/\fp f c=fp (f+1) c/\dV f c=dV (f+1) c:=fun c hc u hu=>Ad.down1 hu (hg _ (A3 hc));have hk2:∀c∈al,fp f c=fp (f+1) c/\dV f c=dV (f+1) c:=fun c hc=>by
     obtain⟨u,hu⟩:=ha.right hc
     grind
    refine⟨⟨b,g,_,rfl,hv,AI (AI (AI (BY ⟨al,sl,ps,rfl,h,ho,hs,Al.mem (by grind) ha⟩)))⟩,?_,?_⟩
    ·rw[AP,AP,Jp fun c hc=>(hk2 c hc).1]
    ·rw[Bq,Bq,GO fun c hc=>(hk2 c hc).2]
   ·cases e
  ·rw[AX] at hg;obtain⟨_,hg⟩:=hg;rcases hg with⟨_,_,e⟩|⟨_,_,e⟩|⟨_,_,_,_,e⟩|⟨_,_,e⟩|⟨q4,_,hg,e⟩
   ·cases e
   ·cases e
   ·cases e
   ·cases e
   ·have e2:es.map (fun p=>(p.1,dV (f+1) p.2))=q4:=by injection e
    subst e2;have hk:∀p∈es,∀u,Ad (f+1) w u p.2->Ad f w u p.2/\fp f p.2=fp (f+1) p.2/\dV f p.2=dV (f+1) p.2:=fun p q0 u hu=>Ad.down1 hu (hg _ (A3 (f:=fun p=>(p.1,dV (f+1) p.2)) q0)).2;have hk2:∀p∈es,fp f p.2=fp (f+1) p.2/\dV f p.2=dV (f+1) p.2:=fun p q0=>by
     obtain⟨u,hu⟩:=hp.right q0
     grind
    refine⟨⟨b,g,_,rfl,hv,AI (AI (AI (AI ⟨es,n,D,rfl,h,ho,Pt.mem (fun u p q0 hu=>(hk p q0 u hu).1) hp⟩)))⟩,?_,?_⟩
    ·rw[Bo,Bo,Jp fun p q0=>(hk2 p q0).1]
    ·rw[AX,AX,GO (g:=fun p=>(p.1,dV (f+1) p.2)) (by grind)]
theorem Ad.fit{dd xx:Int}(h:Ad g w v a)(hg:dY dd xx f lv (dV g a))(q4:f<=g):Ad f w v a/\fp f a=fp g a/\dV f a=dV g a:=by
 induction g with
 | zero=>grind
 | succ g ih=>
  by_cases e:f=g+1
  ·grind
  ·have q0:∀ (m f:Nat) (lv:Int) (d:To),dY dd xx f lv d->dY dd xx (f+m) lv d:=by
    intro m f;induction f with
    | zero=>intro _ _ h;exact h.elim
    | succ f ih=>
     grind [dY,dV,fp]
   have h1:=h.down1 (by have:=q0 (g-f) f lv _ hg;rw[show f+(g-f)=g by omega] at this;exact this)
   grind
theorem Ad.uniq{f':Nat}{w':World}{u':Ft}(h:Ad f w u a)(h':Ad f' w' u' a):u=u':=by
 cases f with
 | zero=>exact h.elim
 | succ f=>
  cases f' with
  | zero=>exact h'.elim
  | succ f'=>
   obtain⟨b,g,x,rfl,rfl,_⟩:=h;obtain⟨b2,g2,x2,e,rfl,_⟩:=h';have e1:dW b g x=dW b2 g2 x2:=e;unfold dW at e1
   grind
def er:Nat->dS->dS
 | 0,a=>a
 | f+1,a=>match a with
  | .agg [.lit (.int k b),.lit (.int l g),x]=>(match x with
   | .slice al y=>.agg [.lit (.int k b),.lit (.int l 0),.slice (al.map (er f)) y]
   | .map es=>.agg [.lit (.int k b),.lit (.int l g),.map (es.map fun p=>(p.1,er f p.2))]
   | z=>.agg [.lit (.int k b),.lit (.int l g),z])
  | y=>y
theorem jE(f b g:Nat)(al:List dS):er (f+1) (dW b g (.slice al []))=dW b 0 (.slice (al.map (er f)) []):=rfl
theorem jQ(f b g:Nat)(es:List (Lit×dS)):er (f+1) (dW b g (.map es))=dW b g (.map (es.map fun p=>(p.1,er f p.2))):=rfl
theorem FG(f b g k:Nat):er (f+1) (dW b g (AF k))=dW b g (AF k):=rfl
theorem UH(f b g:Nat)(n:Nm):er (f+1) (dW b g (Bd n))=dW b g (Bd n):=rfl
theorem QW(f b g:Nat)(s:By):er (f+1) (dW b g (Ao s))=dW b g (Ao s):=rfl
theorem jR(a:dS):(∃k b l g al y,a=.agg [.lit (.int k b),.lit (.int l g),.slice al y])\/(∃k b l g es,a=.agg [.lit (.int k b),.lit (.int l g),.map es])\/((∀f,er f a=a)/\AJ a=[] /\ ∀i c,gE a i c=a):=by
 by_cases h1:∃k b l g al y,a=.agg [.lit (.int k b),.lit (.int l g),.slice al y]
 ·grind
 by_cases h2:∃k b l g es,a=.agg [.lit (.int k b),.lit (.int l g),.map es]
 ·grind
 refine AI (AI ⟨fun f=>?_,?_,fun i c=>?_⟩)
 ·cases f with
  | zero=>rfl
  | succ f=>
   unfold er
   grind
 ·unfold AJ
  grind
 ·unfold gE
  grind
theorem E4:∀ (f:Nat) (a:dS),dV f (er f a)=dV f a
 | 0,_=>rfl
 | f+1,a=>by
  rcases jR a with⟨k,b,l,g,al,y,rfl⟩|⟨k,b,l,g,es,rfl⟩|⟨h,_,_⟩
  ·show Af ((al.map (er f)).map (dV f))=Af (al.map (dV f));rw[C1,GO fun c _=>(show (dV f ∘ er f) c=dV f c from E4 f c)]
  ·show Ap ((es.map fun p=>(p.1,er f p.2)).map fun p=>(p.1,dV f p.2))=Ap (es.map fun p=>(p.1,dV f p.2));rw[C1,GO (g:=fun p=>(p.1,dV f p.2)) fun p _=>(show ((fun p=>(p.1,dV f p.2)) ∘ fun p:Lit×dS=>(p.1,er f p.2)) p=(p.1,dV f p.2) by show (p.1,dV f (er f p.2))=_;rw[E4 f p.2])]
  ·rw[h]
theorem QX(f:Nat)(a:dS):AJ (er (f+1) a)=(AJ a).map (er f):=by
 rcases jR a with⟨k,b,l,g,al,y,rfl⟩|⟨k,b,l,g,es,rfl⟩|⟨h,h2,_⟩
 ·rfl
 ·show (es.map fun p=>(p.1,er f p.2)).map FD=(es.map FD).map (er f)
  simp_all
 grind
theorem Fd:∀ (p:List Nat) (f:Nat) (a:dS),eD p (er (f+p.length) a)=(eD p a).map (er f)
 | [],_,_=>rfl
 | i::r,f,a=>by
  show eD (i::r) (er ((f+r.length)+1) a)=_;rw[eD,eD,QX,List.getElem?_map];cases (AJ a)[i]? with
  | none=>rfl
  | some c=>exact Fd r f c
theorem Hl{α β:Type}(q:α->β)(u:α->α)(u':β->β)(h:∀a,q (u a)=u' (q a)):∀ (l:List α) (i:Nat),(l.modify i u).map q=(l.map q).modify i u'
 | [],i=>by simp
 | a::r,0=>by simp[h]
 | a::r,i+1=>by simp[Hl q u u' h r i]
theorem UI(f i:Nat)(a c:dS):er (f+1) (gE a i c)=gE (er (f+1) a) i (er f c):=by
 rcases jR a with⟨k,b,l,g,al,y,rfl⟩|⟨k,b,l,g,es,rfl⟩|⟨h,h2,h3⟩
 ·show A1 [.lit (.int k b),.lit (.int l 0),.slice ((al.set i c).map (er f)) []]=A1 [.lit (.int k b),.lit (.int l 0),.slice ((al.map (er f)).set i (er f c)) []]
  simp_all
 ·show A1 [.lit (.int k b),.lit (.int l g),.map ((es.modify i fun p=>(p.1,c)).map fun p=>(p.1,er f p.2))]=A1 [.lit (.int k b),.lit (.int l g),.map ((es.map fun p=>(p.1,er f p.2)).modify i fun p=>(p.1,er f c))];rw[Hl (fun p:Lit×dS=>(p.1,er f p.2)) (fun p=>(p.1,c)) (fun p=>(p.1,er f c)) fun p=>rfl]
 grind
theorem BO:∀ (p:List Nat) (f:Nat) {a n:dS} (n':dS),eD p a=some n->er (f+p.length) (eI p n' a)=eI p (er f n') (er (f+p.length) a)
 | [],_,_,_,_,_=>rfl
 | i::r,f,a,n,n',h=>by
  obtain⟨c,hc,h2⟩:=Cl h;rw[BN n' hc];have q0:(AJ (er ((f+r.length)+1) a))[i]? = some (er (f+r.length) c):=by grind [QX,UI]
  show er ((f+r.length)+1) _=eI (i::r) _ (er ((f+r.length)+1) a);rw[BN _ q0,UI,BO r f n' h2]
theorem WF(h:(AJ a)[i]? = some c)(hy:∀k b l g al y,a=.agg [.lit (.int k b),.lit (.int l g),.slice al y]->y=[]):gE a i c=a:=by
 rcases Gl h with⟨k,b,l,g,al,x,rfl,h7⟩|⟨k,b,l,g,es,key,rfl,h7⟩
 ·obtain rfl:=hy _ _ _ _ _ _ rfl;show A1 [.lit (.int k b),.lit (.int l g),.slice (al.set i c) []]=_;have h8:=List.getElem?_eq_some_iff.1 h7;rw[show al.set i c=al by rw[<- h8.2];simp_all]
 ·show A1 [.lit (.int k b),.lit (.int l g),.map (es.modify i fun p=>(p.1,c))]=_;obtain⟨l1,l2,rfl,rfl⟩:=C4 (fun _=>([]:List Nat)) es i _ h7;rw[E7]
theorem Ug(hc:(AJ a)[i]? = some c)(x:dS):(AJ (gE a i x))[i]? = some x:=by
 rcases Gl hc with⟨k,b,l,g,al,y,rfl,h7⟩|⟨k,b,l,g,es,key,rfl,h7⟩
 ·show (al.set i _)[i]? = _
  grind
 ·show ((es.modify i fun p=>(p.1,x)).map FD)[i]? = _
  grind
theorem Jc:∀ {p:List Nat} {a n:dS} (n':dS),eD p a=some n->eD p (eI p n' a)=some n'
 | [],_,_,_,_=>rfl
 | i::r,a,n,n',h=>by
  obtain⟨c,hc,h2⟩:=Cl h;rw[BN n' hc];have hk:(AJ (gE a i (eI r n' c)))[i]? = some (eI r n' c):=Ug hc _;rw[eD,hk];exact Jc n' h2
theorem YW{x y:dS}(h:(AJ a)[i]? = some c):gE (gE a i x) i y=gE a i y:=by
 rcases Gl h with⟨k,b,l,g,al,z,rfl,h7⟩|⟨k,b,l,g,es,key,rfl,h7⟩
 ·show A1 [.lit (.int k b),.lit (.int l g),.slice ((al.set i x).set i y) []]=A1 [.lit (.int k b),.lit (.int l g),.slice (al.set i y) []]
  simp_all
 ·show A1 [.lit (.int k b),.lit (.int l g),.map ((es.modify i fun p=>(p.1,x)).modify i fun p=>(p.1,y))]=A1 [.lit (.int k b),.lit (.int l g),.map (es.modify i fun p=>(p.1,y))];obtain⟨l1,l2,rfl,rfl⟩:=C4 (fun _=>([]:List Nat)) es i _ h7
  grind [E7,List.set_set]
theorem Lw:∀ {p:List Nat} {a n:dS} (x y:dS),eD p a=some n->eI p y (eI p x a)=eI p y a
 | [],_,_,_,_,_=>rfl
 | i::r,a,n,x,y,h=>by
  obtain⟨c,hc,h2⟩:=Cl h;rw[BN x hc,BN y hc];have hk:(AJ (gE a i (eI r x c)))[i]? = some (eI r x c):=Ug hc _;rw[BN y hk,Lw x y h2,YW hc]
theorem Ad.spare(h:Ad f w u a):∀k b l g al y,a=.agg [.lit (.int k b),.lit (.int l g),.slice al y]->y=[]:=by
 cases f with
 | zero=>exact h.elim
 | succ f=>
  intro k b l g al y e;obtain⟨b2,g2,x,rfl,hv,h⟩:=h;unfold dW at e;injection e with e;injection e with _ e;injection e with _ e;injection e with e _;rcases h with⟨j,_,_,rfl,h⟩|⟨n,_,rfl,h,q4⟩|⟨s,_,rfl,h⟩|⟨q0,sl,ps,rfl,_⟩|⟨es,n,D,rfl,_⟩
  ·cases e
  ·cases e
  ·cases e
  ·grind
  ·cases e
theorem Ad.put_self:∀ {p:List Nat} {u:Ft} {a n:dS},Ad (f+p.length) w u a->eD p a=some n->eI p n a=a
 | [],_,_,_,_,h=>by injection h with h;exact h.symm
 | i::r,u,a,n,ht,h=>by
  obtain⟨c,hc,h2⟩:=Cl h;have h':Ad ((f+r.length)+1) w u a:=ht;obtain⟨x,hx⟩:∃u,Ad (f+r.length) w u c:=Ad.at (f:=f+r.length) (p:=[i]) h' (show eD [i] a=some c by simp[eD,hc]);rw[BN n hc,hx.put_self h2];exact WF hc ht.spare
theorem Ad.er_arr{b:Nat}{al:List dS}(h:Ad (f+1) w u a)(e:er (f+1) a=er (f+1) (dW b g (.slice al []))):∃g' q0,a=dW b g' (.slice q0 [])/\q0.map (er f)=al.map (er f):=by
 obtain⟨b2,g2,x,rfl,hv,h⟩:=h;rcases h with⟨j,_,_,rfl,h⟩|⟨n,_,rfl,h,q5⟩|⟨s,_,rfl,h⟩|⟨q4,sl,ps,rfl,_⟩|⟨es,n,D,rfl,_⟩
 ·rw[FG,jE] at e;unfold dW at e;injection e with e;injection e with _ e;injection e with _ e;injection e with e _;cases e
 ·rw[UH,jE] at e;unfold dW at e;injection e with e;injection e with _ e;injection e with _ e;injection e with e _;cases e
 ·rw[QW,jE] at e;unfold dW at e;injection e with e;injection e with _ e;injection e with _ e;injection e with e _;cases e
 ·grind [dW,er,FG]
 grind [dW,er,FG]
theorem Ad.er_obj{b:Nat}{es:List (Lit×dS)}(h:Ad (f+1) w u a)(e:er (f+1) a=er (f+1) (dW b g (.map es))):∃es',a=dW b g (.map es')/\es'.map (fun p=>(p.1,er f p.2))=es.map (fun p=>(p.1,er f p.2)):=by
 obtain⟨b2,g2,x,rfl,hv,h⟩:=h;rcases h with⟨j,_,_,rfl,h⟩|⟨n,_,rfl,h,q5⟩|⟨s,_,rfl,h⟩|⟨q0,sl,ps,rfl,_⟩|⟨q4,n,D,rfl,_⟩
 ·grind [dW,er,FG]
 ·rw[UH,jQ] at e;unfold dW at e;injection e with e;injection e with _ e;injection e with _ e;injection e with e _;cases e
 ·rw[QW,jQ] at e;unfold dW at e;injection e with e;injection e with _ e;injection e with _ e;injection e with e _;cases e
 ·grind [dW,er,FG]
 grind [dW,er,FG]
end Go.Proofs.YtdpomdelmdofmaaGreatDoor
