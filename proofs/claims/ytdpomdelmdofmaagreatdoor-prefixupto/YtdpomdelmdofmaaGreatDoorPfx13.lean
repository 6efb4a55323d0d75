import Derived.Test.YtdpomdelmdofmaaGreatDoorPfx12
import Derived.Lib.ValidU
open Go.DataW renaming insert->AI
open List renaming pairwise_cons->AS,mem_cons->A2
open Go.WideShapes renaming insert_perm->AT,bytes_trans->A5
open Go renaming bytesBefore->A1
open List.Pairwise renaming and_mem->A3,nil->Bs
open Int renaming le_refl->A4
open Or renaming inr->A6
namespace Go.Proofs.YtdpomdelmdofmaaGreatDoor
open Go.Proofs.Tryz Go.Maps Go.RowKit
variable{es:List (Lit×To)}{t:By}
def aZ(d x:Int)(fl:Fl):Prop:=fl.1=false/\fl.2.1<=d/\fl.2.2<=x
def Zl(d x:Int):Nat->Int->To->Prop
 | 0,_,_=>False
 | f+1,lv,v=>lv<=d/\((∃k,k<3/\v=AO k)\/(∃s,Ut s/\v=Aq s)\/(∃n,Gn n /\ -x<=n.2.2/\n.2.2<=x/\v=Bv n) \/
   (∃es,(∀e∈es,Zl d x f (lv+1) e)/\v=Ap es) \/
   (∃es,es.Pairwise (fun p q=>p.1.before q.1=true)/\(∀p∈es,(∃s,p.1=.string s/\Ut s)/\Zl d x f (lv+1) p.2)/\v=Ay es))
theorem GW{x:Lit×To}{l:List (Lit×To)}(hx:∃s,x.1=.string s)(hs:∀p∈l,∃s,p.1=.string s)(q4:∀p∈l,p.1≠x.1)(h:l.Pairwise (fun p q=>p.1.before q.1=true)):
  (AI x l).Pairwise (fun p q=>p.1.before q.1=true):=by
 obtain⟨s,q0⟩:=hx;induction l with
 | nil=>simp[AI]
 | cons y r ih=>
  rw[AS] at h;obtain⟨h1,h2⟩:=h;obtain⟨t,ht⟩:=hs y (by simp);unfold AI;split
  ·rename_i hb;refine AS.2 ⟨fun q hq=>?_,AS.2 ⟨h1,h2⟩⟩;rcases A2.1 hq with rfl|hq
   ·exact hb
   ·obtain⟨u,hu⟩:=hs q (by simp[hq]);have h3:=h1 q hq;rw[q0,ht] at hb;rw[ht,hu] at h3;rw[q0,hu];exact A5 _ _ _ hb h3
  ·rename_i hb;refine AS.2 ⟨fun q hq=>?_,by grind⟩;rcases A2.1 ((AT _ _).mem_iff.1 hq) with rfl|hq
   ·rw[q0,ht] at hb |-;have hn:t≠s:=by
     grind
    rcases WideAt.bytes_total t s hn with h3|h3
    ·exact h3
    ·exact absurd h3 hb
   grind
theorem W9(d x:Int)(f:Nat):∀ (lv:Int) (l:By) (fl:Fl) (v:To) (r:By) (fl':Fl),ZD f lv l fl=some (v,r,fl')->aZ d x fl'->aZ d x fl/\Zl d x f lv v:=by
 induction f with
 | zero=>intro lv l fl v r fl' h;cases h
 | succ f ih=>
  intro lv l fl v r fl' h q4;have q0:∀ {e:Int},aZ d x (fl.1,(max fl.2.1 lv,e))->fl.2.2<=e->aZ d x fl/\lv<=d:=by
   rintro e ⟨h1,h2,h3⟩ he;simp only at h1 h2 h3;exact⟨⟨h1,by omega,by omega⟩,by omega⟩
  unfold ZD at h;split at h
  ·split at h
   ·cases h
   ·rename_i r1 v1 q9 h1;obtain⟨hI,_⟩:=E1 (σ:=To×Fl) (fun _ s=>aZ d x s.2->aZ d x (fl.1,(max fl.2.1 lv,fl.2.2)) /\ ∃es,s.1=Ay es/\es.Pairwise (fun p q=>p.1.before q.1=true)/\(∀p∈es,(∃s,p.1=.string s/\Ut s)/\Zl d x f (lv+1) p.2))
     (fun _ _ _ h _=>h) (by
      rintro a s a' s' hI hm q5;unfold CM at hm;split at hm
      ·cases hm
      ·rename_i k l1 hq;split at hm
       ·split at hm
        ·cases hm
        ·rename_i w r2 qf hv;injection hm with hm;injection hm with h1 h2;subst h1;subst h2;obtain⟨k1,k2,k3⟩:=q5;simp only[Bool.or_eq_false_iff] at k1 k2 k3;obtain⟨q6,hg⟩:=ih _ _ _ _ _ _ hv ⟨k1.1,k2,k3⟩;obtain⟨hb,es,e1,e2,e3⟩:=hI q6;refine⟨hb,?_⟩;have hno:=k1.2;rw[e1] at hno |-;have q8:∀p∈es,p.1.sameKey (.string k)=false:=by
          simpa[Ay,Maps.has] using hno
         have q7:(es.filter fun p=>!p.1.sameKey (.string k))=es:=List.filter_eq_self.2 (by grind);refine⟨AI (.string k,w) es,by simp only[Ay,DataW.put,q7],?_,?_⟩
         ·refine GW ⟨k,rfl⟩ (fun p hp=>?_) (fun p hp=>?_) e2
          ·grind
          ·intro e;have:=q8 p hp;rw[e] at this;simp[Lit.sameKey] at this
         ·intro p hp;rcases A2.1 ((AT _ _).mem_iff.1 hp) with rfl|hp
          ·exact⟨⟨k,rfl,Rg hq⟩,hg⟩
          grind
       ·cases hm) (fun h=>⟨h,[],rfl,Bs,by simp⟩) h1
    injection h with h;injection h with h2 h3;injection h3 with h3 h4;subst h2;subst h4;obtain⟨hb,es,e1,e2,e3⟩:=hI q4;obtain⟨b1,b2⟩:=q0 hb (A4 _);exact⟨b1,b2,by grind⟩
  ·split at h
   ·split at h
    ·cases h
    ·rename_i r1 qe q9 h1;obtain⟨hI,_⟩:=E1 (σ:=List To×Fl) (fun _ s=>aZ d x s.2->aZ d x (fl.1,(max fl.2.1 lv,fl.2.2)) /\ ∀e∈s.1,Zl d x f (lv+1) e)
      (fun _ _ _ h _=>h) (by
       rintro a s a' s' hI hm q5;unfold Dr at hm
       grind) (by grind) h1
     injection h with h;injection h with h2 h3;injection h3 with h3 h4;subst h2;subst h4;obtain⟨hb,qb⟩:=hI q4;obtain⟨b1,b2⟩:=q0 hb (A4 _);exact⟨b1,b2,by grind⟩
   ·split at h
    ·split at h
     ·cases h
     ·rename_i s r1 h1;injection h with h;injection h with h2 h3;injection h3 with h3 h4;subst h2;subst h4;obtain⟨b1,b2⟩:=q0 q4 (A4 _);exact⟨b1,b2,A6 (Or.inl ⟨s,Rg h1,rfl⟩)⟩
    ·split at h
     ·split at h
      ·cases h
      ·rename_i n r1 h1;injection h with h;injection h with h2 h3;injection h3 with h3 h4;subst h2;subst h4;obtain⟨b1,b2⟩:=q0 q4 (by omega);have h5:max (max fl.2.2 n.2.2) (-n.2.2)<=x:=q4.2.2;exact⟨b1,b2,A6 (A6 (Or.inl ⟨n,TV h1,by omega,by omega,rfl⟩))⟩
     ·split at h
      ·cases h
      ·rename_i k r1 h1;injection h with h;injection h with h2 h3;injection h3 with h3 h4;subst h2;subst h4;obtain⟨b1,b2⟩:=q0 q4 (A4 _);refine⟨b1,b2,Or.inl ⟨k,?_,rfl⟩⟩;have hk:∀ (ws:List By) (k0:Nat),CS l k0 ws=some (k,r1)->k<k0+ws.length:=by
        intro ws;induction ws with
        | nil=>intro k0 h;cases h
        | cons w ws qd=>
         intro k0 h;unfold CS at h
         grind
       simpa[aK] using hk _ _ h1
def Hd(l:By):Prop:=∃c t,l=c::t/\bP c=false/\c≠93/\c≠125
theorem Hd.skB{l:By}(h:Hd l)(r:By):Zu (l++r)=l++r:=by
 obtain⟨c,t,rfl,hb,_⟩:=h;simp[Zu,hb]
theorem Hd.tk{l:By}(h:Hd l)(r:By){k:UInt8}(hk:k=93\/k=125):Zn (l++r) k=false:=by
 obtain⟨c,t,rfl,_,h1,h2⟩:=h;rw[List.cons_append,Yk,beq_eq_false_iff_ne]
 grind
theorem M6(xs:List By)(h:∀y∈xs,Hd y):xs.length<=(Ax xs).length:=by
 have hr:∀ys:List By,ys.length<=(BL ys).length:=by
  intro ys;induction ys with
  | nil=>simp
  | cons y r ih=>simp[BL];omega
 cases xs with
 | nil=>simp
 | cons y r=>
  obtain⟨c,t,e,_⟩:=h y (by simp);have:=hr r;simp[Ax,e];omega
theorem DY:∀ (a b:By),A1 a b=true->a<b
 | [],[],h=>by simp[A1] at h
 | _::_,[],h=>by simp[A1] at h
 | [],_::_,_=>List.nil_lt_cons _ _
 | a::r,b::s,h=>by
  simp only[A1,Bool.or_eq_true,Bool.and_eq_true,decide_eq_true_eq,beq_iff_eq] at h;rw[List.cons_lt_cons_iff];rcases h with h|⟨h1,h2⟩
  ·grind
  ·exact A6 ⟨h1,DY r s h2⟩
theorem Mu(hp:es.Pairwise (fun p q=>p.1.before q.1=true))(hk:∀p∈es,∃s,p.1=.string s):(ZJ es).mergeSort (fun a b=>decide (a<=b))=ZJ es:=by
 apply List.mergeSort_of_pairwise;unfold ZJ;rw[List.pairwise_map];refine (A3.1 hp).imp ?_;rintro p q ⟨h1,h2,h3⟩;obtain⟨s,hs⟩:=hk p h1;obtain⟨t,ht⟩:=hk q h2;rw[hs,ht] at h3 |-;simp only[decide_eq_true_eq];exact List.le_of_lt (DY s t h3)
theorem KV(hp:es.Pairwise (fun p q=>p.1.before q.1=true))(hk:∀p∈es,∃s,p.1=.string s):es.Pairwise (fun p q=>p.1≠q.1):=by
 refine (A3.1 hp).imp ?_;rintro p q ⟨h1,h2,h3⟩ e;obtain⟨s,hs⟩:=hk p h1;rw[<- e,hs] at h3;have:=WideAt.bytes_irrefl s;rw[show (Lit.string s).before (Lit.string s)=A1 s s from rfl,this] at h3;cases h3
def bH(f:Nat)(p:Lit×To):By:=Ag (strOf p.1)++58::Zm f p.2
theorem IV{f:Nat}(hp:es.Pairwise (fun p q=>p.1.before q.1=true))(hk:∀p∈es,∃s,p.1=.string s):Zm (f+1) (Ay es)=123::(Ax (es.map (bH f))++[125]):=by
 rw[KD,Mu hp hk];have:(ZJ es).map (fun k=>Ag k++58::Zm f (ZV es k))=es.map (bH f):=by
  unfold ZJ;rw[List.map_map];apply List.map_congr_left;intro p q0;obtain⟨s,hs⟩:=hk p q0;have h2:ZV es s=p.2:=by
   unfold ZV;exact WideAt.atKey_mem .nil trivial (KV hp hk) (by grind)
  obtain⟨k,v⟩:=p;simp only at hs h2;subst hs;simp only[Function.comp,bH,strOf];rw[h2]
 rw[this]
theorem II{x:Lit×To}{l:List (Lit×To)}(h:∀p∈l,x.1.before p.1=false):AI x l=l++[x]:=by
 induction l with
 | nil=>rfl
 | cons y r ih=>
  unfold AI
  grind
theorem F8{d x:Int}{v:To}(h:Zy t d x=(0,some v)):Zl d x top 1 v:=by
 unfold Zy at h;split at h
 ·grind
 ·split at h
  ·grind
  ·rename_i v2 r fl hv;split at h
   ·split at h
    ·grind
    ·rename_i k1;split at h
     ·grind
     ·rename_i k2;split at h
      ·grind
      ·rename_i k3;injection h with h1 h2;injection h2 with h2;subst h2;exact (W9 d x _ _ _ _ _ _ _ hv ⟨by grind,by omega,by omega⟩).2
   grind
def aP:By:=[48,49,50,51,52,53,54,55,56,57]
def aD(q0:Nat)(l:By):Nat:=l.foldl (fun a c=>a*10+(c.toNat-48)) q0
def ZO(t:By):Option Nat:=
 if t=[]\/(1<t.length/\t[0]? = some 48)\/t.all (aP.contains ·)=false then none else some (min (aD 0 t) 9223372036854775807)
theorem I1(h:t=[]\/(1<t.length/\t[0]? = some 48)\/t.all (aP.contains ·)=false):ZO t=none:=by grind [ZO]
theorem Ur(h:¬ (t=[]\/(1<t.length/\t[0]? = some 48)\/t.all (aP.contains ·)=false)):ZO t=some (min (aD 0 t) 9223372036854775807):=by grind [ZO]
theorem Pm(b:UInt8)(h:aP.contains b=true):48<=b.toNat/\b.toNat<=57:=by
 simp only[aP,List.contains_eq_mem,A2,List.not_mem_nil,or_false,decide_eq_true_eq] at h;rcases h with rfl|rfl|rfl|rfl|rfl|rfl|rfl|rfl|rfl|rfl<;>decide
def AF(d:To)(t:By):Except Nat To:=match d with
 | .map es=>if Maps.has (.map es:To) (.string t)=true then .ok ((DataW.map es).atKey (.string t) .nil) else .error 11
 | .slice es _=>match ZO t with
  | none=>.error 12
  | some i=>match es[i]? with
   | some e=>.ok e
   | none=>.error 11
 | _=>.error 11
def Ak(d:To):List By->Except Nat To
 | []=>.ok d
 | t::r=>match AF d t with
  | .ok e=>Ak e r
  | .error c=>.error c
def ZA:By->Option By
 | []=>some []
 | c::r=>if c=126 then (match r with
  | 48::q=>(ZA q).map (126 :: ·)
  | 49::q=>(ZA q).map (47 :: ·)
  | _=>none)
  else (ZA r).map (c :: ·)
theorem F6(c:UInt8)(r:By):ZA (c::r)=if c=126 then (match r with
  | 48::q=>(ZA q).map (126 :: ·)
  | 49::q=>(ZA q).map (47 :: ·)
  | _=>none)
  else (ZA r).map (c :: ·):=by
 match r with
 | []=>rfl
 | b::q=>
  by_cases h0:b=48
  ·subst h0;rfl
  ·by_cases h1:b=49
   ·subst h1;rfl
   ·conv=>lhs;unfold ZA
    rfl
def Z0(l:By):By:=l.takeWhile (fun c=>c != 126)
def ZE:By->List By
 | []=>[[]]
 | c::r=>if c=47 then []::ZE r else match ZE r with
  | p::ps=>(c::p)::ps
  | []=>[[c]]
def aT(l:By):By:=l.takeWhile (fun c=>c != 47)
def Z8:List By->Option (List By)
 | []=>some []
 | t::r=>match ZA t with
  | none=>none
  | some k=>(Z8 r).map (k :: ·)
def ZW(l:By):Option (List By):=if Lib.validD l=true then (match ZE l with
 | []::r=>Z8 r
 | _=>none) else none
noncomputable def veq(a b:To):Bool:=@decide (a=b) (Classical.propDecidable _)
theorem FC{a b:To}(h:a=b):veq a b=true:=by unfold veq;grind
theorem D4{a b:To}(h:a≠b):veq a b=false:=by unfold veq;grind
def aQ(d:To)(t:By):Option Nat:=match d with
 | .map es=>es.findIdx? (fun p=>p.1.sameKey (.string t))
 | .slice es _=>match ZO t with
  | none=>none
  | some i=>if i<es.length then some i else none
 | _=>none
def Cj(d:To):List To:=match d with
 | .map es=>es.map Prod.snd
 | .slice es _=>es
 | _=>[]
def Dq:To->List By->Option (List Nat)
 | _,[]=>some []
 | d,t::r=>match aQ d t with
  | none=>none
  | some i=>match (Cj d)[i]? with
   | none=>none
   | some e=>(Dq e r).map (i :: ·)
def B5:List Nat->To->Option To
 | [],d=>some d
 | i::r,d=>match (Cj d)[i]? with
  | none=>none
  | some e=>B5 r e
def ER(n:Nat)(t:By):Except Nat Nat:=
 if t=[45] then .ok n else match ZO t with
  | none=>.error 12
  | some i=>if n<i then .error 11 else .ok i
def ZS{α:Type}(i:Nat)(c:α)(l:List α):List α:=l.take i++c::l.drop i
def ZN{α:Type}(i:Nat)(l:List α):List α:=l.take i++l.drop (i+1)
def Zr{α:Type}(k:Lit)(c:DataW α)(es:List (Lit×DataW α)):List (Lit×DataW α):=AI (k,c) (es.filter fun p=>!p.1.sameKey k)
def ZF{α:Type}(k:Lit)(es:List (Lit×DataW α)):List (Lit×DataW α):=es.filter fun p=>!p.1.sameKey k
def bQ(F:List To->List To)(G:List (Lit×To)->List (Lit×To))(d:To):To:=match d with
 | .slice es y=>.slice (F es) y
 | .map es=>.map (G es)
 | d=>d
def FV(i:Nat)(k:By)(x:To):To->To:=bQ (ZS i x) (Zr (.string k) x)
def Kk(i:Nat)(k:By):To->To:=bQ (ZN i) (ZF (.string k))
def Hc(i:Nat)(k:By)(x:To):To->To:=bQ (fun es=>es.set i x) (Zr (.string k) x)
def Pz(i:Nat)(x:To)(d:To):To:=match d with
 | .slice es y=>.slice (es.set i x) y
 | .map es=>.map (es.modify i fun p=>(p.1,x))
 | d=>d
def Cd:List Nat->To->To->To
 | [],x,_=>x
 | i::r,x,d=>match (Cj d)[i]? with
  | some e=>Pz i (Cd r x e) d
  | none=>d
def BK:List Int->Int
 | []=>0
 | x::r=>max x (BK r)
def ZC:Nat->To->Int
 | 0,_=>0
 | f+1,d=>match d with
  | .slice es _=>1+BK (es.map (ZC f))
  | .map es=>1+BK (es.map fun p=>ZC f p.2)
  | _=>1
end Go.Proofs.YtdpomdelmdofmaaGreatDoor
