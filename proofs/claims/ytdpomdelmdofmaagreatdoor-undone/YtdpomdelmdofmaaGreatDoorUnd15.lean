import Derived.Test.YtdpomdelmdofmaaGreatDoorUnd14
namespace Go.Proofs.YtdpomdelmdofmaaGreatDoor
open Go.Proofs.Tryz
section
open Go.RowKit Go.Maps
namespace Sp
theorem Hi{t:By}{i:Nat}{e:V}(hi:pos e t=some i){e':V}(he:(A9 e)[i]? = some e'):∀ {s:List By} {d:V} {p:List Nat},Bz d s=some p->BC p d=some e->Bz d (s++[t])=some (p++[i])
 | [],d,p,h,h2=>by
  injection h with h;subst h;injection h2 with h2;subst h2;simp[Bz,hi,he]
 | u::s,d,p,h,h2=>by
  unfold Bz at h;split at h
  ·cases h
  ·rename_i j hj;split at h
   ·cases h
   ·rename_i x hx;obtain⟨q,hq,rfl⟩:=Option.map_eq_some_iff.1 h;unfold BC at h2;rw[hx] at h2;have ih:=Hi hi he hq h2;rw[List.cons_append,Bz,hj];simp only[hx,ih];rfl
theorem G7{es:List V}{t:By}{e:V}(h:Aj (Ar es) t = .ok e):∃i,idx t=some i/\es[i]? = some e/\pos (Ar es) t=some i:=by
 unfold Aj Ar at h;simp only at h;split at h
 ·cases h
 ·rename_i i hi;split at h
  ·rename_i x hx;injection h with h;subst h;refine⟨i,hi,hx,?_⟩;unfold pos Ar;simp only[hi];rw[if_pos (List.getElem?_eq_some_iff.1 hx).1]
  ·cases h
end Sp
theorem DN{f:Nat}{w:World}{v:Value}{a:Sp.A}(h:Ae (f+1) w v a):Sp.A9 (Sp.str (f+1) a)=(Sp.AL a).map (Sp.str f):=by
 obtain⟨b,g,x,rfl,hv,h⟩:=h;rcases h with⟨k,_,_,rfl,h⟩|⟨n,_,rfl,h,hbd⟩|⟨s,_,rfl,h⟩|⟨al,sl,ps,rfl,h,ho,hs,ha⟩|⟨es,n,D,rfl,h,ho,hp⟩
 ·rfl
 ·rfl
 ·rfl
 ·rfl
 ·rw[Sp.Ba,Sp.BI];show (es.map fun p=>(p.1,Sp.str f p.2)).map Prod.snd=(es.map Prod.snd).map (Sp.str f);rw[List.map_map,List.map_map];rfl
theorem Gx{f:Nat}{w:World}:∀ {p:List Nat} {v:Value} {a n:Sp.A},Ae (f+p.length) w v a->Sp.sub p a=some n->Sp.BC p (Sp.str (f+p.length) a)=some (Sp.str f n)
 | [],v,a,n,h,hs=>by
  injection hs with hs;subst hs;rfl
 | i::r,v,a,n,h,hs=>by
  obtain⟨c,hc,h2⟩:=Sp.Cm hs;have h':Ae ((f+r.length)+1) w v a:=h;have hk:=DN h';obtain⟨u,hu⟩:∃u,Ae (f+r.length) w u c:=by
   have:=Ae.at (f:=f+r.length) (p:=[i]) h' (show Sp.sub [i] a=some c by simp[Sp.sub,hc]);exact this
  have ih:=Gx hu h2;show Sp.BC (i::r) (Sp.str ((f+r.length)+1) a)=_;rw[Sp.BC,hk,List.getElem?_map,hc];exact ih
theorem Gy{i:Nat}{c n:Sp.A}(hc:(Sp.AL n)[i]? = some c):∀ {p:List Nat} {a:Sp.A},Sp.sub p a=some n->Sp.sub (p++[i]) a=some c
 | [],a,h=>by
  injection h with h;subst h;simp[Sp.sub,hc]
 | j::r,a,h=>by
  obtain⟨x,hx,h2⟩:=Sp.Cm h;rw[List.cons_append,Sp.sub,hx];exact Gy hc h2
theorem Ae.bel{f:Nat}{w w':World}{v:Value}{a:Sp.A}(h:Ae f w v a)(hb:Below w.heap.size w w'):Ae f w' v a:=h.move fun k hk=>hb.block k (h.lt k hk)
def InT(fa:Nat)(v:Value)(a:Sp.A)(s:List Sp.By)(w:World)(u:Value)(d:Sp.V):Prop :=
 Ae fa w v a /\ ∃f p n,f+p.length=fa/\Sp.sub p a=some n/\Ae f w u n/\Sp.str f n=d/\Sp.Bz (Sp.str fa a) s=some p
end

section
open Go.RowKit Go.Maps
namespace Sp
theorem Ls{α:Type}{i:Nat}(c:α){l:List α}(h:i<=l.length):ldel i (lins i c l)=l:=by
 have h1:(l.take i).length=i:=by rw[List.length_take];omega
 unfold ldel lins;rw[List.take_append_of_le_length (by omega),List.take_of_length_le (by omega),List.drop_append,List.drop_of_length_le (by omega),h1];simp
theorem FQ{α:Type}{i:Nat}{c:α}{l:List α}(h:l[i]? = some c):lins i c (ldel i l)=l:=by
 obtain⟨hi,rfl⟩:=List.getElem?_eq_some_iff.1 h;have h1:(l.take i).length=i:=by rw[List.length_take];omega
 unfold ldel lins;rw[List.take_append_of_le_length (by omega),List.take_of_length_le (by omega),List.drop_append,List.drop_of_length_le (by omega),h1];simp
theorem RJ{α:Type}{i:Nat}{c d:α}{l:List α}(h:l[i]? = some c):(l.set i d).set i c=l:=by
 obtain⟨hi,rfl⟩:=List.getElem?_eq_some_iff.1 h;rw[List.set_set,List.set_getElem_self]
theorem Ji{α β:Type}(q:α->β)(i:Nat)(c:α)(l:List α):(lins i c l).map q=lins i (q c) (l.map q):=by
 unfold lins;simp
theorem Jj{α β:Type}(q:α->β)(i:Nat)(l:List α):(ldel i l).map q=ldel i (l.map q):=by
 unfold ldel;simp
theorem GH{α:Type}{i:Nat}(c:α){l:List α}(h:i<=l.length):(lins i c l).length=l.length+1:=by
 unfold lins;simp;omega
theorem Jk{α:Type}{i:Nat}{l:List α}(h:i<l.length):(ldel i l).length+1=l.length:=by
 unfold ldel;simp;omega
theorem ES{α:Type}(i:Nat)(c:α)(l:List α):(lins i c l).Perm (c::l):=by
 unfold lins;have:=List.perm_middle (a:=c) (l₁:=l.take i) (l₂:=l.drop i)
 rwa [List.take_append_drop] at this
theorem FM{α:Type}{i:Nat}{c:α}{l:List α}(h:l[i]? = some c):l.Perm (c::ldel i l):=by
 have h1:=ES i c (ldel i l)
 rwa [FQ h] at h1
theorem Lf{α:Type}{i:Nat}{c:α}{l:List α}(d:α)(h:l[i]? = some c):(l.set i d).Perm (d::ldel i l):=by
 obtain⟨hi,_⟩:=List.getElem?_eq_some_iff.1 h;have e:l.set i d=lins i d (ldel i l):=by
  have h2:=FQ (i:=i) (c:=d) (l:=l.set i d) (by rw[List.getElem?_set_self hi]);rw[<- h2];congr 1;unfold ldel;rw[List.take_set_of_le (by omega),List.drop_set_of_lt (by omega)]
 rw[e];exact ES i d _
def Bk{α:Type}(es:List (Lit×DataW α)):Prop:=es.Pairwise (fun p q=>p.1.before q.1=true) /\ ∀p∈es,∃s,p.1 = .string s
theorem DK{s t:By}:(Lit.string s).sameKey (.string t)=true<->s=t:=by
 constructor
 ·intro h;have:=WideAt.sameKey_eq h;injection this
 ·rintro rfl;exact WideAt.sameKey_self trivial
theorem F0{α:Type}{k:By}{es:List (Lit×DataW α)}(h:∀p∈es,p.1 ≠ .string k):es.filter (fun p=>!p.1.sameKey (.string k))=es:=by
 apply List.filter_eq_self.2;intro p hp;rw[sameKey_ne (h p hp)];rfl
theorem FO{α:Type}{k:By}{c:DataW α}:∀ {es:List (Lit×DataW α)},Bk es->(Lit.string k,c)∈es->mput (.string k) c es=es
 | [],_,h=>by cases h
 | y::r,⟨h1,h2⟩,h=>by
  obtain⟨h3,h4⟩:=List.pairwise_cons.1 h1;obtain⟨t,ht⟩:=h2 y (by simp);unfold mput;rcases List.mem_cons.1 h with e|h
  ·subst e;have hne:∀p∈r,p.1 ≠ .string k:=fun p hp e=>by
    have:=h3 p hp;rw[show p.1=Lit.string k from e] at this;have h9:bytesBefore k k=true:=this;rw[WideAt.bytes_irrefl] at h9;cases h9
   rw[List.filter_cons,if_neg (by rw[WideAt.sameKey_self (show WideAt.IsKeyLit (Lit.string k,c).1 from trivial)];decide),F0 hne];cases r with
   | nil=>rfl
   | cons z r=>rw[DataW.insert,if_pos (h3 z (by simp))]
  ·have hb:=h3 _ h;have hne:y.1 ≠ .string k:=fun e=>by
    rw[e] at hb;have h9:bytesBefore k k=true:=hb;rw[WideAt.bytes_irrefl] at h9;cases h9
   rw[List.filter_cons,if_pos (by rw[sameKey_ne hne];rfl)];have hnb:Lit.before (.string k) y.1=false:=by
    cases hx:Lit.before (.string k) y.1 with
    | false=>rfl
    | true =>
     rw[ht] at hb hx;have h9:=Go.WideShapes.bytes_trans _ _ _ (show bytesBefore k t=true from hx) (show bytesBefore t k=true from hb);rw[WideAt.bytes_irrefl] at h9;cases h9
   rw[DataW.insert,if_neg (by rw[hnb];decide)];have ih:=FO ⟨h4,fun p hp=>h2 p (by simp[hp])⟩ h;unfold mput at ih;rw[ih]
theorem Lq{α:Type}{k:By}(c:DataW α)(es:List (Lit×DataW α)):mdel (.string k) (mput (.string k) c es)=mdel (.string k) es:=by
 unfold mput;have h:∀l:List (Lit×DataW α),(DataW.insert (.string k,c) l).filter (fun p=>!p.1.sameKey (.string k))=l.filter (fun p=>!p.1.sameKey (.string k)):=by
  intro l;induction l with
  | nil=>simp[DataW.insert,WideAt.sameKey_self (show WideAt.IsKeyLit (Lit.string k) from trivial)]
  | cons y r ih =>
   rw[DataW.insert];split
   ·rw[List.filter_cons,if_neg (by rw[WideAt.sameKey_self (show WideAt.IsKeyLit (Lit.string k,c).1 from trivial)];decide)]
   ·rw[List.filter_cons,List.filter_cons,ih]
 unfold mdel;rw[h,List.filter_filter];simp
theorem RI{α:Type}{k:By}{es:List (Lit×DataW α)}(h:∀p∈es,p.1 ≠ .string k):mdel (.string k) es=es:=F0 h
theorem Hp{α:Type}{k:By}(c:DataW α)(es:List (Lit×DataW α)):mput (.string k) c (mdel (.string k) es)=mput (.string k) c es:=by
 unfold mput mdel;rw[List.filter_filter];simp
theorem RB{α:Type}{k:By}(c d:DataW α)(es:List (Lit×DataW α)):mput (.string k) c (mput (.string k) d es)=mput (.string k) c es:=by
 rw[<- Hp c (mput (.string k) d es),Lq,Hp]
theorem EK{α β:Type}(q:DataW α->DataW β)(k:Lit)(es:List (Lit×DataW α)):(mdel k es).map (fun p=>(p.1,q p.2))=mdel k (es.map fun p=>(p.1,q p.2)):=by
 unfold mdel;rw[List.filter_map];rfl
theorem N9{α β:Type}(q:DataW α->DataW β)(x:Lit×DataW α)(l:List (Lit×DataW α)):(DataW.insert x l).map (fun p=>(p.1,q p.2))=DataW.insert (x.1,q x.2) (l.map fun p=>(p.1,q p.2)):=by
 induction l with
 | nil=>rfl
 | cons y r ih =>
  simp only[DataW.insert,List.map_cons];split
  ·rfl
  ·rw[List.map_cons,ih]
theorem Fq{α β:Type}(q:DataW α->DataW β)(k:Lit)(c:DataW α)(es:List (Lit×DataW α)):(mput k c es).map (fun p=>(p.1,q p.2))=mput k (q c) (es.map fun p=>(p.1,q p.2)):=by
 unfold mput;rw[N9];have:=EK q k es;unfold mdel at this;rw[this]
theorem Cg{k:By}{c:V}{es:List (Lit×V)}(h:Bk es):Bk (mput (.string k) c es):=by
 unfold mput;have hs:∀p∈es.filter (fun p=>!p.1.sameKey (.string k)),∃s,p.1 = .string s:=fun p hp=>h.2 p (List.mem_filter.1 hp).1;refine⟨G5 ⟨k,rfl⟩ hs (fun p hp e=>?_) (h.1.filter _),fun p hp=>?_⟩
 ·have:=(List.mem_filter.1 hp).2;rw[show p.1=Lit.string k from e,WideAt.sameKey_self (show WideAt.IsKeyLit (Lit.string k) from trivial)] at this;cases this
 ·rcases List.mem_cons.1 ((Go.WideShapes.insert_perm _ _).mem_iff.1 hp) with rfl|hp
  ·exact⟨k,rfl⟩
  ·exact hs p hp
theorem FP{α:Type}{k:Lit}{es:List (Lit×DataW α)}(h:Bk es):Bk (mdel k es):=⟨h.1.filter _,fun p hp=>h.2 p (List.mem_filter.1 hp).1⟩
theorem Df{α:Type}(k:Lit)(c:DataW α)(es:List (Lit×DataW α)):(mput k c es).Perm ((k,c)::mdel k es):=Go.WideShapes.insert_perm _ _
theorem Rl{α:Type}{k:By}{c:DataW α}{es:List (Lit×DataW α)}(hs:Bk es)(h:(Lit.string k,c)∈es):es.Perm ((.string k,c)::mdel (.string k) es):=by
 have:=Df (.string k) c es
 rwa [FO hs h] at this
def ed(F:List A->List A)(G:List (Lit×A)->List (Lit×A))(a:A):A:=match a with
 | .agg [.lit (.int k b),.lit (.int l g),x]=>(match x with
  | .slice al y=>.agg [.lit (.int k b),.lit (.int l g),.slice (F al) y]
  | .map es=>.agg [.lit (.int k b),.lit (.int l g),.map (G es)]
  | z=>.agg [.lit (.int k b),.lit (.int l g),z])
 | y=>y
def BS(i:Nat)(k:By)(c:A):A->A:=ed (lins i c) (mput (.string k) c)
def Cb(i:Nat)(k:By):A->A:=ed (ldel i) (mdel (.string k))
def Bx(i:Nat)(k:By)(c:A):A->A:=ed (fun al=>al.set i c) (mput (.string k) c)
theorem C0(F:List A->List A)(G:List (Lit×A)->List (Lit×A))(b g:Nat)(al:List A):ed F G (nd b g (.slice al []))=nd b g (.slice (F al) []):=rfl
theorem Cy(F:List A->List A)(G:List (Lit×A)->List (Lit×A))(b g:Nat)(es:List (Lit×A)):ed F G (nd b g (.map es))=nd b g (.map (G es)):=rfl
theorem Qe{f:Nat}{F F':List A->List A}{G G':List (Lit×A)->List (Lit×A)}(hF:∀al,(F al).map (er f)=F' (al.map (er f)))(hG:∀es,(G es).map (fun p=>(p.1,er f p.2))=G' (es.map fun p=>(p.1,er f p.2))){a:A}
  (h:(∃b g al,a=nd b g (.slice al [])) \/ ∃b g es,a=nd b g (.map es)):er (f+1) (ed F G a)=ed F' G' (er (f+1) a):=by
 rcases h with⟨b,g,al,rfl⟩|⟨b,g,es,rfl⟩
 ·rw[C0,er_arr,er_arr,C0,hF]
 ·rw[Cy,er_obj,er_obj,Cy,hG]
def Box(a:A):Prop:=(∃b g al,a=nd b g (.slice al [])) \/ ∃b g es,a=nd b g (.map es)
theorem Sg{f i:Nat}{k:By}{c a:A}(h:Box a):er (f+1) (BS i k c a)=BS i k (er f c) (er (f+1) a):=Qe (fun _=>Ji _ _ _ _) (fun _=>Fq _ _ _ _) h
theorem Se{f i:Nat}{k:By}{a:A}(h:Box a):er (f+1) (Cb i k a)=Cb i k (er (f+1) a):=Qe (fun _=>Jj _ _ _) (fun _=>EK _ _ _) h
theorem Sb{f i:Nat}{k:By}{c a:A}(h:Box a):er (f+1) (Bx i k c a)=Bx i k (er f c) (er (f+1) a):=Qe (fun _=>List.map_set) (fun _=>Fq _ _ _ _) h
theorem OD{f i:Nat}{k:By}{c a:A}(h:Box a):str (f+1) (BS i k c a)=CV i k (str f c) (str (f+1) a):=by
 rcases h with⟨b,g,al,rfl⟩|⟨b,g,es,rfl⟩
 ·unfold BS;rw[C0,Bo,Bo,Ji];rfl
 ·unfold BS;rw[Cy,Ba,Ba,Fq];rfl
theorem VH{f i:Nat}{k:By}{a:A}(h:Box a):str (f+1) (Cb i k a)=Eu i k (str (f+1) a):=by
 rcases h with⟨b,g,al,rfl⟩|⟨b,g,es,rfl⟩
 ·unfold Cb;rw[C0,Bo,Bo,Jj];rfl
 ·unfold Cb;rw[Cy,Ba,Ba,EK];rfl
theorem OB{f i:Nat}{k:By}{c a:A}(h:Box a):str (f+1) (Bx i k c a)=DH i k (str f c) (str (f+1) a):=by
 rcases h with⟨b,g,al,rfl⟩|⟨b,g,es,rfl⟩
 ·unfold Bx;rw[C0,Bo,Bo,List.map_set];rfl
 ·unfold Bx;rw[Cy,Ba,Ba,Fq];rfl
theorem VJ{f i:Nat}{w:World}{u:Value}{a:A}(h:Ae (f+1) w u a)(c:A):str (f+1) (kid a i c)=CU i (str f c) (str (f+1) a):=by
 obtain⟨b,g,x,rfl,hv,h⟩:=h;rcases h with⟨k,h1,h2,rfl,h⟩|⟨n,h2,rfl,h,hbd⟩|⟨s,h2,rfl,h⟩|⟨al,sl,ps,rfl,h,ho,hs,ha⟩|⟨es,n,D,rfl,h,ho,hp⟩
 ·rfl
 ·rfl
 ·rfl
 ·rw[KB,Bo,Bo,List.map_set];rfl
 ·rw[KA,Ba,Ba,GF (fun p:Lit×A=>(p.1,str f p.2)) (fun p=>(p.1,c)) (fun p=>(p.1,str f c)) fun p=>rfl];rfl
theorem OC{w:World}:∀ {p:List Nat} {f:Nat} {u:Value} {a n:A} (n':A),Ae (f+p.length) w u a->sub p a=some n->str (f+p.length) (put p n' a)=Ay p (str f n') (str (f+p.length) a)
 | [],_,_,_,_,_,_,_=>rfl
 | i::r,f,u,a,n,n',ht,h=>by
  obtain⟨c,hc,h2⟩:=Cm h;have h':Ae ((f+r.length)+1) w u a:=ht;obtain⟨x,hx⟩:∃u,Ae (f+r.length) w u c:=Ae.at (f:=f+r.length) (p:=[i]) h' (show sub [i] a=some c by simp[sub,hc]);have hk:(A9 (str ((f+r.length)+1) a))[i]? = some (str (f+r.length) c):=by rw[DN h',List.getElem?_map,hc];rfl
  rw[BO n' hc];show str ((f+r.length)+1) _=Ay (i::r) _ (str ((f+r.length)+1) a);rw[VJ h',Ay,hk,OC n' hx h2]
end Sp
end

section
open Go.RowKit Go.Maps
namespace Sp
abbrev Opn:=Nat×List By×V
abbrev Inv:=Option (List Opn)
abbrev Doc:=Option (V×Inv)
abbrev St:=Int×By×By
abbrev Ans:=Nat×Nat×By
abbrev Op2:=Nat×List By×List By×V
def Jy:By:=[97,100,100]
def Fc:By:=[114,101,109,111,118,101]
def Es:By:=[114,101,112,108,97,99,101]
def L8:By:=[109,111,118,101]
def copy_:By:=[99,111,112,121]
def L7:By:=[116,101,115,116]
def op_:By:=[111,112]
def BE:By:=[112,97,116,104]
def Dz:By:=[102,114,111,109]
def Bg:By:=[118,97,108,117,101]
def AK(d:V)(k:By):Option V:=match d with
 | .map es=>if Maps.has (.map es:V) (.string k)=true then some ((DataW.map es).atKey (.string k) .nil) else none
 | _=>none
def Cc:Option V->Option By
 | some (.lit (.string s))=>some s
 | _=>none
def BZ(d:Option V):Option (List By):=match Cc d with
 | some s=>toks s
 | none=>none
def Gg(nm:By)(hv hf:Bool):Option Nat :=
 if nm=Fc then some 1
 else if nm=Jy then (if hv then some 0 else none)
 else if nm=Es then (if hv then some 2 else none)
 else if nm=L7 then (if hv then some 5 else none)
 else if nm=L8 then (if hf then some 3 else none)
 else if nm=copy_ then (if hf then some 4 else none)
 else none
def CF(d:V):Option Op2:=match BZ (AK d BE) with
 | none=>none
 | some p=>match Gg ((Cc (AK d op_)).getD []) (AK d Bg).isSome (BZ (AK d Dz)).isSome with
  | none=>none
  | some k=>some (k,p,(BZ (AK d Dz)).getD [],(AK d Bg).getD .nil)
def Cn:Nat->List V->Except Nat (List Op2)
 | _,[]=>.ok []
 | i,d::r=>match CF d with
  | none=>.error i
  | some o=>match Cn (i+1) r with
   | .ok l=>.ok (o::l)
   | .error c=>.error c
def Dv(d:V):Except Nat (List Op2):=match d with
 | .slice es _=>Cn 0 es
 | _=>.error 0
def way(d:V)(s:List By):List Nat:=(Bz d s).getD []
def noB:By:=[]
def Ce(d:V)(s:List By)(t:By)(n x:V):Except Nat (V×List Opn):=match n with
 | .map es=>if Maps.has (.map es:V) (.string t)=true then .ok (Ay (way d s) (DH 0 t x (.map es)) d,[(2,s++[t],(DataW.map es).atKey (.string t) .nil)])
   else .ok (Ay (way d s) (CV 0 t x (.map es)) d,[(1,s++[t],.nil)])
 | .slice es y=>match C5 es.length t with
  | .error c=>.error c
  | .ok i=>.ok (Ay (way d s) (CV i noB x (.slice es y)) d,[(1,s++[Lib.itoa (i:Int)],.nil)])
 | _=>.error 11
def BX(p:List By):Option (List By×By):=match p.getLast? with
 | none=>none
 | some t=>some (p.dropLast,t)
def BU(d:V)(p:List By)(x:V):Except Nat (V×List Opn):=match BX p with
 | none=>.ok (x,[(2,[],d)])
 | some (s,t)=>match Ag d s with
  | .error c=>.error c
  | .ok n=>Ce d s t n x
def B7(d:V)(p:List By):Except Nat (V×List Opn):=match BX p with
 | none=>.error 11
 | some (s,t)=>match Ag d s with
  | .error c=>.error c
  | .ok n=>match Aj n t with
   | .error c=>.error c
   | .ok e=>.ok (Ay (way d s) (Eu ((idx t).getD 0) t n) d,[(0,p,e)])
def CM(d:V)(p:List By)(x:V):Except Nat (V×List Opn):=match BX p with
 | none=>.ok (x,[(2,[],d)])
 | some (s,t)=>match Ag d s with
  | .error c=>.error c
  | .ok n=>match Aj n t with
   | .error c=>.error c
   | .ok e=>.ok (Ay (way d s) (DH ((idx t).getD 0) t x n) d,[(2,p,e)])
def leads(p q:List By):Bool:=decide (q.length<p.length) && (p.take q.length == q)
def Iz(d:V)(q p:List By):Except Nat (V×List Opn):=match Ag d q with
 | .error c=>.error c
 | .ok e=>if q=p then .ok (d,[]) else if leads p q then .error 13 else match B7 d q with
  | .error c=>.error c
  | .ok (d1,j1)=>match BU d1 p e with
   | .error c=>.error c
   | .ok (d2,j2)=>.ok (d2,j1++j2)
def IA(d:V)(q p:List By):Except Nat (V×List Opn):=match Ag d q with
 | .error c=>.error c
 | .ok e=>BU d p e
noncomputable def Ix(d:V)(p:List By)(x:V):Except Nat (V×List Opn):=match Ag d p with
 | .error c=>.error c
 | .ok e=>if veq e x=true then .ok (d,[]) else .error 14
noncomputable def do1(d:V)(o:Op2):Except Nat (V×List Opn) :=
 if o.1=0 then BU d o.2.1 o.2.2.2 else if o.1=1 then B7 d o.2.1 else if o.1=2 then CM d o.2.1 o.2.2.2
 else if o.1=3 then Iz d o.2.2.1 o.2.1 else if o.1=4 then IA d o.2.2.1 o.2.1 else Ix d o.2.1 o.2.2.2
noncomputable def Ex(dp:Int)(d:V):Nat:=if dp<dep top d then 7 else if 20000<(can top d).length then 4 else 0
noncomputable def Bb(dp:Int):Nat->V->List Opn->List Op2->Except (Nat×Nat) (V×List Opn)
 | _,d,j,[]=>.ok (d,j)
 | i,d,j,o::r=>match do1 d o with
  | .error c=>.error (c,i)
  | .ok (d',j')=>if Ex dp d'=0 then Bb dp (i+1) d' (j++j') r else .error (Ex dp d',i)
def Da(c:UInt8):By:=if c=126 then [126,48] else if c=47 then [126,49] else [c]
def Bq(t:By):By:=t.flatMap Da
def AY(p:List By):By:=p.flatMap fun t=>47::Bq t
def BD(k:Nat):By:=if k=0 then Jy else if k=1 then Fc else Es
def A0(o:Opn):V:=if o.1=1 then Av [(.string op_,Az (BD o.1)),(.string BE,Az (AY o.2.1))]
 else Av [(.string op_,Az (BD o.1)),(.string BE,Az (AY o.2.1)),(.string Bg,o.2.2)]
def BW(l:List Opn):By:=can top (Ar (l.map A0))
end Sp
end

section
open Go.RowKit Go.Maps
namespace Sp
def isObj(d:V):Bool:=match d with
 | .map _=>true
 | _=>false
def isNull(d:V):Bool:=match d with
 | .lit (.int _ k)=>k == 0
 | _=>false
def Be:Nat->V->V
 | 0,_=>.nil
 | f+1,p=>match p with
  | .map ps=>.map ((ps.filter fun q=>!isNull q.2).map fun q=>(q.1,Be f q.2))
  | p=>p
def AG(es:List (Lit×V))(k:Lit):Option V:=if Maps.has (.map es:V) k=true then some ((DataW.map es).atKey k .nil) else none
def Ez(k:Lit):By:=match k with
 | .string s=>s
 | _=>[]
def GE(m:Option V->List By->V->V×List Opn)(s:List By):List (Lit×V)->List (Lit×V)->V×List Opn
 | [],es=>(.map es,[])
 | (k,q)::r,es =>
  if isNull q then (match AG es k with
   | none=>GE m s r es
   | some o=>((GE m s r (mdel k es)).1,(0,s++[Ez k],o)::(GE m s r (mdel k es)).2))
  else ((GE m s r (mput k (m (AG es k) (s++[Ez k]) q).1 es)).1,(m (AG es k) (s++[Ez k]) q).2++(GE m s r (mput k (m (AG es k) (s++[Ez k]) q).1 es)).2)
def mrg:Nat->Option V->List By->V->V×List Opn
 | 0,_,_,_=>(.nil,[])
 | f+1,v,s,p=>match v,p with
  | some (.map es),.map ps=>GE (mrg f) s ps es
  | some o,p=>(Be (f+1) p,[(2,s,o)])
  | none,p=>(Be (f+1) p,[(1,s,.nil)])
def Yn(xs bs:List (Lit×V)):List By:=(bs.foldl (fun (l:List (Lit×V)) q=>mput q.1 .nil l) xs).map fun p=>Ez p.1
noncomputable def lcs:List V->List V->Nat
 | [],_=>0
 | _::_,[]=>0
 | x::a,y::b=>if veq x y=true then 1+lcs a b else max (lcs a (y::b)) (lcs (x::a) b)
termination_by a b=>a.length+b.length
noncomputable def apart:Nat->List V->List V->Nat->Nat->List Nat×List Nat
 | 0,_,_,_,_=>([],[])
 | _+1,[],[],_,_=>([],[])
 | n+1,_::a,[],k,j=>((k::(apart n a [] k j).1),(apart n a [] k j).2)
 | n+1,[],_::b,k,j=>((apart n [] b k (j+1)).1,j::(apart n [] b k (j+1)).2)
 | n+1,x::a,y::b,k,j=>if lcs a (y::b)=lcs (x::a) (y::b) then ((k::(apart n a (y::b) k j).1),(apart n a (y::b) k j).2)
   else if lcs (x::a) b=lcs (x::a) (y::b) then ((apart n (x::a) b k (j+1)).1,j::(apart n (x::a) b k (j+1)).2)
   else apart n a b (k+1) (j+1)
def Xs(s:List By)(i:Nat):List By:=s++[Lib.itoa (i:Int)]
noncomputable def YM(s:List By)(a b:List V):List Opn :=
 ((apart (a.length+b.length) a b 0 0).1.map fun (i:Nat)=>((1,Xs s i,.nil):Opn))++(apart (a.length+b.length) a b 0 0).2.map fun (i:Nat)=>((0,Xs s i,(b[i]?).getD .nil):Opn)
def U9(m:List By->V->V->List Opn)(s:List By)(xs bs:List (Lit×V)):List By->List Opn
 | []=>[]
 | k::r=>(match AG xs (.string k),AG bs (.string k) with
  | _,none=>[(1,s++[k],.nil)]
  | none,some y=>[(0,s++[k],y)]
  | some x,some y=>m (s++[k]) x y)++U9 m s xs bs r
noncomputable def X0(n:Int):Nat->List By->V->V->List Opn
 | 0,_,_,_=>[]
 | f+1,s,a,b=>match a,b with
  | .map xs,.map bs=>U9 (X0 n f) s xs bs (Yn xs bs)
  | .slice xs x,.slice bs y=>if ((xs.length:Int)+1)*((bs.length:Int)+1)<=n then YM s xs bs else if veq (.slice xs x) (.slice bs y)=true then [] else [(2,s,.slice bs y)]
  | a,b=>if veq a b=true then [] else [(2,s,b)]
def RE(a:V):List (Lit×V):=match a with
 | .map es=>es
 | _=>[]
noncomputable def PU(m:V->V->Option V)(xs:List (Lit×V)):List (Lit×V)->List (Lit×V)->Option (List (Lit×V))
 | [],out=>some out
 | (k,y)::r,out=>match AG xs k with
  | some x=>if veq x y=true then PU m xs r out else if isNull y then none else (match m x y with
   | none=>none
   | some z=>PU m xs r (mput k z out))
  | none=>if isNull y then none else (match m (.map []) y with
   | none=>none
   | some z=>PU m xs r (mput k z out))
noncomputable def mdf:Nat->V->V->Option V
 | 0,_,_=>none
 | f+1,a,b=>match b with
  | .map bs=>(PU (mdf f) (RE a) bs (((RE a).filter fun p=>!Maps.has (.map bs:V) p.1).map fun p=>(p.1,BV 0))).map .map
  | b=>some b
end Sp
noncomputable def Sp.stPatch(d e:Int)(v:Sp.V×Sp.Inv)(s:Sp.By):Sp.Ans×(Sp.V×Sp.Inv):=match Sp.readTo s (d+2) e with
 | (c,none)=>((c,0,[]),v)
 | (_,some p)=>match Sp.Dv p with
  | .error i=>((10,i,[]),v)
  | .ok l=>match Sp.Bb d 0 v.1 [] l with
   | .error (c,i)=>((c,i,[]),v)
   | .ok (x,j)=>((0,0,[]),(x,some j.reverse))
noncomputable def Sp.mergeA(v:Sp.V×Sp.Inv)(p:Sp.V):Sp.Ans×(Sp.V×Sp.Inv) :=
 if 20000<(Sp.can top (Sp.mrg top (some v.1) [] p).1).length then ((4,0,[]),v) else ((0,0,[]),((Sp.mrg top (some v.1) [] p).1,some (Sp.mrg top (some v.1) [] p).2.reverse))
noncomputable def Sp.stMerge(d e:Int)(v:Sp.V×Sp.Inv)(s:Sp.By):Sp.Ans×(Sp.V×Sp.Inv):=match Sp.readTo s d e with
 | (c,none)=>((c,0,[]),v)
 | (_,some p)=>Sp.mergeA v p
def Sp.stInvert(v:Sp.V×Sp.Inv):Sp.Ans:=match v.2 with
 | none=>(3,0,[])
 | some j=>(0,0,Sp.BW j)
noncomputable def Sp.diffAns(n:Int)(v p:Sp.V):Sp.Ans:=(0,0,Sp.BW (Sp.X0 n top [] v p))
noncomputable def Sp.stDiff(d e n:Int)(v:Sp.V×Sp.Inv)(s:Sp.By):Sp.Ans:=match Sp.readTo s d e with
 | (c,none)=>(c,0,[])
 | (_,some p)=>Sp.diffAns n v.1 p
noncomputable def Sp.mdiffAns(v p:Sp.V):Sp.Ans:=match Sp.mdf top v p with
 | none=>(15,0,[])
 | some x=>(0,0,Sp.can top x)
noncomputable def Sp.stMergeDiff(d e:Int)(v:Sp.V×Sp.Inv)(s:Sp.By):Sp.Ans:=match Sp.readTo s d e with
 | (c,none)=>(c,0,[])
 | (_,some p)=>Sp.mdiffAns v.1 p
noncomputable def Sp.amend(d e n:Int)(v:Sp.V×Sp.Inv)(o:Sp.St):Sp.Ans×(Sp.V×Sp.Inv) :=
 if o.1=5 then Sp.stPatch d e v o.2.1 else if o.1=6 then Sp.stMerge d e v o.2.1 else if o.1=7 then (Sp.stInvert v,v)
 else if o.1=8 then (Sp.stDiff d e n v o.2.1,v) else (Sp.stMergeDiff d e v o.2.1,v)
end

section
set_option maxHeartbeats 1000000
open Go.RowKit
def Sp.inB(n a b:Int):Bool:=decide (a<=n) && decide (n<=b)
def Sp.cfg(d e n:Int):Bool:=Sp.inB d 1 20 && (Sp.inB e 0 400 && Sp.inB n 0 2000)
def Sp.ldd(r:Nat×Option Sp.V)(doc:Sp.Doc):Sp.Ans×Sp.Doc :=
 match r.2 with
 | some v=>((r.1,0,[]),some (v,none))
 | none=>((r.1,0,[]),doc)
def Sp.gotA(v:Sp.V)(s:Sp.By):Sp.Ans:=match Sp.toks s with
 | none=>(9,0,[])
 | some l=>match Sp.Ag v l with
  | .ok e=>(0,0,Sp.can top e)
  | .error c=>(c,0,[])
noncomputable def Sp.tst(d e:Int)(v:Sp.V)(s t:Sp.By):Nat:=match Sp.toks s with
 | none=>9
 | some l=>match Sp.readTo t d e with
  | (c,none)=>c
  | (_,some x)=>match Sp.Ag v l with
   | .error c=>c
   | .ok y=>if veq y x=true then 0 else 14
noncomputable def Sp.ask(d e:Int)(v:Sp.V)(o:Sp.St):Sp.Ans :=
 if o.1=2 then (0,0,Sp.can top v) else if o.1=3 then Sp.gotA v o.2.1 else if o.1=4 then (Sp.tst d e v o.2.1 o.2.2,0,[]) else (1,0,[])
noncomputable def Sp.step(d e n:Int)(doc:Sp.Doc)(o:Sp.St):Sp.Ans×Sp.Doc :=
 if Sp.cfg d e n then
  (if o.1<1\/9<o.1 then ((1,0,[]),doc)
   else if o.1=1 then Sp.ldd (Sp.readTo o.2.1 d e) doc
   else match doc with
    | none=>((3,0,[]),doc)
    | some v=>if o.1<5 then (Sp.ask d e v.1 o,doc) else ((Sp.amend d e n v o).1,some (Sp.amend d e n v o).2))
 else ((2,0,[]),doc)
noncomputable def Sp.run(d e n:Int):Sp.Doc->List Sp.St->List Sp.Ans
 | _,[]=>[]
 | doc,o::r=>(Sp.step d e n doc o).1::Sp.run d e n (Sp.step d e n doc o).2 r
noncomputable def Sp.docAfter(d e n:Int):Sp.Doc->List Sp.St->Sp.Doc
 | doc,[]=>doc
 | doc,o::r=>Sp.docAfter d e n (Sp.step d e n doc o).2 r
theorem Sp.run_len(d e n:Int):∀ (l:List Sp.St) (doc:Sp.Doc),(Sp.run d e n doc l).length=l.length:=by
 intro l;induction l with
 | nil=>intro doc;rfl
 | cons o r ih=>intro doc;simp[Sp.run,ih]
theorem Sp.run_snoc(d e n:Int):∀ (l:List Sp.St) (doc:Sp.Doc) (o:Sp.St),Sp.run d e n doc (l++[o])=Sp.run d e n doc l++[(Sp.step d e n (Sp.docAfter d e n doc l) o).1]:=by
 intro l;induction l with
 | nil=>intro doc o;rfl
 | cons x r ih=>intro doc o;simp[Sp.run,Sp.docAfter,ih]
theorem Sp.after_snoc(d e n:Int):∀ (l:List Sp.St) (doc:Sp.Doc) (o:Sp.St),Sp.docAfter d e n doc (l++[o])=(Sp.step d e n (Sp.docAfter d e n doc l) o).2:=by
 intro l;induction l with
 | nil=>intro doc o;rfl
 | cons x r ih=>intro doc o;simp[Sp.docAfter,ih]
def Ap(a:Sp.Ans):Value:=.agg #[.int .i64 a.1,.int .i64 a.2.1,.string ⟨a.2.2.toArray⟩]
def A8(c:Nat)(t:Sp.By):Value:=.agg #[.int .i64 c,.int .i64 0,.string ⟨t.toArray⟩]
theorem Gu(n a b:Int)(w:World):Calls Tryz.prog 52 #[.int .i64 n,.int .i64 a,.int .i64 b] w fun e w'=>e = .returned (.bool (Sp.inB n a b))/\w'=w:=by
 by_cases h1:a<=n
 ·by_cases h2:n<=b
  ·have e1:decide (a<=n)=true:=by simpa using h1
   have e2:decide (n<=b)=true:=by simpa using h2
   have HE:=Ab (show Sp.inB n a b=true by unfold Sp.inB;rw[e1,e2];rfl);clear h1 h2
   go_enter func52,ntmps52
   go_wp2_with (fail)
   go_ret;exact⟨by rw[Aa HE];rfl,rfl⟩
  ·have e1:decide (a<=n)=true:=by simpa using h1
   have e2:decide (n<=b)=false:=by simpa using h2
   have HE:=Ab (show Sp.inB n a b=false by unfold Sp.inB;rw[e1,e2];rfl);clear h1 h2
   go_enter func52,ntmps52
   go_wp2_with (fail)
   go_ret;exact⟨by rw[Aa HE];rfl,rfl⟩
 ·have e1:decide (a<=n)=false:=by simpa using h1
  have HE:=Ab (show Sp.inB n a b=false by unfold Sp.inB;rw[e1];rfl);clear h1
  go_enter func52,ntmps52
  go_wp2_with (fail)
  go_ret;exact⟨by rw[Aa HE];rfl,rfl⟩
theorem Na(d e n:Int)(w:World):Calls Tryz.prog 40 #[.agg #[.int .i64 d,.int .i64 e,.int .i64 n]] w fun x w'=>x = .returned (.bool (Sp.cfg d e n))/\Below w.heap.size w w':=by
 have hb:Below w.heap.size w (w.alloc (.cells #[.int .i64 d,.int .i64 e,.int .i64 n] 23)):=(Below.refl _ _).alloc (Nat.le_refl _) _
 go_enter func40,ntmps40
 go_wp2_with (fail);refine (Gu d 1 20 _).mono ?_
 rintro x w1 ⟨rfl,rfl⟩;cases h1:Sp.inB d 1 20 with
 | false =>
  have H1:=Ab h1;clear h1;simp only
  go_wp2_with (fail)
  go_ret;exact⟨by unfold Sp.cfg;rw[Aa H1];rfl,hb⟩
 | true =>
  have H1:=Ab h1;clear h1;simp only
  go_wp2_with (fail);refine (Gu e 0 400 _).mono ?_
  rintro x w1 ⟨rfl,rfl⟩;cases h2:Sp.inB e 0 400 with
  | false =>
   have H2:=Ab h2;clear h2;simp only
   go_wp2_with (fail)
   go_ret;exact⟨by unfold Sp.cfg;rw[Aa H1,Aa H2];rfl,hb⟩
  | true =>
   have H2:=Ab h2;clear h2;simp only
   go_wp2_with (fail);refine (Gu n 0 2000 _).mono ?_
   rintro x w1 ⟨rfl,rfl⟩
   go_wp2_with (fail)
   go_ret;exact⟨by unfold Sp.cfg;rw[Aa H1,Aa H2];simp,hb⟩
theorem Bv(c:Nat)(w:World):Calls Tryz.prog 41 #[.int .i64 c] w fun x w'=>x = .returned (A8 c [])/\Below w.heap.size w w':=by
 unfold A8
 go_enter func41,ntmps41
 go_wp2_with (fail);refine bodyPost_ret (v:=.agg #[.int .i64 c,.int .i64 0,.string ⟨([]:Sp.By).toArray⟩]) (by simp[results,results41,go_sem]) rfl ⟨rfl,?_⟩
 exact (Below.refl _ w).alloc (Nat.le_refl _) _
end

section
set_option maxHeartbeats 2000000
open Go.RowKit
def SB(w:World)(S:Nat)(d e n:Int)(p:Value):Prop:=w.heap[S]? = some (.cells #[.int .i64 d,.int .i64 e,.int .i64 n,p] 62 (0,0))
section
variable{w:World}{S:Nat}{d e n:Int}{p:Value}
theorem SB.lt(h:SB w S d e n p):S<w.heap.size:=(Array.getElem?_eq_some_iff.1 h).1
theorem SB.c0(h:SB w S d e n p):w.cell? ⟨S,0,none⟩=some (.int .i64 d):=by simp[World.cell?,show w.heap[S]? = _ from h]
theorem SB.c1(h:SB w S d e n p):w.cell? ⟨S,1,none⟩=some (.int .i64 e):=by simp[World.cell?,show w.heap[S]? = _ from h]
theorem SB.c2(h:SB w S d e n p):w.cell? ⟨S,2,none⟩=some (.int .i64 n):=by simp[World.cell?,show w.heap[S]? = _ from h]
theorem SB.c3(h:SB w S d e n p):w.cell? ⟨S,3,none⟩=some p:=by simp[World.cell?,show w.heap[S]? = _ from h]
theorem SB.fz(h:SB w S d e n p)(o:Nat):w.frozen? ⟨S,o,none⟩=false:=by simp[World.frozen?,show w.heap[S]? = _ from h]
theorem SB.low{w':World}(h:SB w S d e n p)(hb:Below w.heap.size w w'):SB w' S d e n p:=(hb.block S h.lt).trans h
theorem SB.set3(h:SB w S d e n p)(q:Value):SB (w.setCell ⟨S,3,none⟩ q) S d e n q:=by
 simp only[SB,World.setCell,Array.getElem?_modify];rw[if_pos trivial,show w.heap[S]? = _ from h];rfl
end
def DB(w:World)(D:Nat)(rp jn:Value)(ch:Bool)(iv:Value):Prop:=w.heap[D]? = some (.cells #[rp,jn,.bool ch,iv] 115 (0,0))
section
variable{w:World}{D:Nat}{rp jn iv:Value}{ch:Bool}
theorem DB.lt(h:DB w D rp jn ch iv):D<w.heap.size:=(Array.getElem?_eq_some_iff.1 h).1
theorem DB.c0(h:DB w D rp jn ch iv):w.cell? ⟨D,0,none⟩=some rp:=by simp[World.cell?,show w.heap[D]? = _ from h]
theorem DB.c1(h:DB w D rp jn ch iv):w.cell? ⟨D,1,none⟩=some jn:=by simp[World.cell?,show w.heap[D]? = _ from h]
theorem DB.c2(h:DB w D rp jn ch iv):w.cell? ⟨D,2,none⟩=some (.bool ch):=by simp[World.cell?,show w.heap[D]? = _ from h]
theorem DB.c3(h:DB w D rp jn ch iv):w.cell? ⟨D,3,none⟩=some iv:=by simp[World.cell?,show w.heap[D]? = _ from h]
theorem DB.kept(h:DB w D rp jn ch iv){w':World}(hk:w'.heap[D]? = w.heap[D]?):DB w' D rp jn ch iv:=hk.trans h
end
def Yf(w:World)(g:Nat)(wp:Value):Prop:=w.heap[g]? = some (.cells #[wp] 80 (0,0))
theorem BG{w w':World}{B e n q:Nat}{v:Value}{xs:List Value}(h:w.ownsRow B e q v n xs)(hk:∀g,v.ownBlock=some g->w'.heap[g]? = w.heap[g]?):w'.ownsRow B e q v n xs:=by
 refine⟨h.1,h.2.imp id ?_⟩;rintro⟨g,cap,cur,h1,h2,h3,h4⟩;exact⟨g,cap,cur,h1,h2,(hk g (by rw[h1];rfl)).trans h3,h4⟩
theorem BP{w:World}{B e n q:Nat}{v:Value}{xs:List Value}(h:w.ownsRow B e q v n xs)(g:Nat)(hg:v.ownBlock=some g):g<w.heap.size/\B<=g:=by
 rcases h.2 with⟨h1,_⟩|⟨g',cap,cur,h1,h2,h3,_⟩
 ·rw[h1] at hg;cases hg
 ·rw[h1] at hg;injection hg with hg;subst hg;exact⟨(Array.getElem?_eq_some_iff.1 h3).1,h2⟩
def AM(w:World)(G:Nat->Prop)(v:Value)(l:List Sp.By):Prop :=
 (l=[] /\ ∃a c,v = .slice a 0 c/\c<=maxLen) \/ ∃g o cap,v = .slice (some ⟨g,o,none⟩) l.length cap/\l.length<=cap/\cap<=maxLen/\G g/\CX w g o l
theorem AM.toks{w:World}{G:Nat->Prop}{v:Value}{l:List Sp.By}(h:AM w G v l):CQ w v l:=by
 rcases h with h|⟨g,o,cap,h1,h2,h3,_,h4⟩
 ·exact Or.inl h
 ·exact Or.inr ⟨g,o,cap,h1,h2,h3,h4⟩
theorem CX.move{w w':World}{g o:Nat}{l:List Sp.By}(h:CX w g o l)(hk:w'.heap[g]? = w.heap[g]?):CX w' g o l:=by
 refine⟨?_,fun k hkl=>(World.cell?_of_block (a:=⟨g,o+k,none⟩) hk).trans (h.2 k hkl)⟩;have h1:w.heap[g]? = some (w.heap[g]'h.1):=Array.getElem?_eq_getElem h.1;rw[h1] at hk;exact (Array.getElem?_eq_some_iff.1 hk).1
theorem AM.move{w w':World}{G G':Nat->Prop}{v:Value}{l:List Sp.By}(h:AM w G v l)(hk:∀k,G k->k<w.heap.size->w'.heap[k]? = w.heap[k]? /\ G' k):AM w' G' v l:=by
 rcases h with h|⟨g,o,cap,h1,h2,h3,hg,h4⟩
 ·exact Or.inl h
 ·have:=hk g hg h4.1;exact Or.inr ⟨g,o,cap,h1,h2,h3,this.2,h4.move this.1⟩
def F3(w:World)(G:Nat->Prop)(kv pv fv vv:Value)(o:Sp.Opn):Prop :=
 kv = .int .i64 o.1/\o.1<3/\AM w G pv o.2.1/\fv = .slice none 0 0/\((o.1=1/\vv = .pointer none)\/(o.1≠1/\Rep top G w vv o.2.2))
theorem F3.move{w w':World}{G G':Nat->Prop}{kv pv fv vv:Value}{o:Sp.Opn}(h:F3 w G kv pv fv vv o)(hk:∀k,G k->k<w.heap.size->w'.heap[k]? = w.heap[k]? /\ G' k):F3 w' G' kv pv fv vv o :=
 ⟨h.1,h.2.1,h.2.2.1.move hk,h.2.2.2.1,h.2.2.2.2.imp id fun ⟨a,b⟩=>⟨a,b.move hk⟩⟩
def D6(w:World)(G:Nat->Prop):List Value->List Sp.Opn->Prop
 | [],[]=>True
 | kv::pv::fv::vv::r,o::s=>F3 w G kv pv fv vv o/\D6 w G r s
 | _,_=>False
theorem D6.move{w w':World}{G G':Nat->Prop}(hk:∀k,G k->k<w.heap.size->w'.heap[k]? = w.heap[k]? /\ G' k):∀ {xs:List Value} {j:List Sp.Opn},D6 w G xs j->D6 w' G' xs j
 | [],[],_=>trivial
 | _::_::_::_::_,_::_,⟨a,b⟩=>⟨a.move hk,D6.move hk b⟩
def JA(w:World)(G:Nat->Prop)(iv:Value)(j:List Sp.Opn):Prop:=∃xs,w.ownsRow 0 178 4 iv j.length xs/\(∀g,iv.ownBlock=some g->G g)/\D6 w G xs j
theorem JA.move{w w':World}{G G':Nat->Prop}{iv:Value}{j:List Sp.Opn}(h:JA w G iv j)(hk:∀k,G k->k<w.heap.size->w'.heap[k]? = w.heap[k]? /\ G' k):JA w' G' iv j:=by
 obtain⟨xs,h1,h2,h3⟩:=h;exact⟨xs,BG h1 fun g hg=>(hk g (h2 g hg) (BP h1 g hg).1).1,fun g hg=>(hk g (h2 g hg) (BP h1 g hg).1).2,h3.move hk⟩
def Sp.IOk(o:Sp.Opn):Prop:=(o.2.1.map fun t=>t.length+1).sum<=1000000/\(o.1≠1 -> ∃d x,Sp.gd d x top 1 o.2.2/\d<=500)
def Ic(w:World)(G:Nat->Prop)(iv:Value):Sp.Inv->Prop
 | none=>iv = .slice none 0 0
 | some j=>JA w G iv j/\(Sp.BW j).length<=8796093022208 /\ ∀o∈j,Sp.IOk o
theorem Ic.move{w w':World}{G G':Nat->Prop}{iv:Value}{j:Sp.Inv}(h:Ic w G iv j)(hk:∀k,G k->k<w.heap.size->w'.heap[k]? = w.heap[k]? /\ G' k):Ic w' G' iv j:=by
 cases j with
 | none=>exact h
 | some j=>exact⟨h.1.move hk,h.2⟩
structure C8(w:World)(D R:Nat)(wp jn iv:Value)(ch:Bool)(T a:Sp.A)(x:Sp.V):Prop where
 db:DB w D (.pointer (some ⟨R,0,none⟩)) jn ch iv
 tr:Ae (top+1) w (.pointer (some ⟨R,0,none⟩)) T
 one:∃g,T=Sp.nd R g (.slice [a] [])
 sub:Ae top w wp a
 str:Sp.str top a=x
 nd:(Sp.fp (top+1) T).Nodup
 nD:D ∉ Sp.fp (top+1) T
theorem C8.move{w w':World}{D R:Nat}{wp jn iv:Value}{ch:Bool}{T a:Sp.A}{x:Sp.V}(h:C8 w D R wp jn iv ch T a x)(hD:w'.heap[D]? = w.heap[D]?)(hk:∀k∈Sp.fp (top+1) T,w'.heap[k]? = w.heap[k]?):C8 w' D R wp jn iv ch T a x:=by
 obtain⟨g,e⟩:=h.one;refine⟨h.db.kept hD,h.tr.move hk,h.one,h.sub.move fun k hka=>hk k ?_,h.str,h.nd,h.nD⟩;rw[e,Sp.AQ];exact List.mem_cons_of_mem _ (List.mem_append_right _ (by simpa using hka))
theorem C8.row{w:World}{D R:Nat}{wp jn iv:Value}{ch:Bool}{T a:Sp.A}{x:Sp.V}(h:C8 w D R wp jn iv ch T a x):∃sl,VB w R 5 n0 [] sl (.map none)/\w.ownsRow 0 80 1 sl 1 [wp]:=by
 obtain⟨g,e⟩:=h.one;have ht:=h.tr;rw[e] at ht;obtain⟨b2,g2,x2,e2,hv,ht⟩:=ht;unfold Sp.nd at e2;injection e2 with e2;injection e2 with e3 e2;injection e2 with e4 e2;injection e2 with e5 _;injection e3 with e3;injection e3 with _ e3;rcases ht with⟨j,_,_,rfl,_⟩|⟨n,_,rfl,_⟩|⟨s,_,rfl,_⟩|⟨al,sl,ps,rfl,hvb,ho,hs,ha⟩|⟨es,n,D,rfl,_⟩
 ·cases e5
 ·cases e5
 ·cases e5
 ·injection e5 with e5 _;subst e5;obtain rfl:R=b2:=by omega
  cases ps with
  | nil=>exact ha.elim
  | cons u r =>
   obtain⟨hu,ha⟩:=ha;cases r with
   | nil =>
    obtain rfl:=hu.uniq h.sub;exact⟨sl,hvb,ho⟩
   | cons _ _=>exact ha.elim
 ·cases e5
structure En(w:World)(F:Nat->Prop)(D R:Nat)(wp:Value)(d e:Int)(v:Sp.V×Sp.Inv):Prop where
 ex:∃T a iv,C8 w D R wp (.slice none 0 0) iv v.2.isSome T a v.1/\(∀k∈Sp.fp (top+1) T,F k)/\Ic w (fun k=>F k/\k≠D/\k ∉ Sp.fp (top+1) T) iv v.2
 fD:F D
 len:(Sp.can top v.1).length<=80000
 gd:Sp.gd d e top 1 v.1
theorem En.move{w w':World}{F F':Nat->Prop}{D R:Nat}{wp:Value}{d e:Int}{v:Sp.V×Sp.Inv}(h:En w F D R wp d e v)(hF:∀k,F k->k<w.heap.size->w'.heap[k]? = w.heap[k]? /\ F' k):En w' F' D R wp d e v:=by
 obtain⟨T,a,iv,h1,h2,h3⟩:=h.ex;have hlt:=h1.tr.lt;refine⟨⟨T,a,iv,h1.move (hF D h.fD h1.db.lt).1 fun k hk=>(hF k (h2 k hk) (hlt k hk)).1,fun k hk=>(hF k (h2 k hk) (hlt k hk)).2,h3.move fun k hk hkl=>?_⟩,(hF D h.fD h1.db.lt).2,h.len,h.gd⟩;obtain⟨g1,g2,g3⟩:=hk;exact⟨(hF k g1 hkl).1,(hF k g1 hkl).2,g2,g3⟩
theorem En.rep{w:World}{F:Nat->Prop}{D R:Nat}{wp:Value}{d e:Int}{v:Sp.V×Sp.Inv}(h:En w F D R wp d e v):Rep top F w wp v.1:=by
 obtain⟨T,a,iv,h1,h2,h3⟩:=h.ex;obtain⟨g,eT⟩:=h1.one;rw[<- h1.str];refine h1.sub.rep fun k hk=>h2 k ?_;rw[eT,Sp.AQ];exact List.mem_cons_of_mem _ (List.mem_append_right _ (by simpa using hk))
def Bn(w:World)(F:Nat->Prop)(p:Value)(d e:Int):Sp.Doc->Prop
 | none=>p = .pointer none
 | some v=>∃D R wp,p = .pointer (some ⟨D,0,none⟩)/\En w F D R wp d e v
theorem Bn.move{w w':World}{F F':Nat->Prop}{p:Value}{d e:Int}{doc:Sp.Doc}(h:Bn w F p d e doc)(hF:∀k,F k->k<w.heap.size->w'.heap[k]? = w.heap[k]? /\ F' k):Bn w' F' p d e doc:=by
 cases doc with
 | none=>exact h
 | some v =>
  obtain⟨D,R,wp,hp,h⟩:=h;exact⟨D,R,wp,hp,h.move hF⟩
theorem Af.drew{w:World}(h:Af w):Af w.drew:=⟨h.ng,h.esc,h.words,h.utf8,h.pow,h.pesc,h.rng,h.mx,h.otab⟩
def Yg(wp:Value)(w:World)(x:Ending)(w':World):Prop:=∃D R g,x = .returned (.pointer (some ⟨D,0,none⟩))/\Below w.heap.size w w'/\w.heap.size<=D/\w.heap.size<=R/\w.heap.size<=g/\D≠R/\D≠g/\R≠g /\
 DB w' D (.pointer (some ⟨R,0,none⟩)) (.slice none 0 0) false (.slice none 0 0)/\VB w' R 5 n0 [] (.slice (some ⟨g,0,none⟩) 1 1) (.map none)/\Yf w' g wp
theorem WU(p:Option Addr)(w:World):Calls Tryz.prog 54 #[.pointer p] w fun x w'=>Yg (.pointer p) w x w':=by
 go_enter func54,ntmps54
 go_wp2_with (fail)
 go_ret;refine⟨w.heap.size+1+1,w.heap.size+1,w.heap.size,rfl,?_,by omega,by omega,by omega,by omega,by omega,by omega,?_,?_,?_⟩
 ·exact (((Below.refl _ w).alloc (Nat.le_refl _) _).alloc (by simp) _).alloc (by simp;omega) _
 ·show (((w.heap.push _).push _).push _)[w.heap.size+1+1]? = _;simp only[Array.getElem?_push,Array.size_push];rw[if_pos trivial]
 ·show (((w.heap.push _).push _).push _)[w.heap.size+1]? = _;simp only[Array.getElem?_push,Array.size_push];rw[if_neg (by omega),if_pos trivial]
 ·show (((w.heap.push _).push _).push _)[w.heap.size]? = _;simp only[Array.getElem?_push,Array.size_push];rw[if_neg (by omega),if_neg (by omega),if_pos trivial]
theorem Ek{w:World}{D R:Nat}{wp jn iv:Value}{ch:Bool}{T a:Sp.A}{x:Sp.V}(h:C8 w D R wp jn iv ch T a x):Calls Tryz.prog 56 #[.pointer (some ⟨D,0,none⟩)] w fun x w'=>x = .returned wp/\Below w.heap.size w w':=by
 obtain⟨sl,hvb,ho⟩:=h.row;have c0:=h.db.c0;have c5:=hvb.c5;obtain⟨g,cap,rfl,a1,a2,a3,hc⟩:=BF ho (Nat.zero_lt_one);have cg:w.cell? ⟨g,0,none⟩=some wp:=hc 0 Nat.zero_lt_one;clear h ho hc
 go_enter func56,ntmps56
 go_wp2_with (fail)
 go_ret;exact⟨rfl,Below.refl _ _⟩
theorem Ib{w:World}{F:Nat->Prop}{D R:Nat}{wp:Value}{d e:Int}{v:Sp.V×Sp.Inv}(h:En w F D R wp d e v):Calls Tryz.prog 56 #[.pointer (some ⟨D,0,none⟩)] w fun x w'=>x = .returned wp/\Below w.heap.size w w':=by
 obtain⟨T,a,iv,h1,_⟩:=h.ex;exact Ek h1
theorem Pq(s:Sp.By)(d e:Int)(w:World)(hT:Af w) :
  Calls Tryz.prog 77 #[.string ⟨s.toArray⟩,.int .i64 d,.int .i64 e] w fun x w'=>∃ (p:Option Addr) (c:Nat),x = .returned (.tuple #[.pointer p,.int .i64 c])/\Below w.heap.size w w' /\
   ((0<c/\Sp.readTo s d e=(c,none))\/(c=0 /\ ∃v,Sp.readTo s d e=(0,some v)/\Tr top w.heap.size w' (.pointer p) v)):=by
 refine (U2 ⟨s.toArray⟩ d e w hT).mono ?_;rintro x w' ⟨hb,hc⟩;rcases hc with⟨c,h1,h2,rfl⟩|⟨v,p,h1,rfl,h2⟩
 ·exact⟨none,c,rfl,hb,Or.inl ⟨h2,h1⟩⟩
 ·exact⟨some p,0,rfl,hb,Or.inr ⟨rfl,v,h1,h2⟩⟩
theorem Mw{S:Nat}{d e n:Int}{p:Value}{w:World}(s:Sp.By)(h:SB w S d e n p)(hT:Af w) :
  Calls Tryz.prog 53 #[.pointer (some ⟨S,0,none⟩),.string ⟨s.toArray⟩] w fun x w'=>∃ (p:Option Addr) (c:Nat),x = .returned (.tuple #[.pointer p,.int .i64 c])/\Below w.heap.size w w' /\
   ((0<c/\Sp.readTo s d e=(c,none))\/(c=0 /\ ∃v,Sp.readTo s d e=(0,some v)/\Tr top w.heap.size w' (.pointer p) v)):=by
 have c0:=h.c0;have c1:=h.c1;have HR:=Ab (fun (w0:World) (hT:Af w0)=>Pq s d e w0 hT);have HT:=Ab hT;clear hT h
 go_enter func53,ntmps53
 go_wp2_with (fail)
 go_region_with (go_at_call 77;refine (Aa HR _ ?_).mono ?_;exact (Aa HT).drew;rintro x w2 ⟨p2,c,rfl,hb2,hc⟩)
 all_goals (
  replace hb2:Below w.heap.size w w2:=⟨hb2.os,hb2.tape,hb2.output,hb2.size,hb2.block⟩
  replace hc:(0<c/\Sp.readTo s d e=(c,none))\/(c=0 /\ ∃v,Sp.readTo s d e=(0,some v)/\Tr top w.heap.size w2 (.pointer p2) v):=hc
  have HB:=Ab hb2;have HC:=Ab hc;clear hb2 hc
  go_wp2_with (fail)
  go_ret2
  exact⟨p2,c,rfl,Aa HB,Aa HC⟩)
theorem Q7{S:Nat}{d e n:Int}{p:Value}{w:World}(s:Sp.By)(h:SB w S d e n p)(hT:Af w) :
  Calls Tryz.prog 53 #[.pointer (some ⟨S,0,none⟩),.string ⟨s.toArray⟩] w fun x w'=>∃ (p:Option Addr) (c:Nat),x = .returned (.tuple #[.pointer p,.int .i64 c])/\Below w.heap.size w w' /\
   ((0<c/\Sp.readTo s d e=(c,none))\/(c=0 /\ ∃v,Sp.readTo s d e=(0,some v)/\Rep top (fun k=>w.heap.size<=k) w' (.pointer p) v)):=by
 refine (Mw s h hT).mono ?_;rintro x w' ⟨p,c,h1,h2,h3⟩;exact⟨p,c,h1,h2,h3.imp id fun ⟨a,v,b,c⟩=>⟨a,v,b,c.rep⟩⟩
def AB(w:World)(g:Nat):Prop:=w.heap[g]? = some (.cells #[.int .i64 0,.int .i64 0,.string ⟨#[]⟩] 46 (0,0))
section
variable{w:World}{g:Nat}
theorem AB.lt(h:AB w g):g<w.heap.size:=(Array.getElem?_eq_some_iff.1 h).1
theorem AB.c0(h:AB w g):w.cell? ⟨g,0,none⟩=some (.int .i64 0):=by simp[World.cell?,show w.heap[g]? = _ from h]
theorem AB.c1(h:AB w g):w.cell? ⟨g,1,none⟩=some (.int .i64 0):=by simp[World.cell?,show w.heap[g]? = _ from h]
theorem AB.c2(h:AB w g):w.cell? ⟨g,2,none⟩=some (.string ⟨#[]⟩):=by simp[World.cell?,show w.heap[g]? = _ from h]
theorem AB.fz(h:AB w g)(o:Nat):w.frozen? ⟨g,o,none⟩=false:=by simp[World.frozen?,show w.heap[g]? = _ from h]
theorem AB.low{w':World}(h:AB w g)(hb:Below w.heap.size w w'):AB w' g:=(hb.block g h.lt).trans h
theorem AB.new(w:World):AB (w.alloc (.cells #[.int .i64 0,.int .i64 0,.string ⟨#[]⟩] 46)) w.heap.size:=by
 show (w.heap.push _)[w.heap.size]? = _;simp
end
theorem Aq{B:Nat}{w w':World}(h:Below B w w')(b o:Nat)(hb:B<=b)(u:Value):Below B w (w'.setCell ⟨b,o,none⟩ u):=h.setCell (by exact hb) u
theorem WG{w0 w3:World}{lo D R g:Nat}{p2:Option Addr}{v:Sp.V}{d e:Int}{s:Sp.By}{F:Nat->Prop}(hng:0<lo)(hlo:lo<=w0.heap.size)(hrep:Tr top lo w0 (.pointer p2) v)(hb:Below w0.heap.size w0 w3)(hD:w0.heap.size<=D)(hR:w0.heap.size<=R)(hg:w0.heap.size<=g)(hDR:D≠R)(hDg:D≠g)(hRg:R≠g)
  (hF:∀k,lo<=k->k<w0.heap.size->F k) (fD:F D) (fR:F R) (fg:F g)
  (hdb:DB w3 D (.pointer (some ⟨R,0,none⟩)) (.slice none 0 0) false (.slice none 0 0)) (hrb:VB w3 R 5 n0 [] (.slice (some ⟨g,0,none⟩) 1 1) (.map none)) (hgb:Yf w3 g (.pointer p2)) (hrd:Sp.readTo s d e=(0,some v)) :
  En w3 F D R (.pointer p2) d e (v,none):=by
 obtain⟨a,h1,h2,h3,h4⟩:=hrep;have h5:=h1.lt;have h6:Ae top w3 (.pointer p2) a:=h1.move fun k hk=>hb.block k (h5 k hk);have ef:Sp.fp (top+1) (Sp.nd R g (.slice [a] []))=R::([g]++Sp.fp top a):=by
  rw[Sp.AQ,if_neg (by omega)];simp
 refine⟨⟨Sp.nd R g (.slice [a] []),a,.slice none 0 0,⟨hdb,?_,⟨g,rfl⟩,h6,h2,?_,?_⟩,?_,rfl⟩,fD,F7 hrd top,CI hrd⟩
 ·refine⟨R,g,_,rfl,rfl,Or.inr (Or.inr (Or.inr (Or.inl ⟨[a],_,[.pointer p2],rfl,hrb,⟨rfl,Or.inr ⟨g,1,#[.pointer p2],rfl,Nat.zero_le _,hgb,Nat.le_refl _,by unfold maxLen;omega,rfl,rfl⟩⟩,?_,⟨h6,trivial⟩⟩)))⟩;rw[if_neg (by omega)];rfl
 ·rw[ef];refine List.nodup_cons.2 ⟨fun hm=>?_,List.nodup_cons.2 ⟨fun hm=>?_,h3⟩⟩
  ·rcases List.mem_cons.1 hm with e|hm
   ·exact hRg e
   ·have:=h5 R hm;omega
  ·have:=h5 g hm;omega
 ·rw[ef];intro hm;rcases List.mem_cons.1 hm with e|hm
  ·exact hDR e
  ·rcases List.mem_cons.1 hm with e|hm
   ·exact hDg e
   ·have:=h5 D hm;omega
 ·rw[ef];intro k hm;rcases List.mem_cons.1 hm with rfl|hm
  ·exact fR
  ·rcases List.mem_cons.1 hm with rfl|hm
   ·exact fg
   ·exact hF k (h4 k hm) (h5 k hm)
structure As(F:Nat->Prop)(w w':World):Prop where
 os:w'.os=w.os
 tape:w'.tape=w.tape
 output:w'.output=w.output
 size:w.heap.size<=w'.heap.size
 block:∀k,k<w.heap.size -> ¬ F k->w'.heap[k]? = w.heap[k]?
theorem As.of_below{F:Nat->Prop}{w w':World}(h:Below w.heap.size w w'):As F w w':=⟨h.os,h.tape,h.output,h.size,fun k hk _=>h.block k hk⟩
theorem As.trans{F F':Nat->Prop}{a b c:World}(h:As F a b)(k:As F' b c)(hF:∀k,k<a.heap.size->F' k->F k):As F a c :=
 ⟨k.os.trans h.os,k.tape.trans h.tape,k.output.trans h.output,Nat.le_trans h.size k.size,fun i hi hx=>(k.block i (Nat.lt_of_lt_of_le hi h.size) fun h'=>hx (hF i hi h')).trans (h.block i hi hx)⟩
theorem As.setCell{F:Nat->Prop}{a w:World}(h:As F a w){p:Addr}(hp:F p.block\/a.heap.size<=p.block)(u:Value):As F a (w.setCell p u) :=
 ⟨h.os,h.tape,h.output,by simpa[World.setCell] using h.size,fun k hk hx=>by
  have hne:k≠p.block:=by
   rcases hp with hp|hp
   ·rintro rfl;exact hx hp
   ·omega
  exact (Below.heap_setCell _ _ _ _ hne).trans (h.block k hk hx)⟩
theorem As.below{F:Nat->Prop}{B:Nat}{w w':World}(h:As F w w')(hF:∀k,k<B -> ¬ F k)(hs:B<=w.heap.size):Below B w w' :=
 ⟨h.os,h.tape,h.output,h.size,fun k hk=>h.block k (by omega) (hF k hk)⟩
theorem As.mono{F F':Nat->Prop}{w w':World}(h:As F w w')(hF:∀k,F k->F' k):As F' w w':=⟨h.os,h.tape,h.output,h.size,fun k hk hx=>h.block k hk fun h'=>hx (hF k h')⟩
theorem TZ{S lo:Nat}{d e n:Int}{p:Value}{w:World}{v:Sp.V}{p2:Option Addr}{s:Sp.By}(h:SB w S d e n p)(hS:S<lo)(hlo:lo<=w.heap.size)(hrep:Tr top lo w (.pointer p2) v)(hrd:Sp.readTo s d e=(0,some v)) :
  Calls Tryz.prog 43 #[.pointer (some ⟨S,0,none⟩),.pointer p2] w fun x w'=>x = .returned (Ap (0,0,[]))/\As (fun k=>k=S) w w' /\ ∃p',SB w' S d e n p'/\Bn w' (fun k=>lo<=k) p' d e (some (v,none)):=by
 have hlt:=h.lt;have hba:Below w.heap.size w (w.alloc (.cells #[.int .i64 0,.int .i64 0,.string ⟨#[]⟩] 46)):=(Below.refl _ _).alloc (Nat.le_refl _) _;have h0:=h.low hba;have HS:=Ab h0;have HREP:=Ab hrep;have HAB:=Ab (AB.new w);have HBA:=Ab hba;have hsz:(w.alloc (.cells #[.int .i64 0,.int .i64 0,.string ⟨#[]⟩] 46)).heap.size=w.heap.size+1:=by simp
 have HRD:=Ab hrd;clear h h0 hrep hba hrd
 go_enter func43,ntmps43
 go_wp2_with (fail);generalize w.alloc (.cells #[.int .i64 0,.int .i64 0,.string ⟨#[]⟩] 46)=wa at *
 refine (WU p2 _).mono ?_;rintro x w3 ⟨D,R,g,rfl,hb3,hD,hR,hg,hDR,hDg,hRg,hdb,hrb,hgb⟩;have s3:=(Aa HS).low hb3;have a3:=(Aa HAB).low hb3;have g0:=a3.c0;have g1:=a3.c1;have g2:=a3.c2;have z:=a3.fz;have hSg:S≠w.heap.size:=by omega
 have S3:=Ab s3;have HB3:=Ab ((Aa HBA).trans (hb3.mono (by omega)));have HDB:=Ab hdb;have HRB:=Ab hrb;have HGB:=Ab hgb;have hs3:=hb3.size;have zs:=s3.fz;have q3:=s3.c3;clear a3 s3 hb3 hdb hrb hgb;have HDOC:=Ab (show En w3 (fun k=>lo<=k/\k≠w.heap.size) D R (.pointer p2) d e (v,none) from WG (by omega) hlo (Aa HREP) (Aa HB3) (by omega) (by omega) (by omega) hDR hDg hRg (fun k h1 h2=>⟨h1,by omega⟩) ⟨by omega,by omega⟩ ⟨by omega,by omega⟩ ⟨by omega,by omega⟩ (Aa HDB) (Aa HRB) (Aa HGB) (Aa HRD));clear HREP HDB HRB HGB HRD hsz
 go_wp2_with (fail);refine bodyPost_ret (v:=Ap (0,0,[])) (by simp[results,results43,go_sem,Ap,g0,g1,g2]) rfl ?_
 have ho:∀k,k≠w.heap.size->((((w3.setCell ⟨S,3,none⟩ (.pointer (some ⟨D,0,none⟩))).setCell ⟨w.heap.size,0,none⟩ (.int .i64 0)).setCell ⟨w.heap.size,1,none⟩ (.int .i64 0)).setCell ⟨w.heap.size,2,none⟩ (.string ⟨#[]⟩)).heap[k]? = (w3.setCell ⟨S,3,none⟩ (.pointer (some ⟨D,0,none⟩))).heap[k]?:=fun k hk =>
  (Below.heap_setCell _ _ _ _ hk).trans ((Below.heap_setCell _ _ _ _ hk).trans (Below.heap_setCell _ _ _ _ hk))
 refine⟨rfl,((((As.of_below (F:=fun k=>k=S) (Aa HB3)).setCell (p:=⟨S,3,none⟩) (Or.inl rfl) _).setCell (p:=⟨w.heap.size,0,none⟩) (Or.inr (Nat.le_refl _)) _).setCell (p:=⟨w.heap.size,1,none⟩) (Or.inr (Nat.le_refl _)) _).setCell (p:=⟨w.heap.size,2,none⟩) (Or.inr (Nat.le_refl _)) _,_,(ho S hSg).trans ((Aa S3).set3 _),D,R,.pointer p2,rfl,(Aa HDOC).move fun k h1 h2=>⟨(ho k h1.2).trans (Below.heap_setCell _ _ _ _ (by show k≠S;omega)),h1.1⟩⟩
end
end Go.Proofs.YtdpomdelmdofmaaGreatDoor
