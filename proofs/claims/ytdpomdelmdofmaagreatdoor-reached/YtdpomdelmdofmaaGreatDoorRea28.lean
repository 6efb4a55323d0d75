import Derived.Test.YtdpomdelmdofmaaGreatDoorRea27
open Go.Lit renaming string->AI
open List renaming mem_cons_self->AS,length_cons->AT,mem_cons->A1,pairwise_cons->A2,mem_cons_of_mem->A3,length_append->A4,eq_nil_of_length_eq_zero->Bs,flatMap_cons->CD,mem_filter->CL,sum_cons->C2,pairwise_map->Dt,cons_append->DD,any_eq_true->D0,filter_cons->D1,length_nil->E0,foldl_cons->Ft,lt_irrefl->FD,map_cons->F1,mem_map->F2
open Nat renaming le_refl->A5,le_trans->BY,succ_le_succ->CH,zero_le->D3
open UInt8 renaming ofNat->A6
open Or renaming inl->CR,inr->D2
open Go renaming DataW->C1
open Go.DataW renaming insert->Dp
open List.Pairwise renaming and_mem->F5
namespace Go.Proofs.YtdpomdelmdofmaaGreatDoor
open Go.Proofs.Tryz Go.RowKit Go.Maps
variable{es:List (Lit×To)}{α:Type}{a l s:By}{ks:List By}{c:Nat}{p:To}
def A0(m:Option To->List By->To->To×List dX)(s:List By)(q:Lit×To)(es:List (Lit×To)):List (Lit×To)×List dX:=
 if fY q.2 then (match Aj es q.1 with
  | none=>(es,[])
  | some o=>(eR q.1 es,[(0,s++[Fk q.1],o)]))
 else (eE q.1 (m (Aj es q.1) (s++[Fk q.1]) q.2).1 es,(m (Aj es q.1) (s++[Fk q.1]) q.2).2)
def AW(m:Option To->List By->To->To×List dX)(s:List By):List (Lit×To)->List (Lit×To)->List (Lit×To)×List dX
 | [],es=>(es,[])
 | q::r,es=>((AW m s r (A0 m s q es).1).1,(A0 m s q es).2++(AW m s r (A0 m s q es).1).2)
theorem FE(m:Option To->List By->To->To×List dX)(s:List By):∀ (l es:List (Lit×To)),Hk m s l es=(.map (AW m s l es).1,(AW m s l es).2)
 | [],es=>rfl
 | (k,q)::r,es=>by
  unfold Hk AW A0;by_cases hn:fY q=true
  ·rw[if_pos hn,if_pos hn];cases hg:Aj es k with
   | none=>simp only;rw[FE];rfl
   | some o=>simp only;rw[FE];rfl
  ·rw[if_neg hn,if_neg hn];simp only;rw[FE]
theorem El(m:Option To->List By->To->To×List dX)(s:List By)(q:Lit×To):∀ (l es:List (Lit×To)),AW m s (l++[q]) es=((A0 m s q (AW m s l es).1).1,(AW m s l es).2++(A0 m s q (AW m s l es).1).2)
 | [],es=>by simp[AW]
 | a::l,es=>by
  simp only[DD,AW];rw[El m s q l]
  grind
theorem BA{k:By}{c:To}(hs:Az es)(h:(AI k,c)∈es):Aj es (.string k)=some c:=by
 have q0:=apart_of_rising hs.1;have h1:Maps.has (.map es:To) (.string k)=true:=D0.2 ⟨_,h,Da.2 rfl⟩;unfold Aj;rw[if_pos h1,WideAt.atKey_mem .nil (by exact trivial) q0 h]
theorem CQ{k:By}(h:∀p∈es,p.1≠AI k):Aj es (.string k)=none:=by
 unfold Aj;rw[if_neg];intro h1;obtain⟨p,hp,h2⟩:=D0.1 (show (es.any fun p=>p.1.sameKey (.string k))=true from h1);exact h p hp (WideAt.sameKey_eq h2)
theorem CP(es:List (Lit×C1 α))(k:By):(∃c,(AI k,c)∈es) \/ ∀p∈es,p.1≠AI k:=by
 grind
theorem C6(k:By):(AI k).before (.string k)=false:=by
 cases h:(AI k).before (.string k) with
 | false=>rfl
 | true=>exact absurd (En k k h) (FD k)
theorem JH{b:By}(h:(AI a).before (.string b)=true):(AI b).before (.string a)=false:=by
 cases h2:(AI b).before (.string a) with
 | false=>rfl
 | true=>exact absurd (List.lt_trans (En a b h) (En b a h2)) (FD a)
theorem lA{k:By}{x:C1 α}:∀ {r:List (Lit×C1 α)},(∀p∈r,(AI k).before p.1=true)->Dp (.string k,x) r=(.string k,x)::r
 | [],_=>rfl
 | a::r,h=>by
  grind [Dp]
theorem JA{α:Type}{k:By}{c x:C1 α}:∀ {es:List (Lit×C1 α)} {i:Nat},Az es->es[i]? = some (.string k,c)->(es.modify i fun p=>(p.1,x))=eE (.string k) x es
 | [],i,_,h=>by simp at h
 | p::r,0,hs,h=>by
  obtain rfl:p=(.string k,c):=by grind
  have h1:=A2.1 hs.1;have hr:∀q∈r,q.1≠AI k:=fun q hq e=>by
   have:=h1.1 q hq;rw[e] at this;rw[C6] at this;cases this
  unfold eE;rw[D1,if_neg (by simp[Da.2 rfl]),Gz hr,lA fun q hq=>h1.1 q hq];rfl
 | p::r,i+1,hs,h=>by
  have h1:=A2.1 hs.1;have hm:(AI k,c)∈r:=by grind
  have hb:=h1.1 _ hm;have hne:p.1≠AI k:=fun e=>by
   rw[e] at hb;rw[C6] at hb;cases hb
  have ih:=JA (x:=x) (es:=r) (i:=i) ⟨h1.2,fun q hq=>hs.2 q (by grind)⟩ (by simpa using h);have q0:(AI k).before p.1=false:=by
   obtain⟨s,e⟩:=hs.2 p AS;rw[e] at hb |-;exact JH hb
  rw[List.modify_succ_cons,ih];unfold eE;rw[D1,if_pos (by rw[sameKey_ne hne];rfl)];conv=>rhs;unfold Dp
  grind
theorem Oc{j:Nat}{c m:dS}(n:dS)(hc:(AJ m)[j]? = some c):∀ {p:List Nat} {T:dS},eD p T=some m->eI (p++[j]) n T=eI p (gE m j n) T
 | [],T,h=>by
  obtain rfl:T=m:=by simpa[eD] using h
  rw[List.nil_append,BN n hc];rfl
 | i::r,T,h=>by
  obtain⟨e,he,hr⟩:=Cl h;rw[DD,BN _ he,BN _ he,Oc n hc hr]
theorem Y8{f:Nat}{p:List Nat}{T T1 T2 N N1 m0:dS}(h0:eD p T=some m0)(h1:er (f+p.length) T1=er (f+p.length) (eI p N T))(h2:∀n1,eD p T1=some n1->er (f+p.length) T2=er (f+p.length) (eI p N1 T1)):
  (∃n2,eD p T2=some n2/\er f n2=er f N1) /\ ∀n2,er f n2=er f N1->er (f+p.length) T2=er (f+p.length) (eI p n2 T):=by
 have hs:(eD p T1).map (er f)=some (er f N):=by
  rw[<- Fd,h1,Fd,Jc _ h0];rfl
 obtain⟨n1,q4,e1⟩:=Option.map_eq_some_iff.1 hs;have q5:=h2 n1 q4;have q0:eD p (er (f+p.length) T)=some (er f m0):=by rw[Fd,h0];rfl
 have e2:er (f+p.length) T2=eI p (er f N1) (er (f+p.length) T):=by
  rw[q5,BO p f N1 q4,h1,BO p f N h0,Lw _ _ q0]
 refine⟨?_,fun n2 hn=>?_⟩
 ·have hs2:(eD p T2).map (er f)=some (er f N1):=by
   rw[<- Fd,e2,Jc _ q0]
  simp_all
 ·rw[e2,BO p f n2 h0,hn]
theorem AV.kid{m c:dS}{i:Nat}{key:By}(h:AV m i key c):∃j,(AJ m)[j]? = some c /\ ∀x,gE m j x=BM i key x m:=by
 rcases h with⟨b,g,al,rfl,h⟩|⟨b,g,es,rfl,h,hs⟩
 ·exact⟨i,h,fun x=>by rfl⟩
 ·obtain⟨j,hj⟩:=List.getElem?_of_mem h;refine⟨j,by rw[BH,List.getElem?_map,hj];rfl,fun x=>?_⟩;rw[LG,JA hs hj];rfl
theorem LA:∀l:By,((eU l).map fun t=>t.length+1).sum=l.length+1
 | []=>rfl
 | c::r=>by
  have ih:=LA r;unfold eU;split
  ·simp[ih];omega
  ·cases h:eU r with
   | nil=>rw[h] at ih;simp at ih
   | cons p eV=>rw[h] at ih;simp at ih |-; omega
theorem Zz(n:Nat):∀ (l k:By),l.length<=n->eO l=some k->k.length<=l.length:=by
 induction n with
 | zero=>
  intro l k hl h;obtain rfl:l=[]:=Bs (by omega);injection h with h;subst h;exact A5 _
 | succ n ih=>
  intro l k hl h;cases l with
  | nil=>injection h with h;subst h;exact A5 _
  | cons c r=>
   rw[Eq] at h;simp only[AT] at hl;split at h
   ·split at h
    ·rename_i q;cases hq:eO q with
     | none=>rw[hq] at h;cases h
     | some k'=>
      rw[hq] at h;injection h with h;subst h;have:=ih q k' (by simp only[AT] at hl;omega) hq;simp only[AT];omega
    ·rename_i q;cases hq:eO q with
     | none=>rw[hq] at h;cases h
     | some k'=>
      rw[hq] at h;injection h with h;subst h;have:=ih q k' (by simp only[AT] at hl;omega) hq;simp only[AT];omega
    ·cases h
   ·cases hq:eO r with
    | none=>rw[hq] at h;cases h
    | some k'=>
     rw[hq] at h;injection h with h;subst h;have:=ih r k' (by omega) hq;simp only[AT];omega
theorem KO:∀ (ts ks:List By),gC ts=some ks->(ks.map fun t=>t.length+1).sum<=(ts.map fun t=>t.length+1).sum
 | [],ks,h=>by injection h with h;subst h;exact A5 _
 | t::r,ks,h=>by
  unfold gC at h;split at h
  ·cases h
  ·rename_i k hk;cases hr:gC r with
   | none=>rw[hr] at h;cases h
   | some q0=>
    rw[hr] at h;injection h with h;subst h;have h1:=Zz t.length t k (A5 _) hk;have h2:=KO r q0 hr;simp only[F1,C2];omega
theorem VH(h:fL l=some ks):(ks.map fun t=>t.length+1).sum<=l.length:=by
 unfold fL at h;split at h
 ·split at h
  ·rename_i r hp;have h1:=LA l;rw[hp] at h1;have h2:=KO _ _ h;simp only[F1,C2,E0] at h1;omega
  ·cases h
 ·cases h
theorem GU(hc:Sc c)(b:Nat)(hb:b<128):(c=b/\eY c=[A6 b])\/(c≠b /\ ∀x∈eY c,x≠A6 b):=by
 by_cases h:c=b
 ·subst h;exact CR ⟨rfl,Db c hb⟩
 ·refine D2 ⟨h,fun x hx e=>?_⟩;have q0:(A6 b).toNat=b:=by simp;omega
  by_cases h1:c<128
  ·rw[show eY c=[A6 c] from Db c h1] at hx;have h2:A6 c=A6 b:=(List.mem_singleton.1 hx).symm.trans e;have h3:=congrArg UInt8.toNat h2;rw[q0] at h3;simp at h3;omega
  ·have h2:=(F4 c (by omega) hc []).1 x hx;rw[e,q0] at h2;omega
theorem aI(hc:Sc c):∃x r,eY c=x::r:=by
 by_cases h1:c<128
 ·exact⟨_,_,Db c h1⟩
 ·have h2:=(F4 c (by omega) hc []).2.2;cases he:eY c with
  | nil=>
   have h3:2<=(eY c).length:=by first|exact h2|exact h2.1
   rw[he] at h3;simp at h3
  | cons x r=>exact⟨x,r,rfl⟩
theorem Qu(h:∀x∈a,x≠47)(l:By):∃p eV,eU l=p::eV/\eU (a++l)=(a++p)::eV:=by
 induction a with
 | nil=>
  cases hp:eU l with
  | nil=>have:=LA l;rw[hp] at this;simp at this
  | cons p eV=>exact⟨p,eV,rfl,hp⟩
 | cons c r ih=>
  obtain⟨p,eV,h1,h2⟩:=ih fun x hx=>h x (by simp[hx]);refine⟨p,eV,h1,?_⟩;show eU (c::(r++l))=_;unfold eU;rw[if_neg (h c (by simp)),h2];rfl
theorem Ln(hc:Sc c)(h:Ut s):Ut (eY c++s):=by
 obtain⟨cs,h1,rfl⟩:=h;exact⟨c::cs,fun x hx=>(A1.1 hx).elim (fun e=>e▸hc) (h1 x),by simp⟩
theorem TD:∀ (cs:List Nat),(∀c∈cs,Sc c) -> ∀t∈eU (cs.flatMap eY),Ut t
 | [],_,t,ht=>by
  obtain rfl:t=[]:=by simpa[eU] using ht
  exact EZ
 | c::cs,h,t,ht=>by
  have hc:=h c (by simp);have ih:=TD cs fun x hx=>h x (by simp[hx]);rw[CD] at ht;rcases GU hc 47 (by omega) with⟨rfl,e⟩|⟨hne,e⟩
  ·rw[e] at ht;have e2:eU ([A6 47]++cs.flatMap eY)=[]::eU (cs.flatMap eY):=by show eU (47::cs.flatMap eY)=_;rw[eU,if_pos rfl]
   rw[e2] at ht;rcases A1.1 ht with rfl|ht
   ·exact EZ
   ·exact ih t ht
  ·obtain⟨p,eV,h1,h2⟩:=Qu e (cs.flatMap eY);rw[h2] at ht;rw[h1] at ih;rcases A1.1 ht with rfl|ht
   ·exact Ln hc (ih p (by simp))
   ·exact ih t (by simp[ht])
theorem X0(h:∀x∈a,x≠126)(l:By):eO (a++l)=(eO l).map (a ++ ·):=by
 induction a with
 | nil=>show eO l=_;cases eO l<;>rfl
 | cons c r ih=>
  show eO (c::(r++l))=_;rw[Eq,if_neg (h c (by simp)),ih fun x hx=>h x (by simp[hx])];cases eO l<;>rfl
theorem Zx(n:Nat):∀ (cs:List Nat),cs.length<=n->(∀c∈cs,Sc c) -> ∀k,eO (cs.flatMap eY)=some k->Ut k:=by
 induction n with
 | zero=>
  intro cs hl _ k hk;obtain rfl:cs=[]:=Bs (by omega);injection hk with hk;subst hk;exact EZ
 | succ n ih=>
  intro cs hl h k hk;cases cs with
  | nil=>injection hk with hk;subst hk;exact EZ
  | cons c cs=>
   have hc:=h c (by simp);simp only[AT] at hl;rw[CD] at hk;rcases GU hc 126 (by omega) with⟨rfl,e⟩|⟨hne,e⟩
   ·rw[e] at hk;have hk2:eO (126::cs.flatMap eY)=some k:=hk;rw[Eq,if_pos rfl] at hk2;cases cs with
    | nil=>cases hk2
    | cons c2 cs=>
     have q5:=h c2 (by simp);have h3:∀c∈cs,Sc c:=fun x hx=>h x (by simp[hx]);simp only[AT] at hl;rw[CD] at hk2;have q6:∀ (z:Nat) (hz:Sc z) (u:By) ,eO (cs.flatMap eY)=some u->Ut (eY z++u):=fun z hz u hu=>Ln hz (ih cs (by omega) h3 u hu);have q4:Sc 126:=CR (by omega);have q7:Sc 47:=CR (by omega);rcases GU q5 48 (by omega) with⟨rfl,e2⟩|⟨q8,e2⟩
     ·rw[e2] at hk2;have q0:(eO (cs.flatMap eY)).map (126 :: ·)=some k:=hk2
      cases hu:eO (cs.flatMap eY) with
      | none=>rw[hu] at q0;cases q0
      | some u=>
       rw[hu] at q0;injection q0 with q0;subst q0;have:=q6 126 q4 u hu;rw[show eY 126=[126] from Db 126 (by omega)] at this;exact this
     ·rcases GU q5 49 (by omega) with⟨rfl,e3⟩|⟨q9,e3⟩
      ·rw[e3] at hk2;have q0:(eO (cs.flatMap eY)).map (47 :: ·)=some k:=hk2
       cases hu:eO (cs.flatMap eY) with
       | none=>rw[hu] at q0;cases q0
       | some u=>
        rw[hu] at q0;injection q0 with q0;subst q0;have:=q6 47 q7 u hu;rw[show eY 47=[47] from Db 47 (by omega)] at this;exact this
      ·obtain⟨x,r,hx⟩:=aI q5;rw[hx] at hk2 e2 e3;have a1:x≠48:=e2 x (by simp);have a2:x≠49:=e3 x (by simp)
       exfalso
       revert hk2
       show (match x::(r++cs.flatMap eY) with|48::q=>(eO q).map (126 :: ·)|49::q=>(eO q).map (47 :: ·)|_=>none)=some k->False
       split
       ·rename_i q hq;injection hq with hq;exact absurd hq a1
       ·rename_i q hq;injection hq with hq;exact absurd hq a2
       ·intro h;cases h
   ·have e4:∀x∈eY c,x≠(126:UInt8):=e;rw[X0 e4] at hk;cases hu:eO (cs.flatMap eY) with
    | none=>rw[hu] at hk;cases hk
    | some u=>
     rw[hu] at hk;injection hk with hk;subst hk;exact Ln hc (ih cs (by omega) (fun x hx=>h x (by simp[hx])) u hu)
theorem MF:∀ (ts ks:List By),(∀t∈ts,Ut t)->gC ts=some ks -> ∀k∈ks,Ut k
 | [],ks,_,h,k,hk=>by injection h with h;subst h;cases hk
 | t::r,ks,ht,h,k,hk=>by
  unfold gC at h;split at h
  ·cases h
  ·rename_i k1 q0;cases hr:gC r with
   | none=>rw[hr] at h;cases h
   | some q5=>
    rw[hr] at h;injection h with h;subst h;rcases A1.1 hk with rfl|hk
    ·obtain⟨cs,h1,rfl⟩:=ht t (by simp);exact Zx cs.length cs (A5 _) h1 _ q0
    ·exact MF r q5 (fun t q4=>ht t (by simp[q4])) hr k hk
theorem X6(hl:Ut l)(h:fL l=some ks):∀k∈ks,Ut k:=by
 obtain⟨cs,h1,rfl⟩:=hl;have h2:=TD cs h1;unfold fL at h;split at h
 ·split at h
  ·rename_i r hp;rw[hp] at h2;exact MF r ks (fun t ht=>h2 t (by simp[ht])) h
  ·cases h
 ·cases h
theorem X7(hl:Ut l)(hn:l.length<=100000)(h:fL l=some ks):fZ ks:=⟨BY (VH h) hn,X6 hl h⟩
theorem IP{nm:By}{hv hf:Bool}{k:Nat}(h:GP nm hv hf=some k):k<6/\((k=0\/k=2\/k=5)->hv=true)/\((k=3\/k=4)->hf=true):=by
 unfold GP at h
 grind
theorem WX(c:UInt8):1<=(B1 c).length:=by
 grind [B1]
theorem QV:∀s:By,s.length<=(AK s).length
 | []=>A5 _
 | c::r=>by
  have h1:=WX c;have h2:=QV r
  grind [AK,A4,AT]
theorem FA(s:By):s.length<=(Ag s).length:=by
 have:=QV s
 grind [Ag]
theorem ZE{f:Nat}:s.length<=(dZ (f+1) (Ao s)).length:=by rw[GW];exact FA s
theorem W6{f:Nat}{es:List To}:es.length<=(dZ (f+1) (Af es)).length /\ ∀e∈es,(dZ f e).length<=(dZ (f+1) (Af es)).length:=by
 have h2:(es.map fun e=>(dZ f e).length+1).sum<=(Am (es.map (dZ f))).length+1:=by
  have h2:=Hn (es.map (dZ f));rw[List.map_map] at h2;exact h2
 have h3:∀l:List To,l.length<=(l.map fun e=>(dZ f e).length+1).sum /\ ∀e∈l,(dZ f e).length<=(l.map fun e=>(dZ f e).length+1).sum:=fun l=>by
  induction l with
  | nil=>grind
  | cons a r ih=>
   grind
 obtain⟨h4,h5⟩:=h3 es;rw[CV];simp only[AT,A4,E0];exact⟨by omega,fun e he=>by have:=h5 e he;omega⟩
theorem TX{d y:To}{k:By}(h:AH d k=some y):Aq d k=.ok y:=by
 unfold AH at h
 grind [AH,Aq]
section
variable{d x:Int}{f:Nat}{dU:Int}{q y:To}{k:By}
theorem TW(h:dY d x (f+1) dU q)(hm:AH q k=some y):dY d x f (dU+1) y/\(dZ f y).length<=(dZ (f+1) q).length:=OS h (TX hm)
theorem YD{o:Option To}(h:Cd o=some s):o=some (Ao s):=by
 unfold Cd at h;split at h
 ·injection h with h;subst h;rfl
 ·cases h
theorem Td(h:dY d x (f+1) dU q)(hm:Cd (AH q k)=some s):Ut s/\s.length<=(dZ (f+1) q).length:=by
 obtain⟨h1,h2⟩:=TW h (YD hm);cases f with
 | zero=>exact h1.elim
 | succ f=>
  refine⟨?_,BY ZE h2⟩;obtain⟨_,h1⟩:=h1;rcases h1 with⟨k,_,e⟩|⟨s',hs,e⟩|⟨n,_,_,_,e⟩|⟨es,_,e⟩|⟨es,_,_,e⟩
  ·cases e
  ·cases e;exact hs
  ·cases e
  ·cases e
  ·cases e
theorem Ty{p:List By}(h:dY d x (f+1) dU q)(hl:(dZ (f+1) q).length<=100000)(hm:BS (AH q k)=some p):fZ p:=by
 unfold BS at hm;split at hm
 ·rename_i s hs;obtain⟨h1,h2⟩:=Td h hs;exact X7 h1 (by omega) hm
 ·cases hm
theorem YX{o:fO}(h:dY (d+2) x (f+2) 2 q)(hl:(dZ (f+2) q).length<=80000)(hf:f+2<=top)(hd:d<=400)(hm:CK q=some o):jA (d+2) x 200000 o:=by
 have q5:(dZ (f+1+1) q).length<=80000:=hl;unfold CK at hm;split at hm
 ·cases hm
 ·rename_i p hp;split at hm
  ·cases hm
  ·rename_i k hk;injection hm with hm;subst hm;obtain⟨k1,k2,k3⟩:=IP hk;refine⟨Ty h (by omega) hp,fun h3=>?_,fun h3=>?_⟩
   ·have h4:=k3 h3;cases hq:BS (AH q DG) with
    | none=>rw[hq] at h4;cases h4
    | some u=>exact Ty h (by omega) hq
   ·have h4:=k2 h3;cases hq:AH q AU with
    | none=>rw[hq] at h4;cases h4
    | some u=>
     obtain⟨h5,h6⟩:=TW h hq;have h7:=Fa (s:=-2) h5;have h8:dY d x (f+1) 1 u:=by
      have e1:d+2 + -2=d:=by omega
      have e2:(2:Int)+1 + -2=1:=by omega
      rw[e1,e2] at h7;exact h7
     have h9:=CS (D:=d+2) (by omega) h8;have q0:dY (d+2) x top 1 u:=Ci h9 (by unfold top;omega);refine⟨q0,by omega,?_⟩;have q4:=(BT h8).2;show dT top u<=200000;rw[Fs h8 (by omega)];omega
theorem OH:∀ {es:List To} {i:Nat} {l:List fO},(∀q∈es,dY (d+2) x (f+2) 2 q/\(dZ (f+2) q).length<=80000)->f+2<=top->d<=400->Cy i es=.ok l->l.length=es.length /\ ∀o∈l,jA (d+2) x 200000 o
 | [],i,l,_,_,_,h=>by injection h with h;subst h;exact⟨rfl,fun o ho=>by cases ho⟩
 | q::r,i,l,hq,hf,hd,h=>by
  unfold Cy at h;split at h
  ·cases h
  ·rename_i o ho;split at h
   ·rename_i l' q0;injection h with h;subst h;obtain⟨h1,h2⟩:=OH (fun q' q5=>hq q' (by simp[q5])) hf hd q0;obtain⟨h3,h4⟩:=hq q (by simp);exact⟨by simp[h1],fun o' q4=>(A1.1 q4).elim (fun e=>e▸YX h3 h4 hf hd ho) (h2 o')⟩
   ·cases h
end
theorem Oe{d x:Int}(hg:dY (d+2) x top 1 p)(hl:(dZ top p).length<=80000):∀es y,p=.slice es y->es.length<=80000 /\ ∀q∈es,dY (d+2) x (top-1) 2 q/\(dZ (top-1) q).length<=80000:=by
 intro es y e;obtain⟨_,hg⟩:=hg;rcases hg with⟨k,_,e1⟩|⟨s',hs,e1⟩|⟨n,_,_,_,e1⟩|⟨es',h,e1⟩|⟨es',_,_,e1⟩
 ·rw[e1] at e;cases e
 ·rw[e1] at e;cases e
 ·rw[e1] at e;cases e
 ·rw[e1] at e;cases e;subst e1;obtain⟨h1,h2⟩:=W6 (f:=top-1) (es:=es);have h3:(dZ (top-1+1) (Af es)).length<=80000:=hl;exact⟨by omega,fun q hq=>⟨h q hq,by grind⟩⟩
 ·rw[e1] at e;cases e
theorem VY{d x:Int}{l:List fO}(hg:dY (d+2) x top 1 p)(hl:(dZ top p).length<=80000)(hd:d<=400)(h:DA p=.ok l):l.length<=80000 /\ ∀o∈l,jA (d+2) x 200000 o:=by
 have hb:=Oe hg hl;unfold DA at h;split at h
 ·rename_i es y;obtain⟨h1,h2⟩:=hb es y rfl;obtain⟨h3,h4⟩:=OH (f:=top-3) h2 (by unfold top;omega) hd h
  grind
 ·cases h
theorem Tz{d x:Int}(hg:dY (d+2) x top 1 p)(hl:(dZ top p).length<=80000):∀es y,p=.slice es y->es.length<=400000000 /\ ∀q∈es,∀k s,Cd (AH q k)=some s->s.length<=1048576:=by
 intro es y e;obtain⟨h1,h2⟩:=Oe hg hl es y e;refine⟨by omega,fun q hq k s hs=>?_⟩;obtain⟨h3,h4⟩:=h2 q hq;have:=(Td (f:=top-2) h3 hs).2;have h5:(dZ (top-2+1) q).length<=80000:=h4;omega
theorem FP{k:By}{p:Lit×C1 α}{es:List (Lit×C1 α)}:p∈eR (.string k) es<->p∈es/\p.1 ≠ .string k:=by
 unfold eR;rw[CL];constructor
 ·rintro⟨h1,h2⟩;refine⟨h1,fun e=>?_⟩;rw[e,Da.2 rfl] at h2;cases h2
 ·rintro⟨h1,h2⟩;exact⟨h1,by rw[sameKey_ne h2];rfl⟩
theorem CE{k:By}{c:C1 α}{p:Lit×C1 α}{es:List (Lit×C1 α)}:p∈eE (.string k) c es<->p=(.string k,c)\/(p∈es/\p.1 ≠ .string k):=by
 rw[(Dl (.string k) c es).mem_iff,A1,FP]
theorem QB:∀ {l:List Nat} {a:Nat},a∈l->a<=l.sum
 | b::l,a,h=>by
  rw[C2];rcases A1.1 h with rfl|h
  ·omega
  ·have:=QB h;omega
theorem E3{f:Nat}{p:Lit×To}(h:p∈es):(Ag (strOf p.1)).length+2+dT f p.2<=dT (f+1) (.map es):=by
 have h1:(Ag (strOf p.1)).length+2+dT f p.2<=(es.map fun p=>(Ag (strOf p.1)).length+2+dT f p.2).sum:=QB (by grind);show _<=2+(es.map fun p=>(Ag (strOf p.1)).length+2+dT f p.2).sum;omega
section
variable{d x:Int}
def fA(d x:Int)(f:Nat)(dU:Int)(es:List (Lit×To)):Prop:=es.Pairwise (fun p q=>p.1.before q.1=true) /\ ∀p∈es,(∃s,p.1=.string s/\Ut s)/\dY d x f (dU+1) p.2
theorem fA.skey{f:Nat}{dU:Int}(h:fA d x f dU es):Az es:=⟨h.1,fun p hp=>by obtain⟨s,e,_⟩:=(h.2 p hp).1;grind⟩
theorem Bt{f:Nat}{dU:Int}(h:dY d x (f+1) dU (.map es)):dU<=d/\fA d x f dU es:=by
 obtain⟨h0,h⟩:=h;rcases h with⟨k,_,e⟩|⟨s,_,e⟩|⟨n,_,_,_,e⟩|⟨es',_,e⟩|⟨es',h1,h2,e⟩
 ·cases e
 ·cases e
 ·cases e
 ·cases e
 ·injection e with e;subst e;exact⟨h0,h1,h2⟩
theorem fA.gd{f:Nat}{dU:Int}(h:fA d x f dU es)(h0:dU<=d):dY d x (f+1) dU (.map es):=⟨h0,D2 (D2 (D2 (D2 ⟨es,h.1,h.2,rfl⟩)))⟩
theorem fA.mdel{f:Nat}{dU:Int}(h:fA d x f dU es)(k:Lit):fA d x f dU (eR k es):=⟨h.1.filter _,fun p hp=>h.2 p (CL.1 hp).1⟩
theorem fA.mput{f:Nat}{dU:Int}{k:By}{c:To}(h:fA d x f dU es)(hk:Ut k)(hc:dY d x f (dU+1) c):fA d x f dU (eE (.string k) c es):=by
 refine⟨(Ek h.skey).1,fun p hp=>?_⟩;rcases CE.1 hp with rfl|⟨hp,_⟩
 ·grind
 ·exact h.2 p hp
theorem Je:∀ {f:Nat} {dU:Int} {p:To},dY d x f dU p->dY d x f dU (Bx f p)
 | 0,_,_,h=>h.elim
 | f+1,dU,p,h=>by
  cases hob:fI p with
  | false=>rw[Iu hob];exact h
  | true=>
   obtain⟨es,rfl⟩:∃es,p=.map es:=by
    cases p<;>first|exact⟨_,rfl⟩|cases hob
   obtain⟨h0,hm⟩:=Bt h;refine fA.gd (es:=iD f es) ⟨?_,fun q hq=>?_⟩ h0
   ·unfold iD;rw[Dt];exact hm.1.filter _
   ·unfold iD at hq;obtain⟨p,hp,rfl⟩:=F2.1 hq;have h2:=hm.2 p (CL.1 hp).1;exact⟨h2.1,Je h2.2⟩
def iE(d x:Int)(B P:Nat)(o:dX):Prop:=o.1<3/\(o.2.1.map fun t=>t.length+1).sum<=P/\(o.1≠1 -> ∃f dU,1<=dU/\dY d x f dU o.2.2/\dT f o.2.2<=B)
theorem iE.mono{B P P':Nat}{o:dX}(h:iE d x B P o)(hP:P<=P'):iE d x B P' o:=⟨h.1,BY h.2.1 hP,h.2.2⟩
def XN(d x:Int)(f:Nat):Prop:=∀ (dU:Int) (o:Option To) (s:List By) (p:To) (B:Nat),1<=dU->(∀v,o=some v->dY d x f dU v/\dT f v<=B)->dY d x f dU p ->
 dY d x f dU (eC f o s p).1/\(∀q∈(eC f o s p).2,iE d x B ((s.map fun t=>t.length+1).sum+dT f p) q)/\(eC f o s p).2.length<=dT f p
theorem Up{f:Nat}{dU:Int}{k:By}{v:To}(h:fA d x f dU es)(hg:Aj es (.string k)=some v):(AI k,v)∈es:=by
 rcases CP es k with⟨c,hc⟩|hn
 ·rw[BA h.skey hc] at hg
  grind
 ·rw[CQ hn] at hg;cases hg
theorem Jk{f:Nat}(ih:XN d x f){dU:Int}(hlv:1<=dU){B:Nat}(s:List By):∀ (l es:List (Lit×To)),fA d x f dU es->fA d x f dU l->(∀q∈l,∀c,(q.1,c)∈es->dT f c<=B) ->
  fA d x f dU (AW (eC f) s l es).1/\(∀q∈(AW (eC f) s l es).2,iE d x B ((s.map fun t=>t.length+1).sum+(l.map fun p=>(Ag (strOf p.1)).length+2+dT f p.2).sum) q)/\(AW (eC f) s l es).2.length<=(l.map fun p=>(Ag (strOf p.1)).length+2+dT f p.2).sum
 | [],es,he,_,_=>⟨he,(fun q hq=>by cases hq),A5 _⟩
 | q::l,es,he,hl,hB=>by
  obtain⟨⟨k,ek,hk⟩,hq⟩:=hl.2 q AS;obtain⟨qk,qv⟩:=q;simp only at ek hq;subst ek;have hp:=A2.1 hl.1;have q4:fA d x f dU l:=⟨hp.2,fun p hp=>hl.2 p (A3 _ hp)⟩
  have hne:∀p∈l,p.1≠AI k:=fun p q0 e=>by
   grind [C6,strOf,A4]
  have hv:∀v,Aj es (.string k)=some v->dY d x f (dU+1) v/\dT f v<=B:=fun v hg=>by
   have hm:=Up he hg;exact⟨(he.2 _ hm).2,hB _ AS _ hm⟩
  have q5:fA d x f dU (A0 (eC f) s (.string k,qv) es).1/\(∀r∈(A0 (eC f) s (.string k,qv) es).2,iE d x B ((s.map fun t=>t.length+1).sum+((Ag k).length+2+dT f qv)) r)/\(A0 (eC f) s (.string k,qv) es).2.length<=(Ag k).length+2+dT f qv /\ ∀p∈l,∀c,(p.1,c)∈(A0 (eC f) s (.string k,qv) es).1->(p.1,c)∈es:=by
   have q7:((s++[k]).map fun t=>t.length+1).sum=(s.map fun t=>t.length+1).sum+(k.length+1):=EF s k;have q6:=FA k;unfold A0;by_cases hn:fY qv=true
   ·rw[if_pos hn];simp only;cases hg:Aj es (.string k) with
    | none=>grind
    | some o=>
     obtain⟨g1,g2⟩:=hv o hg;refine⟨he.mdel _,fun r hr=>?_,by simp;omega,fun p _ c h=>(FP.1 h).1⟩;obtain rfl:r=(0,s++[Fk (.string k)],o):=by grind
     refine⟨by omega,?_,by grind⟩;show ((s++[k]).map fun t=>t.length+1).sum<=_;omega
   ·rw[if_neg hn];simp only;obtain⟨g1,g2,g3⟩:=ih (dU+1) (Aj es (.string k)) (s++[k]) qv B (by omega) hv hq;refine⟨he.mput hk g1,fun r hr=>(g2 r hr).mono ?_,BY g3 (by omega),fun p q0 c h=>?_⟩
    ·omega
    ·rcases CE.1 h with e|h
     ·grind
     grind
  obtain⟨s1,s2,s3,s4⟩:=q5;obtain⟨r1,r2,r3⟩:=Jk ih hlv s l _ s1 q4 fun p q0 c h=>hB p (A3 _ q0) c (s4 p q0 c h);have e0:(((AI k,qv)::l).map fun p=>(Ag (strOf p.1)).length+2+dT f p.2).sum=((Ag k).length+2+dT f qv)+(l.map fun p=>(Ag (strOf p.1)).length+2+dT f p.2).sum:=by rfl
  rw[e0];refine⟨r1,fun r hr=>?_,?_⟩
  ·rcases List.mem_append.1 hr with h|h
   ·exact (s2 r h).mono (by omega)
   ·exact (r2 r h).mono (by omega)
  ·unfold AW
   grind
theorem Ta:∀ {f:Nat} {dU:Int} {v:To},dY d x f dU v->1<=dT f v
 | 0,_,_,h=>h.elim
 | f+1,dU,v,h=>by
  obtain⟨_,h⟩:=h;rcases h with⟨k,hk,rfl⟩|⟨s,_,rfl⟩|⟨n,_,_,_,rfl⟩|⟨es,_,rfl⟩|⟨es,_,_,rfl⟩
  ·match k,hk with
   | 0,_=>exact CH (D3 3)
   | 1,_=>exact CH (D3 3)
   | 2,_=>exact CH (D3 4)
  ·show 1<=(dZ (f+1) (Ao s)).length;show 1<=(Ag s).length;simp[Ag]
  ·show 1<=(dZ (f+1) (Bd n)).length;show 1<=(Cm n).length
   grind [Ag,A4,GH,CN,Cm]
  ·rw[GH];omega
  ·rw[CN];omega
theorem KG:∀f:Nat,XN d x f
 | 0=>fun dU o s p B _ _ h=>h.elim
 | f+1=>fun dU o s p B hlv ho hp=>by
  have q0:∀w:To,o=some w->(fI w=false\/fI p=false)->eC (f+1) o s p=(Bx (f+1) p,[(2,s,w)]):=fun w e h=>by
   subst e;cases w<;>cases p<;>first|rfl|(rcases h with h|h<;>cases h)
  have h1:=Ta hp;cases o with
  | none=>
   refine⟨Je hp,fun q hq=>?_,h1⟩;obtain rfl:q=(1,s,.nil):=by simpa[eC] using hq
   exact⟨by omega,by simp,fun h=>absurd rfl h⟩
  | some v=>
   obtain⟨gv,sv⟩:=ho v rfl;cases ob:fI v with
   | false=>
    rw[q0 v rfl (CR ob)];refine⟨Je hp,fun q hq=>?_,h1⟩;obtain rfl:q=(2,s,v):=by grind
    exact⟨by omega,by simp,by grind⟩
   | true=>
    cases pb:fI p with
    | false=>
     rw[q0 v rfl (D2 pb)];refine⟨Je hp,fun q hq=>?_,h1⟩;obtain rfl:q=(2,s,v):=by grind
     exact⟨by omega,by simp,by grind⟩
    | true=>
     obtain⟨es,rfl⟩:∃es,v=.map es:=by
      cases v<;>first|exact⟨_,rfl⟩|cases ob
     obtain⟨eV,rfl⟩:∃eV,p=.map eV:=by
      cases p<;>first|exact⟨_,rfl⟩|cases pb
     obtain⟨h0,hm⟩:=Bt gv;obtain⟨_,q4⟩:=Bt hp;have he:eC (f+1) (some (.map es)) s (.map eV)=Hk (eC f) s eV es:=rfl;rw[he,FE];have hsz:(eV.map fun p=>(Ag (strOf p.1)).length+2+dT f p.2).sum<=dT (f+1) (.map eV):=Nat.le_add_left _ 2;obtain⟨r1,r2,r3⟩:=Jk (KG f) hlv (B:=B) s eV es hm q4 fun q _ c hc=>by
      have:=E3 (f:=f) hc
      grind
     exact⟨r1.gd h0,fun q hq=>(r2 q hq).mono (by grind),BY r3 hsz⟩
end
theorem OC{es:List (Lit×C1 α)}{k:By}(hs:∀p∈es,∃s,p.1=.string s):k∈es.map (fun p=>Fk p.1) <-> ∃c,(AI k,c)∈es:=by
 rw[F2];constructor
 ·rintro⟨p,hp,e⟩;obtain⟨s,es'⟩:=hs p hp;obtain⟨eS,pv⟩:=p;simp only at es' e;subst es';have e':s=k:=e
  grind
 ·rintro⟨c,hc⟩;exact⟨_,hc,rfl⟩
theorem G7:∀ {bs xs:List (Lit×To)},Az xs->(∀q∈bs,∃s,q.1=.string s)->Az (bs.foldl (fun (l:List (Lit×To)) q=>eE q.1 .nil l) xs)
 | [],_,h,_=>h
 | q::r,xs,h,hb=>by
  obtain⟨s,e⟩:=hb q AS;rw[Ft,e];exact G7 (Ek h) fun p hp=>hb p (A3 _ hp)
theorem LY{k:By}:∀ {bs xs:List (Lit×To)},(∀q∈bs,∃s,q.1=.string s)->((∃c,(AI k,c)∈bs.foldl (fun (l:List (Lit×To)) q=>eE q.1 .nil l) xs)<->(∃c,(AI k,c)∈xs) \/ ∃c,(AI k,c)∈bs)
 | [],xs,_=>by simp
 | q::r,xs,hb=>by
  obtain⟨s,e⟩:=hb q AS;obtain⟨qk,qv⟩:=q;simp only at e;subst e;rw[Ft,LY fun p hp=>hb p (A3 _ hp)];constructor
  ·rintro (⟨c,h⟩|⟨c,h⟩)
   ·rcases CE.1 h with h|⟨h,_⟩
    ·grind
    grind
   grind
  ·rintro (⟨c,h⟩|⟨c,h⟩)
   ·by_cases hk:k=s
    ·subst hk;exact CR ⟨.nil,CE.2 (CR rfl)⟩
    ·exact CR ⟨c,CE.2 (D2 ⟨h,fun e=>hk (by injection e)⟩)⟩
   ·rcases A1.1 h with h|h
    ·injection h with h1 _;injection h1 with h1;subst h1;exact CR ⟨.nil,CE.2 (CR rfl)⟩
    grind
theorem Cw{xs bs:List (Lit×To)}(hx:Az xs)(hb:Az bs){k:By}:k∈BK xs bs<->(∃c,(AI k,c)∈xs) \/ ∃c,(AI k,c)∈bs:=by
 unfold BK;rw[OC (G7 hx hb.2).2,LY hb.2]
theorem Kl{xs bs:List (Lit×To)}(hx:Az xs)(hb:Az bs):(BK xs bs).Pairwise (fun a b=>a<b):=by
 unfold BK;have h:=G7 hx hb.2;rw[Dt];refine (F5.1 h.1).imp ?_;rintro p q ⟨hp,hq,q0⟩;obtain⟨s,es⟩:=h.2 p hp;obtain⟨t,et⟩:=h.2 q hq;rw[es,et] at q0 |-;exact En s t q0
theorem N5:∀ {l m:List By},l.Pairwise (fun a b=>a<b)->m.Pairwise (fun a b=>a<b)->(∀k,k∈l<->k∈m)->l=m
 | [],[],_,_,_=>rfl
 | [],b::m,_,_,h=>by have:=(h b).2 AS;cases this
 | a::l,[],_,_,h=>by have:=(h a).1 AS;cases this
 | a::l,b::m,hl,hm,h=>by
  have h1:=A2.1 hl;have h2:=A2.1 hm;have hab:a=b:=by
   rcases A1.1 ((h a).1 AS) with e|e
   ·exact e
   ·rcases A1.1 ((h b).2 AS) with e2|e2
    ·grind
    grind
  subst hab;have:l=m:=N5 h1.2 h2.2 (by grind);rw[this]
end Go.Proofs.YtdpomdelmdofmaaGreatDoor
