import Derived.Test.YtdpomdelmdofmaaGreatDoorRea15
open Go renaming DataW->AI,Value->A2,World->CD,wpList_lookup_own_ok->Dp,bytesBefore->Dt
open Go.DataW renaming insert->AS
open Go.WideAt renaming sameKey_self->AT,IsKeyLit->A3,bytes_irrefl->A4
open Go.Lit renaming string->A1
open Go.RowKit.Below renaming refl->A5
open List renaming drop_eq_getElem_cons->A6,getElem?_eq_some_iff->Bs,filter_cons->CL,drop_eq_nil_of_le->CR,take_of_length_le->C1,mem_filter->C2,map_set->DD,getElem_mem->D0,cons_append->D1,mem_cons->E0
open Go.WideShapes renaming insert_perm->BY,bytes_trans->D3
open Go.Proofs.Tryz renaming prog->CH
open Go.RowKit renaming Below->D2
open Go.Maps renaming has->Ft
open Prod renaming snd->FD
set_option maxRecDepth 100000
set_option maxHeartbeats 8000000
namespace Go.Proofs.YtdpomdelmdofmaaGreatDoor
open Go.Proofs.Tryz Go.RowKit Go.Maps
variable{d:To}{v:A2}{f i:Nat}{a c:dS}{α β:Type}{k:By}
theorem Fe{t:By}{c:Nat}(h:Aq d t=.error c):c=11\/c=12:=by
 unfold Aq at h
 grind
theorem Px{F:Nat->Prop}{w:CD}{pv:A2}{l:List By}(hl:∀t∈l,t.length<=1048576)(hn:l.length<=1048576)(hr:Rng w)(h:H7 F w v d)(hp:CW w pv l):
  Calls CH 81 #[pv,v] w fun e w'=>Out F (Ah d l) e w'/\D2 w.heap.size w w':=by
 rcases hp with⟨rfl,a,c,rfl,_⟩|⟨g,o,cap,rfl,_,_,a1,hc⟩
 ·have HH:=Ab h;clear hl hn hr h
  go_enter func81,ntmps81
  go_wp2_with (fail);refine wp_loop_rounds 1 ?_
  rw[rounds_succ]
  go_wp2_with (fail)
  go_ret2
  exact⟨⟨_,rfl,Aa HH⟩,A5 _ _⟩
 obtain⟨N,hN⟩:∃N,N=l.length:=⟨_,rfl⟩
 obtain⟨R,hR⟩:∃R,R=Ah d l:=⟨_,rfl⟩
 rw[<- hR,<- hN];have qk:(N:Int)<=1048576:=by omega
 have HL:=Ab hl;have HC:=Ab hc;have HR:=Ab hr;have HH:=Ab h;have HN:=Ab hN;have qf:=Ab hR;clear hl hc hr h hN hR hn
 go_enter func81,ntmps81
 go_wp2_with (fail)
 go_loopw [6,14] (fun a i wr=>∃ (k:Nat) (d':To),k<=N/\i=.int .i64 k/\H7 F wr a d'/\Hid (Ah d l=Ah d' (l.drop k))/\D2 w.heap.size w wr) (fun _ i _=>N-(intOf i).toNat)
 case atStart=>exact⟨0,d,by omega,rfl,Aa HH,rfl,A5 _ _⟩
 case round=>
  obtain⟨k,d',hk,rfl,q0,q7,hb⟩:=hrel;have HB:=Ab hb;have q8:=Ab q0;by_cases hlt:k<N
  ·have h1:k<l.length:=by have:=Aa HN;omega
   have q5:l.drop k=l[k]::l.drop (k+1):=A6 h1;have q:=(hb.cell (p:=⟨g,o+k,none⟩) a1).trans (Aa HC k h1);have q4:=Ab (Vq (F:=F) (t:=l[k]) (Aa HL _ (D0 h1)) ((Aa HR).kept hb) q0);have qb:(k:Int)<(N:Int):=by omega
   rw[q5] at q7;have qe:=Ab (show Ah d l=(match Aq d' l[k] with | .ok e=>Ah e (l.drop (k+1)) | .error c=>.error c) from q7);generalize l[k]=tk at *;clear q7 hb q0 q5 h1
   go_wp2_with (fail);refine (Aa q4).mono ?_
   rintro e w2 ⟨ho,hb2⟩;have qd:=Ab ((Aa HB).trans (hb2.mono (Aa HB).size));clear hb2 q4 q;cases hch:Aq d' tk with
   | ok d2=>
    rw[hch] at ho;obtain⟨v2,rfl,qg⟩:=ho;have qi:=Ab qg;have qh:=Ab (show Ah d l=Ah d2 (l.drop (k+1)) by have h9:=Aa qe;rw[hch] at h9;exact h9);clear qg hch
    go_wp2_with (fail);exact⟨⟨k+1,d2,by omega,by go_num,Aa qi,Aa qh,Aa qd⟩,by simp only[intOf];omega⟩
   | error c=>
    rw[hch] at ho;have qj:e=.returned (.tuple #[.pointer none,.int .i64 c]):=ho;subst qj;have q6:=Ab (show Out F R (.returned (.tuple #[.pointer none,.int .i64 c])) w2 by
     have h9:=Aa qe;rw[hch] at h9;rw[Aa qf,h9];rfl)
    have q9:=Fe hch;have e1:((c:Int)==0)=false:=by grind
    have e2:((c:Int) != 0)=true:=by grind
    clear hch ho q9
    go_wp2_with (fail)
    go_ret2
    exact⟨Aa q6,Aa qd⟩
  ·have qb:¬ (k:Int)<(N:Int):=by omega
   have q6:=Ab (show ∀a,H7 F wr a d'->Out F R (.returned (.tuple #[a,.int .i64 0])) wr from fun a ha=>by
    rw[Aa qf,show Ah d l=Ah d' (l.drop k) from q7,CR (by have:=Aa HN;omega)];exact⟨_,rfl,ha⟩)
   clear q7 hb q0
   go_wp2_with (fail)
   go_ret2
   exact⟨Aa q6 _ (Aa q8),Aa HB⟩
def LR(P:CD->A2->To->Prop)(r:Except Nat To)(e:Ending)(w':CD):Prop:=match r with
 | .ok d=>∃v,e=.returned (.tuple #[v,.int .i64 0])/\P w' v d
 | .error c=>e=.returned (.tuple #[.pointer none,.int .i64 c])
section
variable{w:CD}{b:Nat}{t:By}
theorem SD{m n:Nat}{D:List (Lit×AI A2)}{R:Ending->Prop}(ht:t.length<=1048576)(h:VB w b 6 n0 [] (.slice none 0 0) (.map (some m)))(ho:w.ownsMap CH 9 RV m n (.map D))(hno:Ft (.map D:AI A2) (.string t)=false->R (.returned (.tuple #[.pointer none,.int .i64 11])))(q4:Ft (.map D:AI A2) (.string t)=true -> ∃x,(∀z,(DataW.map D).atKey (.string t) z=.held x)/\R (.returned (.tuple #[x,.int .i64 0]))):
  Calls CH 111 #[.pointer (some ⟨b,0,none⟩),.string ⟨t.toArray⟩] w fun e w'=>R e/\D2 w.heap.size w w':=by
 have q7:=Ab BE;have q8:=Ab (fun w=>B3 w);have c0:=h.c0;have c6:=h.c6;have q6:=Ab (ED t ht);cases hh:Ft (.map D:AI A2) (.string t) with
 | false=>
  have q0:=Ab (hno hh);have HO:=Ab ho;have q5:=Ab hh;clear hno q4 h ho hh
  go_enter func111,ntmps111
  go_wp2_with (first|(at_lookup;refine Dp _ rfl _ _ 109 rfl 9 80 (Aa q7) underlying109 RV (Aa q8 _) (.held (.pointer none)) [] rfl m n (.map D) rfl (Aa HO) _ _ rfl (Aa q6) ?_;intro v2 qb q9;rw[Aa q5]))
  go_ret2
  exact⟨Aa q0,A5 _ _⟩
 | true=>
  obtain⟨x,e4,hR⟩:=q4 hh;have q0:=Ab hR;have HO:=Ab ho;have q5:=Ab hh;clear hno q4 h ho hh hR
  go_enter func111,ntmps111
  go_wp2_with (first|(at_lookup;refine Dp _ rfl _ _ 109 rfl 9 80 (Aa q7) underlying109 RV (Aa q8 _) (.held (.pointer none)) [] rfl m n (.map D) rfl (Aa HO) _ _ rfl (Aa q6) ?_;intro v2 qb q9;rw[Aa q5];obtain⟨rfl,_⟩:=Cg q9 (e4 _)))
  go_ret2
  exact⟨Aa q0,A5 _ _⟩
theorem SE{sl:A2}{ps:List A2}{R:Ending->Prop}(ht:t.length<=1048576)(hr:Rng w)(h:VB w b 5 n0 [] sl (.map none))(ho:w.ownsRow 0 80 1 sl ps.length ps)(q0:eZ t=none->R (.returned (.tuple #[.pointer none,.int .i64 12])))(hin:∀i (hi:i<ps.length),eZ t=some i->R (.returned (.tuple #[ps[i],.int .i64 0])))(q7:∀i,eZ t=some i->ps.length<=i->R (.returned (.tuple #[.pointer none,.int .i64 11]))):
  Calls CH 111 #[.pointer (some ⟨b,0,none⟩),.string ⟨t.toArray⟩] w fun e w'=>R e/\D2 w.heap.size w w':=by
 have c0:=h.c0;have c5:=h.c5;have qb:=h.lt;have hI:=Ab (Gs t w ht hr);obtain⟨N,hN⟩:∃N,N=ps.length:=⟨_,rfl⟩
 have q8:=D6 ho;cases hi:eZ t with
 | none=>
  have q4:=Ab (q0 hi);rw[hi] at hI;clear ho h hr hi q8 c5 q0 hin q7
  go_enter func111,ntmps111
  go_wp2_with (fail);refine (Aa hI).mono ?_
  rintro e w2 ⟨rfl,hb⟩;unfold Fm
  go_wp2_with (fail)
  go_ret2
  exact⟨Aa q4,hb⟩
 | some i=>
  rw[hi] at hI;by_cases q6:i<ps.length
  ·obtain⟨g,cap,rfl,a1,a2,a3,hc⟩:=Bm ho (by omega);have q4:=Ab (hin i q6 hi);have qd:=hc i q6;have qe:(N:Int)<=9223372036854775807:=by unfold maxLen at q8;omega
   have hlt:(i:Int)<(N:Int):=by omega
   clear q0 hin q7;generalize ps[i]=pv at *;have HC:=Ab qd;rw[<- hN] at c5 a1;have q9:=Ab c5;clear ho hr hi q8 hc qd c5
   go_enter func111,ntmps111
   go_wp2_with (fail);refine (Aa hI).mono ?_
   rintro e w2 ⟨rfl,hb⟩;have q5:=(hb.cell (p:=⟨b,5,none⟩) qb).trans (Aa q9);have qi:=(hb.cell (p:=⟨g,i,none⟩) a3).trans (Aa HC);have HB:=Ab hb;clear hb hN q6 h;unfold Fm
   go_wp2_with (fail)
   go_ret2
   exact⟨Aa q4,Aa HB⟩
  ·have q4:=Ab (q7 i hi (by omega));obtain⟨g,cap,rfl⟩:=Cx ho;have hlt:¬ (i:Int)<(N:Int):=by omega
   rw[<- hN] at c5;have q9:=Ab c5;clear ho hr hi q8 c5 q0 hin q7
   go_enter func111,ntmps111
   go_wp2_with (fail);refine (Aa hI).mono ?_
   rintro e w2 ⟨rfl,hb⟩;have q5:=(hb.cell (p:=⟨b,5,none⟩) qb).trans (Aa q9);have HB:=Ab hb;clear hb hN q6 h;unfold Fm
   go_wp2_with (fail)
   go_ret2
   exact⟨Aa q4,Aa HB⟩
end
structure Vr(G:List By->CD->A2->To->Prop):Prop where
 call:∀ (s:List By) (w:CD) (v:A2) (d:To) (t:By),t.length<=1048576->Rng w->G s w v d->Calls CH 111 #[v,.string ⟨t.toArray⟩] w fun e w'=>LR (G (s++[t])) (Aq d t) e w'/\D2 w.heap.size w w'
theorem cU{G:List By->CD->A2->To->Prop}(hG:Vr G){w:CD}{pv:A2}{l:List By}(hl:∀t∈l,t.length<=1048576)(hn:l.length<=1048576)(hr:Rng w)(h:G [] w v d)(hp:CW w pv l):
  Calls CH 81 #[pv,v] w fun e w'=>LR (G l) (Ah d l) e w'/\D2 w.heap.size w w':=by
 rcases hp with⟨rfl,a,c,rfl,_⟩|⟨g,o,cap,rfl,_,_,a1,hc⟩
 ·have HH:=Ab h;clear hl hn hr h hG
  go_enter func81,ntmps81
  go_wp2_with (fail);refine wp_loop_rounds 1 ?_
  rw[rounds_succ]
  go_wp2_with (fail)
  go_ret2
  exact⟨⟨_,rfl,Aa HH⟩,A5 _ _⟩
 obtain⟨N,hN⟩:∃N,N=l.length:=⟨_,rfl⟩
 obtain⟨R,hR⟩:∃R,R=Ah d l:=⟨_,rfl⟩
 rw[<- hR,<- hN];have qk:(N:Int)<=1048576:=by omega
 have HL:=Ab hl;have HC:=Ab hc;have HR:=Ab hr;have HH:=Ab h;have HG:=Ab hG;have HN:=Ab hN;have qf:=Ab hR;clear hl hc hr h hN hR hn hG
 go_enter func81,ntmps81
 go_wp2_with (fail)
 go_loopw [6,14] (fun a i wr=>∃ (k:Nat) (d':To),k<=N/\i=.int .i64 k/\G (l.take k) wr a d'/\Hid (Ah d l=Ah d' (l.drop k))/\D2 w.heap.size w wr) (fun _ i _=>N-(intOf i).toNat)
 case atStart=>exact⟨0,d,by omega,rfl,Aa HH,rfl,A5 _ _⟩
 case round=>
  obtain⟨k,d',hk,rfl,q0,q7,hb⟩:=hrel;have HB:=Ab hb;have q8:=Ab q0;by_cases hlt:k<N
  ·have h1:k<l.length:=by have:=Aa HN;omega
   have q5:l.drop k=l[k]::l.drop (k+1):=A6 h1;have q:=(hb.cell (p:=⟨g,o+k,none⟩) a1).trans (Aa HC k h1);have q4:=Ab ((Aa HG).call _ _ _ _ l[k] (Aa HL _ (D0 h1)) ((Aa HR).kept hb) q0);have qb:(k:Int)<(N:Int):=by omega
   rw[q5] at q7;have HT:=Ab (show l.take (k+1)=l.take k++[l[k]] from List.take_succ_eq_append_getElem h1);have qe:=Ab (show Ah d l=(match Aq d' l[k] with | .ok e=>Ah e (l.drop (k+1)) | .error c=>.error c) from q7);generalize l[k]=tk at *;clear q7 hb q0 q5 h1
   go_wp2_with (fail);refine (Aa q4).mono ?_
   rintro e w2 ⟨ho,hb2⟩;have qd:=Ab ((Aa HB).trans (hb2.mono (Aa HB).size));clear hb2 q4 q;cases hch:Aq d' tk with
   | ok d2=>
    rw[hch] at ho;obtain⟨v2,rfl,qg⟩:=ho;have qi:=Ab (show G (l.take (k+1)) w2 v2 d2 by rw[Aa HT];exact qg);have qh:=Ab (show Ah d l=Ah d2 (l.drop (k+1)) by have h9:=Aa qe;rw[hch] at h9;exact h9);clear qg hch
    go_wp2_with (fail);exact⟨⟨k+1,d2,by omega,by go_num,Aa qi,Aa qh,Aa qd⟩,by simp only[intOf];omega⟩
   | error c=>
    rw[hch] at ho;have qj:e=.returned (.tuple #[.pointer none,.int .i64 c]):=ho;subst qj;have q6:=Ab (show LR (G l) R (.returned (.tuple #[.pointer none,.int .i64 c])) w2 by
     have h9:=Aa qe;rw[hch] at h9;rw[Aa qf,h9];rfl)
    have q9:=Fe hch;have e1:((c:Int)==0)=false:=by grind
    have e2:((c:Int) != 0)=true:=by grind
    clear hch ho q9
    go_wp2_with (fail)
    go_ret2
    exact⟨Aa q6,Aa qd⟩
  ·have qb:¬ (k:Int)<(N:Int):=by omega
   have q6:=Ab (show ∀a,G (l.take k) wr a d'->LR (G l) R (.returned (.tuple #[a,.int .i64 0])) wr from fun a ha=>by
    rw[C1 (by have:=Aa HN;omega)] at ha;rw[Aa qf,show Ah d l=Ah d' (l.drop k) from q7,CR (by have:=Aa HN;omega)];exact⟨_,rfl,ha⟩)
   clear q7 hb q0
   go_wp2_with (fail)
   go_ret2
   exact⟨Aa q6 _ (Aa q8),Aa HB⟩
def gH(d:To)(t:By):Option Nat:=match d with
 | .map es=>es.findIdx? (fun p=>p.1.sameKey (.string t))
 | .slice es _=>match eZ t with
  | none=>none
  | some i=>if i<es.length then some i else none
 | _=>none
def Bi(d:To):List To:=match d with
 | .map es=>es.map FD
 | .slice es _=>es
 | _=>[]
def A8:To->List By->Option (List Nat)
 | _,[]=>some []
 | d,t::r=>match gH d t with
  | none=>none
  | some i=>match (Bi d)[i]? with
   | none=>none
   | some e=>(A8 e r).map (i :: ·)
def Bj:List Nat->To->Option To
 | [],d=>some d
 | i::r,d=>match (Bi d)[i]? with
  | none=>none
  | some e=>Bj r e
def D4(n:Nat)(t:By):Except Nat Nat:=
 if t=[45] then .ok n else match eZ t with
  | none=>.error 12
  | some i=>if n<i then .error 11 else .ok i
def fN{α:Type}(i:Nat)(c:α)(l:List α):List α:=l.take i++c::l.drop i
def fC{α:Type}(i:Nat)(l:List α):List α:=l.take i++l.drop (i+1)
def eE{α:Type}(k:Lit)(c:AI α)(es:List (Lit×AI α)):List (Lit×AI α):=AS (k,c) (es.filter fun p=>!p.1.sameKey k)
def eR{α:Type}(k:Lit)(es:List (Lit×AI α)):List (Lit×AI α):=es.filter fun p=>!p.1.sameKey k
def jF(F:List To->List To)(G:List (Lit×To)->List (Lit×To))(d:To):To:=match d with
 | .slice es y=>.slice (F es) y
 | .map es=>.map (G es)
 | d=>d
def FT(i:Nat)(k:By)(x:To):To->To:=jF (fN i x) (eE (.string k) x)
def Lr(i:Nat)(k:By):To->To:=jF (fC i) (eR (.string k))
def He(i:Nat)(k:By)(x:To):To->To:=jF (fun es=>es.set i x) (eE (.string k) x)
def CM(i:Nat)(x:To)(d:To):To:=match d with
 | .slice es y=>.slice (es.set i x) y
 | .map es=>.map (es.modify i fun p=>(p.1,x))
 | d=>d
def As:List Nat->To->To->To
 | [],x,_=>x
 | i::r,x,d=>match (Bi d)[i]? with
  | some e=>CM i (As r x e) d
  | none=>d
def BR:List Int->Int
 | []=>0
 | x::r=>max x (BR r)
def eQ:Nat->To->Int
 | 0,_=>0
 | f+1,d=>match d with
  | .slice es _=>1+BR (es.map (eQ f))
  | .map es=>1+BR (es.map fun p=>eQ f p.2)
  | _=>1
theorem Ix{t:By}{i:Nat}{e:To}(hi:gH e t=some i){e':To}(he:(Bi e)[i]? = some e'):∀ {s:List By} {d:To} {p:List Nat},A8 d s=some p->Bj p d=some e->A8 d (s++[t])=some (p++[i])
 | [],d,p,h,h2=>by
  injection h with h;subst h;injection h2 with h2;subst h2;simp[A8,hi,he]
 | u::s,d,p,h,h2=>by
  unfold A8 at h;split at h
  ·cases h
  ·rename_i j hj;split at h
   ·cases h
   ·rename_i x hx;obtain⟨q,hq,rfl⟩:=Option.map_eq_some_iff.1 h;unfold Bj at h2;rw[hx] at h2;have ih:=Ix hi he hq h2;rw[D1,A8,hj]
    grind
theorem Ij{es:List To}{t:By}{e:To}(h:Aq (Af es) t=.ok e):∃i,eZ t=some i/\es[i]? = some e/\gH (Af es) t=some i:=by
 grind [Af,Aq,gH]
theorem DQ{w:CD}(h:Ad (f+1) w v a):Bi (dV (f+1) a)=(AJ a).map (dV f):=by
 obtain⟨b,g,x,rfl,hv,h⟩:=h;rcases h with⟨k,_,_,rfl,h⟩|⟨n,_,rfl,h,q0⟩|⟨s,_,rfl,h⟩|⟨al,sl,ps,rfl,h,ho,hs,ha⟩|⟨es,n,D,rfl,h,ho,hp⟩
 ·rfl
 ·rfl
 ·rfl
 ·rfl
 ·rw[AX,BH];show (es.map fun p=>(p.1,dV f p.2)).map FD=(es.map FD).map (dV f)
  simp_all
theorem Ha{f:Nat}{w:CD}:∀ {p:List Nat} {v:A2} {a n:dS},Ad (f+p.length) w v a->eD p a=some n->Bj p (dV (f+p.length) a)=some (dV f n)
 | [],v,a,n,h,hs=>by
  grind [eD,Bj,dV]
 | i::r,v,a,n,h,hs=>by
  obtain⟨c,hc,h2⟩:=Cl hs;have h':Ad ((f+r.length)+1) w v a:=h;have hk:=DQ h';obtain⟨u,hu⟩:∃u,Ad (f+r.length) w u c:=by
   have:=Ad.at (f:=f+r.length) (p:=[i]) h' (show eD [i] a=some c by simp[eD,hc]);exact this
  have ih:=Ha hu h2
  grind [eD,Bj,dV]
theorem Hb{i:Nat}{c n:dS}(hc:(AJ n)[i]? = some c):∀ {p:List Nat} {a:dS},eD p a=some n->eD (p++[i]) a=some c
 | [],a,h=>by
  injection h with h;subst h;simp[eD,hc]
 | j::r,a,h=>by
  obtain⟨x,hx,h2⟩:=Cl h;rw[D1,eD,hx];exact Hb hc h2
theorem Ad.bel{w w':CD}(h:Ad f w v a)(hb:D2 w.heap.size w w'):Ad f w' v a:=h.move fun k hk=>hb.block k (h.lt k hk)
def InT(fa:Nat)(v:A2)(a:dS)(s:List By)(w:CD)(u:A2)(d:To):Prop:=
 Ad fa w v a /\ ∃f p n,f+p.length=fa/\eD p a=some n/\Ad f w u n/\dV f n=d/\A8 (dV fa a) s=some p
theorem Ua(c:α){l:List α}(h:i<=l.length):fC i (fN i c l)=l:=by
 have h1:(l.take i).length=i:=by grind
 unfold fC fN;rw[List.take_append_of_le_length (by omega),C1 (by omega),List.drop_append,List.drop_of_length_le (by omega),h1];simp
theorem IL{c:α}{l:List α}(h:l[i]? = some c):fN i c (fC i l)=l:=by
 obtain⟨hi,rfl⟩:=Bs.1 h;have h1:(l.take i).length=i:=by grind
 unfold fC fN
 simp_all
theorem T8{c d:α}{l:List α}(h:l[i]? = some c):(l.set i d).set i c=l:=by
 grind [List.set_set,List.set_getElem_self]
theorem JQ(q:α->β)(i:Nat)(c:α)(l:List α):(fN i c l).map q=fN i (q c) (l.map q):=by
 unfold fN;simp
theorem JR(q:α->β)(i:Nat)(l:List α):(fC i l).map q=fC i (l.map q):=by
 unfold fC;simp
theorem Hm(c:α){l:List α}(h:i<=l.length):(fN i c l).length=l.length+1:=by
 grind [fN]
theorem JU{l:List α}(h:i<l.length):(fC i l).length+1=l.length:=by
 grind [fC]
theorem E6(i:Nat)(c:α)(l:List α):(fN i c l).Perm (c::l):=by
 unfold fN;have:=List.perm_middle (a:=c) (l₁:=l.take i) (l₂:=l.drop i)
 simp_all
theorem Gg{c:α}{l:List α}(h:l[i]? = some c):l.Perm (c::fC i l):=by
 have h1:=E6 i c (fC i l)
 rwa [IL h] at h1
theorem Mn{c:α}{l:List α}(d:α)(h:l[i]? = some c):(l.set i d).Perm (d::fC i l):=by
 obtain⟨hi,_⟩:=Bs.1 h;have e:l.set i d=fN i d (fC i l):=by
  have h2:=IL (i:=i) (c:=d) (l:=l.set i d) (by grind);rw[<- h2];congr 1;unfold fC;rw[List.take_set_of_le (by omega),List.drop_set_of_lt (by omega)]
 rw[e];exact E6 i d _
def Az{α:Type}(es:List (Lit×AI α)):Prop:=es.Pairwise (fun p q=>p.1.before q.1=true) /\ ∀p∈es,∃s,p.1=.string s
theorem Da{s t:By}:(A1 s).sameKey (.string t)=true<->s=t:=by
 constructor
 ·intro h;have:=WideAt.sameKey_eq h
  grind
 ·rintro rfl;exact AT trivial
theorem Gz{es:List (Lit×AI α)}(h:∀p∈es,p.1 ≠ .string k):es.filter (fun p=>!p.1.sameKey (.string k))=es:=by
 apply List.filter_eq_self.2;intro p hp;rw[sameKey_ne (h p hp)];rfl
theorem Gh{α:Type}{k:By}{c:AI α}:∀ {es:List (Lit×AI α)},Az es->(A1 k,c)∈es->eE (.string k) c es=es
 | [],_,h=>by cases h
 | y::r,⟨h1,h2⟩,h=>by
  obtain⟨h3,h4⟩:=List.pairwise_cons.1 h1;obtain⟨t,ht⟩:=h2 y (by simp);unfold eE;rcases E0.1 h with e|h
  ·subst e;have hne:∀p∈r,p.1 ≠ .string k:=fun p hp e=>by
    have:=h3 p hp;rw[show p.1=A1 k from e] at this;have h9:Dt k k=true:=this;rw[A4] at h9;cases h9
   rw[CL,if_neg (by rw[AT (show A3 (A1 k,c).1 from trivial)];decide),Gz hne];cases r with
   | nil=>rfl
   | cons z r=>rw[AS,if_pos (h3 z (by simp))]
  ·have hb:=h3 _ h;have hne:y.1 ≠ .string k:=fun e=>by
    rw[e] at hb;have h9:Dt k k=true:=hb;rw[A4] at h9;cases h9
   rw[CL,if_pos (by rw[sameKey_ne hne];rfl)];have q0:Lit.before (.string k) y.1=false:=by
    cases hx:Lit.before (.string k) y.1 with
    | false=>rfl
    | true=>
     rw[ht] at hb hx;have h9:=D3 _ _ _ (show Dt k t=true from hx) (show Dt t k=true from hb);rw[A4] at h9;cases h9
   rw[AS,if_neg (by grind)];have ih:=Gh ⟨h4,by grind⟩ h;unfold eE at ih;rw[ih]
theorem MA(c:AI α)(es:List (Lit×AI α)):eR (.string k) (eE (.string k) c es)=eR (.string k) es:=by
 unfold eE;have h:∀l:List (Lit×AI α),(AS (.string k,c) l).filter (fun p=>!p.1.sameKey (.string k))=l.filter (fun p=>!p.1.sameKey (.string k)):=by
  intro l;induction l with
  | nil=>simp[AS,AT (show A3 (A1 k) from trivial)]
  | cons y r ih=>
   rw[AS];split
   ·rw[CL,if_neg (by rw[AT (show A3 (A1 k,c).1 from trivial)];decide)]
   grind
 unfold eR
 simp_all
theorem T7{es:List (Lit×AI α)}(h:∀p∈es,p.1 ≠ .string k):eR (.string k) es=es:=Gz h
theorem IH(c:AI α)(es:List (Lit×AI α)):eE (.string k) c (eR (.string k) es)=eE (.string k) c es:=by
 grind [List.filter_filter,eE,eR]
theorem TT(c d:AI α)(es:List (Lit×AI α)):eE (.string k) c (eE (.string k) d es)=eE (.string k) c es:=by
 rw[<- IH c (eE (.string k) d es),MA,IH]
theorem EW(q:AI α->AI β)(k:Lit)(es:List (Lit×AI α)):(eR k es).map (fun p=>(p.1,q p.2))=eR k (es.map fun p=>(p.1,q p.2)):=by
 unfold eR;rw[List.filter_map];rfl
theorem PO(q:AI α->AI β)(x:Lit×AI α)(l:List (Lit×AI α)):(AS x l).map (fun p=>(p.1,q p.2))=AS (x.1,q x.2) (l.map fun p=>(p.1,q p.2)):=by
 induction l with
 | nil=>rfl
 | cons y r ih=>
  simp only[AS,List.map_cons]
  grind
theorem FQ(q:AI α->AI β)(k:Lit)(c:AI α)(es:List (Lit×AI α)):(eE k c es).map (fun p=>(p.1,q p.2))=eE k (q c) (es.map fun p=>(p.1,q p.2)):=by
 unfold eE;rw[PO];have:=EW q k es;unfold eR at this;rw[this]
theorem Ek{c:To}{es:List (Lit×To)}(h:Az es):Az (eE (.string k) c es):=by
 unfold eE;have hs:∀p∈es.filter (fun p=>!p.1.sameKey (.string k)),∃s,p.1=.string s:=fun p hp=>h.2 p (C2.1 hp).1;refine⟨Ih ⟨k,rfl⟩ hs (fun p hp e=>?_) (h.1.filter _),fun p hp=>?_⟩
 ·have:=(C2.1 hp).2;rw[show p.1=A1 k from e,AT (show A3 (A1 k) from trivial)] at this;cases this
 ·rcases E0.1 ((BY _ _).mem_iff.1 hp) with rfl|hp
  ·grind
  grind
theorem Mz{k:Lit}{es:List (Lit×AI α)}(h:Az es):Az (eR k es):=⟨h.1.filter _,fun p hp=>h.2 p (C2.1 hp).1⟩
theorem Dl(k:Lit)(c:AI α)(es:List (Lit×AI α)):(eE k c es).Perm ((k,c)::eR k es):=BY _ _
theorem TC{c:AI α}{es:List (Lit×AI α)}(hs:Az es)(h:(A1 k,c)∈es):es.Perm ((.string k,c)::eR (.string k) es):=by
 have:=Dl (.string k) c es
 rwa [Gh hs h] at this
def iQ(F:List dS->List dS)(G:List (Lit×dS)->List (Lit×dS))(a:dS):dS:=match a with
 | .agg [.lit (.int k b),.lit (.int l g),x]=>(match x with
  | .slice al y=>.agg [.lit (.int k b),.lit (.int l g),.slice (F al) y]
  | .map es=>.agg [.lit (.int k b),.lit (.int l g),.map (G es)]
  | z=>.agg [.lit (.int k b),.lit (.int l g),z])
 | y=>y
def B0(i:Nat)(k:By)(c:dS):dS->dS:=iQ (fN i c) (eE (.string k) c)
def B9(i:Nat)(k:By):dS->dS:=iQ (fC i) (eR (.string k))
def BM(i:Nat)(k:By)(c:dS):dS->dS:=iQ (fun al=>al.set i c) (eE (.string k) c)
theorem DS(F:List dS->List dS)(G:List (Lit×dS)->List (Lit×dS))(b g:Nat)(al:List dS):iQ F G (dW b g (.slice al []))=dW b g (.slice (F al) []):=rfl
theorem DR(F:List dS->List dS)(G:List (Lit×dS)->List (Lit×dS))(b g:Nat)(es:List (Lit×dS)):iQ F G (dW b g (.map es))=dW b g (.map (G es)):=rfl
theorem Sb{F F':List dS->List dS}{G G':List (Lit×dS)->List (Lit×dS)}(hF:∀al,(F al).map (er f)=F' (al.map (er f)))(hG:∀es,(G es).map (fun p=>(p.1,er f p.2))=G' (es.map fun p=>(p.1,er f p.2)))(h:(∃b g al,a=dW b g (.slice al [])) \/ ∃b g es,a=dW b g (.map es)):er (f+1) (iQ F G a)=iQ F' G' (er (f+1) a):=by
 grind [DS,jE,DR,jQ]
def iA(a:dS):Prop:=(∃b g al,a=dW b g (.slice al [])) \/ ∃b g es,a=dW b g (.map es)
theorem UJ(h:iA a):er (f+1) (B0 i k c a)=B0 i k (er f c) (er (f+1) a):=Sb (fun _=>JQ _ _ _ _) (fun _=>FQ _ _ _ _) h
theorem UG(h:iA a):er (f+1) (B9 i k a)=B9 i k (er (f+1) a):=Sb (fun _=>JR _ _ _) (fun _=>EW _ _ _) h
theorem UE(h:iA a):er (f+1) (BM i k c a)=BM i k (er f c) (er (f+1) a):=Sb (fun _=>DD) (fun _=>FQ _ _ _ _) h
theorem Qi(h:iA a):dV (f+1) (B0 i k c a)=FT i k (dV f c) (dV (f+1) a):=by
 rcases h with⟨b,g,al,rfl⟩|⟨b,g,es,rfl⟩
 ·unfold B0;rw[DS,Bq,Bq,JQ];rfl
 ·unfold B0;rw[DR,AX,AX,FQ];rfl
theorem Yf(h:iA a):dV (f+1) (B9 i k a)=Lr i k (dV (f+1) a):=by
 rcases h with⟨b,g,al,rfl⟩|⟨b,g,es,rfl⟩
 ·unfold B9;rw[DS,Bq,Bq,JR];rfl
 ·unfold B9;rw[DR,AX,AX,EW];rfl
theorem Qg(h:iA a):dV (f+1) (BM i k c a)=He i k (dV f c) (dV (f+1) a):=by
 rcases h with⟨b,g,al,rfl⟩|⟨b,g,es,rfl⟩
 ·unfold BM;rw[DS,Bq,Bq,DD];rfl
 ·unfold BM;rw[DR,AX,AX,FQ];rfl
theorem Yh{w:CD}{u:A2}(h:Ad (f+1) w u a)(c:dS):dV (f+1) (gE a i c)=CM i (dV f c) (dV (f+1) a):=by
 obtain⟨b,g,x,rfl,hv,h⟩:=h;rcases h with⟨k,h1,h2,rfl,h⟩|⟨n,h2,rfl,h,q0⟩|⟨s,h2,rfl,h⟩|⟨al,sl,eV,rfl,h,ho,hs,ha⟩|⟨es,n,D,rfl,h,ho,hp⟩
 ·rfl
 ·rfl
 ·rfl
 ·rw[QH,Bq,Bq,DD];rfl
 ·rw[LG,AX,AX,Hl (fun p:Lit×dS=>(p.1,dV f p.2)) (fun p=>(p.1,c)) (fun p=>(p.1,dV f c)) fun p=>rfl];rfl
theorem Qh{w:CD}:∀ {p:List Nat} {f:Nat} {u:A2} {a n:dS} (n':dS),Ad (f+p.length) w u a->eD p a=some n->dV (f+p.length) (eI p n' a)=As p (dV f n') (dV (f+p.length) a)
 | [],_,_,_,_,_,_,_=>rfl
 | i::r,f,u,a,n,n',ht,h=>by
  obtain⟨c,hc,h2⟩:=Cl h;have h':Ad ((f+r.length)+1) w u a:=ht;obtain⟨x,hx⟩:∃u,Ad (f+r.length) w u c:=Ad.at (f:=f+r.length) (p:=[i]) h' (show eD [i] a=some c by simp[eD,hc]);have hk:(Bi (dV ((f+r.length)+1) a))[i]? = some (dV (f+r.length) c):=by rw[DQ h',List.getElem?_map,hc];rfl
  rw[BN n' hc];show dV ((f+r.length)+1) _=As (i::r) _ (dV ((f+r.length)+1) a);rw[Yh h',As,hk,Qh n' hx h2]
end Go.Proofs.YtdpomdelmdofmaaGreatDoor
