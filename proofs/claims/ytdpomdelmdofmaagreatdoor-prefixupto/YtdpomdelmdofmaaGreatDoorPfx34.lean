import Derived.Test.YtdpomdelmdofmaaGreatDoorPfx33
import Derived.OrdersIn
open List renaming length_cons->AI,dropLast_concat_getLast->A1,getLast?_concat->A2,mem_cons->A5,dropLast_concat->A6,eq_nil_of_length_eq_zero->Bs,flatMap_cons->BY,append_eq_nil_iff->CH,mem_append->CL,length_append->C1,all_eq_true->Dt,length_nil->DD,range->D2,map_cons->D3,sum_cons->E0
open Nat renaming le_trans->AS,le_refl->AT
open Go.RowKit.Below renaming heap_setCell->A3
open UInt8 renaming ofNat->A4
open Go renaming World->CD,bodyPost_ret->C2,wpAnyIn->D0,Value->F2
open Or renaming inl->CR,inr->Ft
open Go.DataW renaming map->Dp
open Go.RowKit renaming Below->D1
open Go.Region renaming ready->F1
set_option maxRecDepth 100000
set_option maxHeartbeats 4000000
namespace Go.Proofs.YtdpomdelmdofmaaGreatDoor
open Go.Proofs.Tryz Go.RowKit Go.Maps
variable{v':To}{j:List Zk}{o:ZT}{c:Nat}{l:By}{ks:List By}
section
theorem SY{d x:Int}{f:Nat}{Zg:Int}{v e:To}{t:By}(h:Zl d x (f+1) Zg v)(hc:AF v t=.ok e):∃i,aQ v t=some i/\(Cj v)[i]? = some e:=by
 obtain⟨_,h⟩:=h;rcases h with⟨k,hk,rfl⟩|⟨s,hs,rfl⟩|⟨n,h1,h2,h3,rfl⟩|⟨es,h,rfl⟩|⟨es,h1,h2,rfl⟩
 ·cases hc
 ·cases hc
 ·cases hc
 ·obtain⟨i,_,h2,h3⟩:=GY hc;exact⟨i,h3,h2⟩
 ·have hp:∀ (es:List (Lit×To)),Pt (fun _ _=>True) (es.map fun p=>(p.1,DataW.held (Value.pointer none))) es:=by
   intro es;induction es with
   | nil=>exact trivial
   | cons a r ih=>exact⟨⟨rfl,_,rfl,trivial⟩,ih⟩
  have q0:AF (Ay es) t=(if Maps.has (.map es:To) (.string t)=true then .ok ((Dp es).atKey (.string t) .nil) else .error 11):=rfl;rw[q0] at hc;split at hc
  ·rename_i hh;injection hc with hc;have q4:=(hp es).has (.string t);obtain⟨i,key,c,_,e1,e2,e3,_,_⟩:=(hp es).first (.string t) (q4.trans hh)
   refine⟨i,e1,?_⟩;show (es.map Prod.snd)[i]? = some e;rw[List.getElem?_map,e2,<- hc,BZ,e3];rfl
  ·cases hc
theorem Ni{d x:Int}:∀ {s:List By} {f:Nat} {Zg:Int} {v n:To},Zl d x f Zg v->Ak v s=.ok n -> ∃q f',f'+1+q.length=f/\Dq v s=some q/\B5 q v=some n
 | [],f,Zg,v,n,h,hf=>by
  injection hf with hf;subst hf;cases f with
  | zero=>exact h.elim
  | succ f=>exact⟨[],f,rfl,rfl,rfl⟩
 | t::r,f,Zg,v,n,h,hf=>by
  cases f with
  | zero=>exact h.elim
  | succ f=>
   rw[Ak] at hf;cases hc:AF v t with
   | error c=>rw[hc] at hf;cases hf
   | ok e=>
    rw[hc] at hf;obtain⟨i,h1,h2⟩:=SY h hc;obtain⟨q,f',e1,e2,e3⟩:=Ni (Gh h h2) hf;refine⟨i::q,f',by simp;omega,?_,?_⟩
    ·rw[Dq,h1];simp only[h2,e2];rfl
    ·rw[B5,h2];exact e3
variable{d d' x:Int}{B B':Nat}{v n e xv:To}{s p q:List By}{t:By}
theorem GJ(hv:Zx d x B v)(hf:Ak v s=.ok n):∃q f,f+1+List.length q=top/\Dq v s=some q/\B5 q v=some n/\Zl d x (f+1) (1+q.length) n/\Zh (f+1) n<=B/\1+(q.length:Int)<=d/\1000<=f:=by
 obtain⟨q,f,h1,h2,h3⟩:=Ni hv.gd hf;have hg:Zl d x (f+1+q.length) 1 v:=by rw[h1];exact hv.gd
 have g1:=Ne hg h3;have g2:=Mi hg h3;rw[h1] at g2;have g3:=E3 g1;have:=hv.sz;have:=hv.dd;have:=EA;exact⟨q,f,h1,h2,h3,g1,by omega,g3,by omega⟩
theorem Zx.mono(h:Zx d x B v)(hd:d<=d')(h5:d'<=500)(hB:B<=B'):Zx d' x B' v:=⟨CE hd h.gd,h5,AS h.sz hB⟩
theorem Fu(hv:Zx d x B v)(hf:Ak v s=.ok n):Zx d x B n:=by
 obtain⟨q,f,h1,h2,h3,h4,h5,h6,h7⟩:=GJ hv hf;have g1:=Fp (s:=-(q.length:Int)) h4;rw[show (1:Int)+q.length + -(q.length:Int)=1 by omega] at g1;have g2:Zl d x (f+1) 1 n:=CE (by omega) g1;refine⟨Co g2 (by have:=hv.dd;have:=EA;omega),hv.dd,?_⟩;rw[EZ g2 (by omega)];exact h5
theorem Gk{f:Nat}{qq:List Nat}{n':To}(hv:Zx d x B v)(h1:f+1+qq.length=top)(h3:B5 qq v=some n)(hd:d<=d')(h5:d'<=500)(hg:Zl d' x (f+1) (1+qq.length) n')(hs:Zh (f+1) n'<=Zh (f+1) n+B'):Zx d' x (B+B') (Cd qq n' v):=by
 have q0:Zl d' x (f+1+qq.length) 1 v:=by rw[h1];exact CE hd hv.gd
 have g1:=Nf q0 h3 hg;have g2:=Mj (n':=n') q0 h3;rw[h1] at g1 g2;have:=hv.sz;exact⟨g1,h5,by omega⟩
theorem Vf{f:Nat}{k:Nat}(hx:Zx d' x B' xv)(hk:1+(k:Int)<=d)(h5:d+d'<=500)(hf:1000<=f):Zl (d+d') x f (1+(k:Int)+1) xv/\Zh f xv<=B':=by
 have g1:=Fp (s:=1+(k:Int)) hx.gd;have g2:=CE (D:=d+d') (by omega) g1;rw[show (1:Int)+(1+(k:Int))=1+(k:Int)+1 by omega] at g2;refine⟨Co g2 (by omega),?_⟩;have g3:=Co (f:=f) hx.gd (by have:=hx.dd;omega);have h9:=hx.sz;by_cases q0:f<=top
 ·rw[EZ g3 q0] at h9;exact h9
 ·rw[EZ hx.gd (by omega)];exact h9
theorem OQ(h:Z2 p)(ht:t∈p):(Ag t).length<=600002:=by
 have:=En t;have:=h.tok t ht;omega
theorem G5:Ut bS:=⟨[],(fun c h=>by cases h),rfl⟩
def FZ(d x:Int)(B:Nat)(o:Zk):Prop:=(o.2.1.map fun t=>t.length+1).sum<=200000/\(o.1≠1->Zx d x B o.2.2)
theorem Ef(s:List By)(t:By):((s++[t]).map fun t=>t.length+1).sum=(s.map fun t=>t.length+1).sum+(t.length+1):=by simp
theorem JR(i:Nat)(h:i<=1000000000000):(Lib.itoa (i:Int)).length<=1000:=by
 have:=Lib.itoa_length_le (i:Int) (by omega) (by omega);omega
theorem Jf(hv:Zx d x B v)(hx:Zx d' x B' xv)(hp:Z2 p)(h5:d+d'<=500)(hB:B<=900000000)(h:CP v p xv=.ok (v',j)):Zx (d+d') x (B+(B'+600004)) v' /\ ∀o∈j,FZ d x B o:=by
 have q8:=E3 hv.gd;have q9:=E3 hx.gd;unfold CP EG at h;cases hl:p.getLast? with
 | none=>
  rw[hl] at h;injection h with h;injection h with e1 e2;subst e1;subst e2;refine⟨hx.mono (by omega) h5 (by omega),fun o ho=>?_⟩;obtain rfl:o=(2,[],v):=by simpa using ho
  exact⟨by simp,fun _=>hv⟩
 | some t=>
  have q5:p≠[]:=by rintro rfl;cases hl
  obtain⟨s,t',rfl⟩:∃s t,p=s++[t]:=⟨p.dropLast,p.getLast q5,(A1 q5).symm⟩
  rw[A2] at hl;injection hl with hl;subst hl;simp only[A2,A6] at h;cases hf:Ak v s with
  | error c=>rw[hf] at h;cases h
  | ok n=>
   rw[hf] at h;simp only at h;obtain⟨qq,f,h1,h2,h3,h4,q7,h6,h7⟩:=GJ hv hf;obtain⟨g1,g2⟩:=Vf (d:=d) hx h6 h5 h7;have hq:=OQ hp (show t'∈s++[t'] by simp);have q6:Ut t':=hp.2 t' (by simp);have q4:=hp.1;rw[Ef] at q4;have q0:=CE (D:=d+d') (by omega) h4;unfold Dm at h;split at h
   ·rename_i es;split at h
    ·rename_i hh;injection h with h;injection h with e1 e2;subst e1;subst e2;rw[CZ h2];refine⟨Gk hv h1 h3 (by omega) h5 (Sa q0 q6 g1) ?_,fun o ho=>?_⟩
     ·have:=QY (f:=f) (i:=0) (k:=t') (c:=xv) (v:=.map es);omega
     ·obtain rfl:o=(2,s++[t'],(Dp es).atKey (.string t') .nil):=by simpa using ho
      refine⟨by rw[Ef];omega,fun _=>?_⟩;have hch:Ak v (s++[t'])=.ok ((Dp es).atKey (.string t') .nil):=by
       rw[Cs,hf];show (if Maps.has (.map es:To) (.string t')=true then Except.ok ((Dp es).atKey (.string t') .nil) else .error 11)=_;rw[if_pos hh]
      exact Fu hv hch
    ·injection h with h;injection h with e1 e2;subst e1;subst e2;rw[CZ h2];refine⟨Gk hv h1 h3 (by omega) h5 (Sd q0 q6 g1) ?_,fun o ho=>?_⟩
     ·have:=Q5 (f:=f) (i:=0) (k:=t') (c:=xv) (v:=.map es);omega
     ·obtain rfl:o=(1,s++[t'],.nil):=by simpa using ho
      exact⟨by rw[Ef];omega,fun hh=>absurd rfl hh⟩
   ·rename_i es y;split at h
    ·cases h
    ·rename_i i hi;injection h with h;injection h with e1 e2;subst e1;subst e2;rw[CZ h2];have qb:=ON hi;have hk:=Kv (f:=f) (v:=.slice es y);have hk2:es.length<=B:=AS hk q7;refine⟨Gk hv h1 h3 (by omega) h5 (Sd q0 G5 g1) ?_,fun o ho=>?_⟩
     ·have:=Q5 (f:=f) (i:=i) (k:=bS) (c:=xv) (v:=.slice es y);have e9:(Ag bS).length=2:=rfl;omega
     ·obtain rfl:o=(1,s++[Lib.itoa (i:Int)],.nil):=by simpa using ho
      refine⟨?_,fun hh=>absurd rfl hh⟩;have:=JR i (by omega);rw[Ef];omega
   ·cases h
theorem Lt(hv:Zx d x B v)(hp:Z2 p)(h:Ds v p=.ok (v',j)):Zx d x B v' /\ ∀o∈j,FZ d x B o:=by
 unfold Ds EG at h;cases hl:p.getLast? with
 | none=>rw[hl] at h;cases h
 | some t=>
  have q0:p≠[]:=by rintro rfl;cases hl
  obtain⟨s,t',rfl⟩:∃s t,p=s++[t]:=⟨p.dropLast,p.getLast q0,(A1 q0).symm⟩
  simp only[A2,A6] at h;cases hf:Ak v s with
  | error c=>rw[hf] at h;cases h
  | ok n=>
   rw[hf] at h;simp only at h;cases hc:AF n t' with
   | error c=>rw[hc] at h;cases h
   | ok e=>
    rw[hc] at h;simp only at h;injection h with h;injection h with e1 e2;subst e1;subst e2;obtain⟨qq,f,h1,h2,h3,h4,q4,h6,h7⟩:=GJ hv hf;rw[CZ h2];have h8:=Gk (B':=0) hv h1 h3 (Int.le_refl _) hv.dd (Sb (i:=(ZO t').getD 0) (k:=t') h4) (by have:=QZ (f:=f) (i:=(ZO t').getD 0) (k:=t') (v:=n);omega);refine⟨h8,fun o ho=>?_⟩;obtain rfl:o=(0,s++[t'],e):=by simpa using ho
    exact⟨by have:=hp.1;simp only;omega,fun _=>Fu hv (by rw[Cs,hf];exact hc)⟩
theorem UI(hv:Zx d x B v)(hx:Zx d' x B' xv)(hp:Z2 p)(h5:d+d'<=500)(h:Fw v p xv=.ok (v',j)):Zx (d+d') x (B+(B'+600004)) v' /\ ∀o∈j,FZ d x B o:=by
 have q7:=E3 hv.gd;have q8:=E3 hx.gd;unfold Fw EG at h;cases hl:p.getLast? with
 | none=>
  rw[hl] at h;injection h with h;injection h with e1 e2;subst e1;subst e2;refine⟨hx.mono (by omega) h5 (by omega),fun o ho=>?_⟩;obtain rfl:o=(2,[],v):=by simpa using ho
  exact⟨by simp,fun _=>hv⟩
 | some t=>
  have q0:p≠[]:=by rintro rfl;cases hl
  obtain⟨s,t',rfl⟩:∃s t,p=s++[t]:=⟨p.dropLast,p.getLast q0,(A1 q0).symm⟩
  simp only[A2,A6] at h;cases hf:Ak v s with
  | error c=>rw[hf] at h;cases h
  | ok n=>
   rw[hf] at h;simp only at h;cases hc:AF n t' with
   | error c=>rw[hc] at h;cases h
   | ok e=>
    rw[hc] at h;simp only at h;injection h with h;injection h with e1 e2;subst e1;subst e2;obtain⟨qq,f,h1,h2,h3,h4,q6,h6,h7⟩:=GJ hv hf;obtain⟨g1,g2⟩:=Vf (d:=d) hx h6 h5 h7;have hq:=OQ hp (show t'∈s++[t'] by simp);have q5:Ut t':=hp.2 t' (by simp);have q4:=CE (D:=d+d') (by omega) h4;rw[CZ h2];refine⟨Gk hv h1 h3 (by omega) h5 (Sa q4 q5 g1) ?_,fun o ho=>?_⟩
    ·have:=QY (f:=f) (i:=(ZO t').getD 0) (k:=t') (c:=xv) (v:=n);omega
    ·obtain rfl:o=(2,s++[t'],e):=by simpa using ho
     exact⟨by have:=hp.1;simp only;omega,fun _=>Fu hv (by rw[Cs,hf];exact hc)⟩
theorem WL(hv:Zx d x 200000 v)(ho:bN (d+2) x 200000 o)(h5:d<=100)(h:aX v o=.ok (v',j)):Zx (d+(d+2)) x 1100000 v'/\(∀o∈j,FZ d x 200000 o)/\j.length<=2:=by
 obtain⟨k,p,q,xv⟩:=o;obtain⟨k1,k2,k3⟩:=ho;have q5:=E3 hv.gd;simp only at k1 k2 k3;have q0:∀ {w:To} {D:Int} {C:Nat},Zx D x C w->D<=d+(d+2)->C<=1100000->Zx (d+(d+2)) x 1100000 w:=fun hw h1 h2=>hw.mono h1 (by omega) h2;have one:∀ {p:List By} {xv v':To} {j:List Zk},CP v p xv=.ok (v',j)->j.length<=1:=by
  intro p xv v' j h;unfold CP at h;split at h
  ·injection h with h;injection h with _ h;subst h;simp
  ·split at h
   ·cases h
   ·unfold Dm at h
    repeat' split at h
    all_goals first|(injection h with h;injection h with _ h;subst h;simp)|cases h
 unfold aX at h;simp only at h;split at h
 ·rename_i hk;obtain⟨r1,r2⟩:=Jf hv (k3 (CR hk)) k1 (by omega) (by omega) h;exact⟨q0 r1 (by omega) (by omega),r2,AS (one h) (by omega)⟩
 ·split at h
  ·obtain⟨r1,r2⟩:=Lt hv k1 h;refine⟨q0 r1 (by omega) (by omega),r2,?_⟩;unfold Ds at h
   repeat' split at h
   all_goals first|(injection h with h;injection h with _ h;subst h;simp)|cases h
  ·split at h
   ·rename_i hk;obtain⟨r1,r2⟩:=UI hv (k3 (Ft (CR hk))) k1 (by omega) h;refine⟨q0 r1 (by omega) (by omega),r2,?_⟩;unfold Fw at h
    repeat' split at h
    all_goals first|(injection h with h;injection h with _ h;subst h;simp)|cases h
   ·split at h
    ·rename_i hk;have kq:=k2 (CR hk);unfold J0 at h;cases hf:Ak v q with
     | error c=>rw[hf] at h;cases h
     | ok e=>
      rw[hf] at h;simp only at h;split at h
      ·injection h with h;injection h with e1 e2;subst e1;subst e2;exact⟨q0 hv (by omega) (by omega),(fun o ho=>by cases ho),by simp⟩
      ·split at h
       ·cases h
       ·cases hr:Ds v q with
        | error c=>rw[hr] at h;cases h
        | ok vj=>
         obtain⟨v1,j1⟩:=vj;rw[hr] at h;simp only at h;obtain⟨r1,r2⟩:=Lt hv kq hr;have q6:j1.length<=1:=by
          unfold Ds at hr
          repeat' split at hr
          all_goals first|(injection hr with hr;injection hr with _ hr;subst hr;simp)|cases hr
         cases ha:CP v1 p e with
         | error c=>rw[ha] at h;cases h
         | ok q4=>
          obtain⟨v2,j2⟩:=q4;rw[ha] at h;injection h with h;injection h with e1 e2;subst e1;subst e2;obtain⟨s1,s2⟩:=Jf r1 (Fu hv hf) k1 (by omega) (by omega) ha;have q7:j2.length<=1:=by
           unfold CP at ha;split at ha
           ·injection ha with ha;injection ha with _ ha;subst ha;simp
           ·split at ha
            ·cases ha
            ·unfold Dm at ha
             repeat' split at ha
             all_goals first|(injection ha with ha;injection ha with _ ha;subst ha;simp)|cases ha
          exact⟨q0 s1 (by omega) (by omega),fun o ho=>(CL.1 ho).elim (r2 o) (s2 o),by simp;omega⟩
    ·split at h
     ·unfold J5 at h;cases hf:Ak v q with
      | error c=>rw[hf] at h;cases h
      | ok e=>
       rw[hf] at h;obtain⟨s1,s2⟩:=Jf hv (Fu hv hf) k1 (by omega) (by omega) h;exact⟨q0 s1 (by omega) (by omega),s2,AS (one h) (by omega)⟩
     ·unfold JY at h;cases hf:Ak v p with
      | error c=>rw[hf] at h;cases h
      | ok e=>
       rw[hf] at h;simp only at h;split at h
       ·injection h with h;injection h with e1 e2;subst e1;subst e2;exact⟨q0 hv (by omega) (by omega),(fun o ho=>by cases ho),by simp⟩
       ·cases h
theorem T6{D:Int}{C:Nat}(hv:Zx D x C v)(h5:d<=100)(h:GG d v=0):Zx d x 40000 v/\(Zm top v).length<=20000:=by
 unfold GG at h;split at h
 ·cases h
 ·split at h
  ·cases h
  ·rename_i h1 h2;have g:=Ng hv.gd (show 1+ZC top v<=d+1 by omega);have:=(BX hv.gd).2;exact⟨⟨g,by omega,by omega⟩,by omega⟩
theorem XU(h:aX v o=.error c):c≠0:=by
 have q0:∀ {v:To} {p:List By} {xv:To} {c:Nat},CP v p xv=.error c->c≠0:=by
  intro v p xv c h;unfold CP at h;split at h
  ·cases h
  ·split at h
   ·rename_i hf;injection h with h;subst h;exact Cc hf
   ·unfold Dm at h;split at h
    ·split at h<;>cases h
    ·split at h
     ·rename_i hs;injection h with h;subst h;exact Mr hs
     ·cases h
    ·injection h with h;omega
 have hch:∀ {v:To} {t:By} {c:Nat},AF v t=.error c->c≠0:=fun h=>by have:=EM h;omega
 have q4:∀ {v:To} {p:List By} {c:Nat},Ds v p=.error c->c≠0:=by
  intro v p c h;unfold Ds at h;split at h
  ·injection h with h;omega
  ·split at h
   ·rename_i hf;injection h with h;subst h;exact Cc hf
   ·split at h
    ·rename_i hc;injection h with h;subst h;exact hch hc
    ·cases h
 unfold aX at h;split at h
 ·exact q0 h
 ·split at h
  ·exact q4 h
  ·split at h
   ·unfold Fw at h;split at h
    ·cases h
    ·split at h
     ·rename_i hf;injection h with h;subst h;exact Cc hf
     ·split at h
      ·rename_i hc;injection h with h;subst h;exact hch hc
      ·cases h
   ·split at h
    ·unfold J0 at h;split at h
     ·rename_i hf;injection h with h;subst h;exact Cc hf
     ·split at h
      ·cases h
      ·split at h
       ·injection h with h;omega
       ·split at h
        ·rename_i hr;injection h with h;subst h;exact q4 hr
        ·split at h
         ·rename_i ha;injection h with h;subst h;exact q0 ha
         ·cases h
    ·split at h
     ·unfold J5 at h;split at h
      ·rename_i hf;injection h with h;subst h;exact Cc hf
      ·exact q0 h
     ·unfold JY at h;split at h
      ·rename_i hf;injection h with h;subst h;exact Cc hf
      ·split at h
       ·cases h
       ·injection h with h;omega
end
theorem Ko:∀l:By,((ZE l).map fun t=>t.length+1).sum=l.length+1
 | []=>rfl
 | c::r=>by
  have ih:=Ko r;unfold ZE;split
  ·simp[ih];omega
  ·cases h:ZE r with
   | nil=>rw[h] at ih;simp at ih
   | cons p ps=>rw[h] at ih;simp at ih |-; omega
theorem Xd(n:Nat):∀ (l k:By),l.length<=n->ZA l=some k->k.length<=l.length:=by
 induction n with
 | zero=>
  intro l k hl h;obtain rfl:l=[]:=Bs (by omega);injection h with h;subst h;exact AT _
 | succ n ih=>
  intro l k hl h;cases l with
  | nil=>injection h with h;subst h;exact AT _
  | cons c r=>
   rw[F6] at h;simp only[AI] at hl;split at h
   ·split at h
    ·rename_i q;cases hq:ZA q with
     | none=>rw[hq] at h;cases h
     | some k'=>
      rw[hq] at h;injection h with h;subst h;have:=ih q k' (by simp only[AI] at hl;omega) hq;simp only[AI];omega
    ·rename_i q;cases hq:ZA q with
     | none=>rw[hq] at h;cases h
     | some k'=>
      rw[hq] at h;injection h with h;subst h;have:=ih q k' (by simp only[AI] at hl;omega) hq;simp only[AI];omega
    ·cases h
   ·cases hq:ZA r with
    | none=>rw[hq] at h;cases h
    | some k'=>
     rw[hq] at h;injection h with h;subst h;have:=ih r k' (by omega) hq;simp only[AI];omega
theorem JO:∀ (ts ks:List By),Z8 ts=some ks->(ks.map fun t=>t.length+1).sum<=(ts.map fun t=>t.length+1).sum
 | [],ks,h=>by injection h with h;subst h;exact AT _
 | t::r,ks,h=>by
  unfold Z8 at h;split at h
  ·cases h
  ·rename_i k hk;cases hr:Z8 r with
   | none=>rw[hr] at h;cases h
   | some q0=>
    rw[hr] at h;injection h with h;subst h;have h1:=Xd t.length t k (AT _) hk;have h2:=JO r q0 hr;simp only[D3,E0];omega
theorem Tw(h:ZW l=some ks):(ks.map fun t=>t.length+1).sum<=l.length:=by
 unfold ZW at h;split at h
 ·split at h
  ·rename_i r hp;have h1:=Ko l;rw[hp] at h1;have h2:=JO _ _ h;simp only[D3,E0,DD] at h1;omega
  ·cases h
 ·cases h
theorem JW(hc:Sc c)(b:Nat)(hb:b<128):(c=b/\ZY c=[A4 b])\/(c≠b /\ ∀x∈ZY c,x≠A4 b):=by
 by_cases h:c=b
 ·subst h;exact CR ⟨rfl,Gm c hb⟩
 ·refine Ft ⟨h,fun x hx e=>?_⟩;have q0:(A4 b).toNat=b:=by simp;omega
  by_cases h1:c<128
  ·rw[show ZY c=[A4 c] from Gm c h1] at hx;have h2:A4 c=A4 b:=(List.mem_singleton.1 hx).symm.trans e;have h3:=congrArg UInt8.toNat h2;rw[q0] at h3;simp at h3;omega
  ·have h2:=(Np c (by omega) hc []).1 x hx;rw[e,q0] at h2;omega
theorem XR(hc:Sc c):∃x r,ZY c=x::r:=by
 by_cases h1:c<128
 ·exact⟨_,_,Gm c h1⟩
 ·have h2:=(Np c (by omega) hc []).2.2;cases he:ZY c with
  | nil=>
   have h3:2<=(ZY c).length:=by first|exact h2|exact h2.1
   rw[he] at h3;simp at h3
  | cons x r=>exact⟨x,r,rfl⟩
theorem VZ{a:By}(h:∀x∈a,x≠47)(l:By):∃p ps,ZE l=p::ps/\ZE (a++l)=(a++p)::ps:=by
 induction a with
 | nil=>
  cases hp:ZE l with
  | nil=>have:=Ko l;rw[hp] at this;simp at this
  | cons p ps=>exact⟨p,ps,rfl,hp⟩
 | cons c r ih=>
  obtain⟨p,ps,h1,h2⟩:=ih fun x hx=>h x (by simp[hx]);refine⟨p,ps,h1,?_⟩;show ZE (c::(r++l))=_;unfold ZE;rw[if_neg (h c (by simp)),h2];rfl
theorem Kg(hc:Sc c){s:By}(h:Ut s):Ut (ZY c++s):=by
 obtain⟨cs,h1,rfl⟩:=h;exact⟨c::cs,fun x hx=>(A5.1 hx).elim (fun e=>e▸hc) (h1 x),by simp⟩
theorem Rp:∀ (cs:List Nat),(∀c∈cs,Sc c) -> ∀t∈ZE (cs.flatMap ZY),Ut t
 | [],_,t,ht=>by
  obtain rfl:t=[]:=by simpa[ZE] using ht
  exact G5
 | c::cs,h,t,ht=>by
  have hc:=h c (by simp);have ih:=Rp cs fun x hx=>h x (by simp[hx]);rw[BY] at ht;rcases JW hc 47 (by omega) with⟨rfl,e⟩|⟨q0,e⟩
  ·rw[e] at ht;have e2:ZE ([A4 47]++cs.flatMap ZY)=[]::ZE (cs.flatMap ZY):=by show ZE (47::cs.flatMap ZY)=_;rw[ZE,if_pos rfl]
   rw[e2] at ht;rcases A5.1 ht with rfl|ht
   ·exact G5
   ·exact ih t ht
  ·obtain⟨p,ps,h1,h2⟩:=VZ e (cs.flatMap ZY);rw[h2] at ht;rw[h1] at ih;rcases A5.1 ht with rfl|ht
   ·exact Kg hc (ih p (by simp))
   ·exact ih t (by simp[ht])
theorem Vz{a:By}(h:∀x∈a,x≠126)(l:By):ZA (a++l)=(ZA l).map (a ++ ·):=by
 induction a with
 | nil=>show ZA l=_;cases ZA l<;>rfl
 | cons c r ih=>
  show ZA (c::(r++l))=_;rw[F6,if_neg (h c (by simp)),ih fun x hx=>h x (by simp[hx])];cases ZA l<;>rfl
theorem Xb(n:Nat):∀ (cs:List Nat),cs.length<=n->(∀c∈cs,Sc c) -> ∀k,ZA (cs.flatMap ZY)=some k->Ut k:=by
 induction n with
 | zero=>
  intro cs hl _ k hk;obtain rfl:cs=[]:=Bs (by omega);injection hk with hk;subst hk;exact G5
 | succ n ih=>
  intro cs hl h k hk;cases cs with
  | nil=>injection hk with hk;subst hk;exact G5
  | cons c cs=>
   have hc:=h c (by simp);simp only[AI] at hl;rw[BY] at hk;rcases JW hc 126 (by omega) with⟨rfl,e⟩|⟨qb,e⟩
   ·rw[e] at hk;have hk2:ZA (126::cs.flatMap ZY)=some k:=hk;rw[F6,if_pos rfl] at hk2;cases cs with
    | nil=>cases hk2
    | cons c2 cs=>
     have q5:=h c2 (by simp);have h3:∀c∈cs,Sc c:=fun x hx=>h x (by simp[hx]);simp only[AI] at hl;rw[BY] at hk2;have q6:∀ (z:Nat) (hz:Sc z) (u:By) ,ZA (cs.flatMap ZY)=some u->Ut (ZY z++u):=fun z hz u hu=>Kg hz (ih cs (by omega) h3 u hu);have q4:Sc 126:=CR (by omega);have q7:Sc 47:=CR (by omega);rcases JW q5 48 (by omega) with⟨rfl,e2⟩|⟨q8,e2⟩
     ·rw[e2] at hk2;have q0:(ZA (cs.flatMap ZY)).map (126 :: ·)=some k:=hk2
      cases hu:ZA (cs.flatMap ZY) with
      | none=>rw[hu] at q0;cases q0
      | some u=>
       rw[hu] at q0;injection q0 with q0;subst q0;have:=q6 126 q4 u hu;rw[show ZY 126=[126] from Gm 126 (by omega)] at this;exact this
     ·rcases JW q5 49 (by omega) with⟨rfl,e3⟩|⟨q9,e3⟩
      ·rw[e3] at hk2;have q0:(ZA (cs.flatMap ZY)).map (47 :: ·)=some k:=hk2
       cases hu:ZA (cs.flatMap ZY) with
       | none=>rw[hu] at q0;cases q0
       | some u=>
        rw[hu] at q0;injection q0 with q0;subst q0;have:=q6 47 q7 u hu;rw[show ZY 47=[47] from Gm 47 (by omega)] at this;exact this
      ·obtain⟨x,r,hx⟩:=XR q5;rw[hx] at hk2 e2 e3;have a1:x≠48:=e2 x (by simp);have a2:x≠49:=e3 x (by simp)
       exfalso
       revert hk2
       show (match x::(r++cs.flatMap ZY) with|48::q=>(ZA q).map (126 :: ·)|49::q=>(ZA q).map (47 :: ·)|_=>none)=some k->False
       split
       ·rename_i q hq;injection hq with hq;exact absurd hq a1
       ·rename_i q hq;injection hq with hq;exact absurd hq a2
       ·intro h;cases h
   ·have e4:∀x∈ZY c,x≠(126:UInt8):=e;rw[Vz e4] at hk;cases hu:ZA (cs.flatMap ZY) with
    | none=>rw[hu] at hk;cases hk
    | some u=>
     rw[hu] at hk;injection hk with hk;subst hk;exact Kg hc (ih cs (by omega) (fun x hx=>h x (by simp[hx])) u hu)
theorem Lm:∀ (ts ks:List By),(∀t∈ts,Ut t)->Z8 ts=some ks -> ∀k∈ks,Ut k
 | [],ks,_,h,k,hk=>by injection h with h;subst h;cases hk
 | t::r,ks,ht,h,k,hk=>by
  unfold Z8 at h;split at h
  ·cases h
  ·rename_i k1 q0;cases hr:Z8 r with
   | none=>rw[hr] at h;cases h
   | some q5=>
    rw[hr] at h;injection h with h;subst h;rcases A5.1 hk with rfl|hk
    ·obtain⟨cs,h1,rfl⟩:=ht t (by simp);exact Xb cs.length cs (AT _) h1 _ q0
    ·exact Lm r q5 (fun t q4=>ht t (by simp[q4])) hr k hk
theorem VD(hl:Ut l)(h:ZW l=some ks):∀k∈ks,Ut k:=by
 obtain⟨cs,h1,rfl⟩:=hl;have h2:=Rp cs h1;unfold ZW at h;split at h
 ·split at h
  ·rename_i r hp;rw[hp] at h2;exact Lm r ks (fun t ht=>h2 t (by simp[ht])) h
  ·cases h
 ·cases h
theorem VE(hl:Ut l)(hn:l.length<=100000)(h:ZW l=some ks):Z2 ks:=⟨AS (Tw h) hn,VD hl h⟩
theorem Hw{nm:By}{hv hf:Bool}{k:Nat}(h:Gf nm hv hf=some k):k<6/\((k=0\/k=2\/k=5)->hv=true)/\((k=3\/k=4)->hf=true):=by
 unfold Gf at h
 grind
theorem UD(c:UInt8):1<=(DP c).length:=by
 grind [DP]
theorem Ph:∀s:By,s.length<=(CO s).length
 | []=>AT _
 | c::r=>by
  have h1:=UD c;have h2:=Ph r
  grind [CO,C1,AI]
theorem E5(s:By):s.length<=(Ag s).length:=by
 have:=Ph s
 grind [Ag]
theorem Xg{f:Nat}{s:By}:s.length<=(Zm (f+1) (Aq s)).length:=by rw[KC];exact E5 s
theorem UG{f:Nat}{es:List To}:es.length<=(Zm (f+1) (Ap es)).length /\ ∀e∈es,(Zm f e).length<=(Zm (f+1) (Ap es)).length:=by
 have h2:(es.map fun e=>(Zm f e).length+1).sum<=(Ax (es.map (Zm f))).length+1:=by
  have h2:=GI (es.map (Zm f));rw[List.map_map] at h2;exact h2
 have h3:∀l:List To,l.length<=(l.map fun e=>(Zm f e).length+1).sum /\ ∀e∈l,(Zm f e).length<=(l.map fun e=>(Zm f e).length+1).sum:=fun l=>by
  induction l with
  | nil=>grind
  | cons a r ih=>
   grind
 obtain⟨h4,h5⟩:=h3 es;rw[Dj];simp only[AI,C1,DD];exact⟨by omega,fun e he=>by have:=h5 e he;omega⟩
theorem RK{d y:To}{k:By}(h:A0 d k=some y):AF d k=.ok y:=by
 unfold A0 at h
 grind [A0,AF]
section
variable{d x:Int}{f:Nat}{Zg:Int}{q y:To}{k:By}
theorem RJ(h:Zl d x (f+1) Zg q)(hm:A0 q k=some y):Zl d x f (Zg+1) y/\(Zm f y).length<=(Zm (f+1) q).length:=Nh h (RK hm)
theorem V0{s:By}{o:Option To}(h:B7 o=some s):o=some (Aq s):=by
 unfold B7 at h;split at h
 ·injection h with h;subst h;rfl
 ·cases h
theorem Q6{s:By}(h:Zl d x (f+1) Zg q)(hm:B7 (A0 q k)=some s):Ut s/\s.length<=(Zm (f+1) q).length:=by
 obtain⟨h1,h2⟩:=RJ h (V0 hm);cases f with
 | zero=>exact h1.elim
 | succ f=>
  refine⟨?_,AS Xg h2⟩;obtain⟨_,h1⟩:=h1;rcases h1 with⟨k,_,e⟩|⟨s',hs,e⟩|⟨n,_,_,_,e⟩|⟨es,_,e⟩|⟨es,_,_,e⟩
  ·cases e
  ·cases e;exact hs
  ·cases e
  ·cases e
  ·cases e
theorem Rl{p:List By}(h:Zl d x (f+1) Zg q)(hl:(Zm (f+1) q).length<=100000)(hm:Cf (A0 q k)=some p):Z2 p:=by
 unfold Cf at hm;split at hm
 ·rename_i s hs;obtain⟨h1,h2⟩:=Q6 h hs;exact VE h1 (by omega) hm
 ·cases hm
theorem Ww(h:Zl (d+2) x (f+2) 2 q)(hl:(Zm (f+2) q).length<=80000)(hf:f+2<=top)(hd:d<=400)(hm:Dz q=some o):bN (d+2) x 200000 o:=by
 have q5:(Zm (f+1+1) q).length<=80000:=hl;unfold Dz at hm;split at hm
 ·cases hm
 ·rename_i p hp;split at hm
  ·cases hm
  ·rename_i k hk;injection hm with hm;subst hm;obtain⟨k1,k2,k3⟩:=Hw hk;refine⟨Rl h (by omega) hp,fun h3=>?_,fun h3=>?_⟩
   ·have h4:=k3 h3;cases hq:Cf (A0 q Ex) with
    | none=>rw[hq] at h4;cases h4
    | some u=>exact Rl h (by omega) hq
   ·have h4:=k2 h3;cases hq:A0 q Ba with
    | none=>rw[hq] at h4;cases h4
    | some u=>
     obtain⟨h5,h6⟩:=RJ h hq;have h7:=Fp (s:=-2) h5;have h8:Zl d x (f+1) 1 u:=by
      have e1:d+2 + -2=d:=by omega
      have e2:(2:Int)+1 + -2=1:=by omega
      rw[e1,e2] at h7;exact h7
     have h9:=CE (D:=d+2) (by omega) h8;have q0:Zl (d+2) x top 1 u:=Co h9 (by unfold top;omega);refine⟨q0,by omega,?_⟩;have q4:=(BX h8).2;show Zh top u<=200000;rw[EZ h8 (by omega)];omega
theorem M7:∀ {es:List To} {i:Nat} {l:List ZT},(∀q∈es,Zl (d+2) x (f+2) 2 q/\(Zm (f+2) q).length<=80000)->f+2<=top->d<=400->CC i es=.ok l->l.length=es.length /\ ∀o∈l,bN (d+2) x 200000 o
 | [],i,l,_,_,_,h=>by injection h with h;subst h;exact⟨rfl,fun o ho=>by cases ho⟩
 | q::r,i,l,hq,hf,hd,h=>by
  unfold CC at h;split at h
  ·cases h
  ·rename_i o ho;split at h
   ·rename_i l' q0;injection h with h;subst h;obtain⟨h1,h2⟩:=M7 (fun q' q5=>hq q' (by simp[q5])) hf hd q0;obtain⟨h3,h4⟩:=hq q (by simp);exact⟨by simp[h1],fun o' q4=>(A5.1 q4).elim (fun e=>e▸Ww h3 h4 hf hd ho) (h2 o')⟩
   ·cases h
end
theorem ME{d x:Int}{p:To}(hg:Zl (d+2) x top 1 p)(hl:(Zm top p).length<=80000):∀es y,p=.slice es y->es.length<=80000 /\ ∀q∈es,Zl (d+2) x (top-1) 2 q/\(Zm (top-1) q).length<=80000:=by
 intro es y e;obtain⟨_,hg⟩:=hg;rcases hg with⟨k,_,e1⟩|⟨s',hs,e1⟩|⟨n,_,_,_,e1⟩|⟨es',h,e1⟩|⟨es',_,_,e1⟩
 ·rw[e1] at e;cases e
 ·rw[e1] at e;cases e
 ·rw[e1] at e;cases e
 ·rw[e1] at e;cases e;subst e1;obtain⟨h1,h2⟩:=UG (f:=top-1) (es:=es);have h3:(Zm (top-1+1) (Ap es)).length<=80000:=hl;exact⟨by omega,fun q hq=>⟨h q hq,by grind⟩⟩
 ·rw[e1] at e;cases e
theorem TL{d x:Int}{p:To}{l:List ZT}(hg:Zl (d+2) x top 1 p)(hl:(Zm top p).length<=80000)(hd:d<=400)(h:Eu p=.ok l):l.length<=80000 /\ ∀o∈l,bN (d+2) x 200000 o:=by
 have hb:=ME hg hl;unfold Eu at h;split at h
 ·rename_i es y;obtain⟨h1,h2⟩:=hb es y rfl;obtain⟨h3,h4⟩:=M7 (f:=top-3) h2 (by unfold top;omega) hd h
  grind
 ·cases h
theorem Rm{d x:Int}{p:To}(hg:Zl (d+2) x top 1 p)(hl:(Zm top p).length<=80000):∀es y,p=.slice es y->es.length<=400000000 /\ ∀q∈es,∀k s,B7 (A0 q k)=some s->s.length<=1048576:=by
 intro es y e;obtain⟨h1,h2⟩:=ME hg hl es y e;refine⟨by omega,fun q hq k s hs=>?_⟩;obtain⟨h3,h4⟩:=h2 q hq;have:=(Q6 (f:=top-2) h3 hs).2;have h5:(Zm (top-2+1) q).length<=80000:=h4;omega
theorem BR{P:Program}{w:CD}{ops:Array Oper}{rest:List Oper}{o:Oper}{a:Act}{Q:Exit->Act->CD->Prop}(hg:o.guard=none)(m x:Operand)(t:TypeId)(c:Bool)(q5:o.op=Op.lookup t m x c)(mv key r:F2)(hm:a.eval m=mv)(hx:a.eval x=key)(q0:(Instr.lookup t mv key c).run P w=.ok r w)(hK:wpList P ops Q rest (a.put o.dst r) w):wpList P ops Q (o::rest) a w:=by
 refine wpList_plain hg fun K' q4=>?_;unfold Oper.wp;simp[execOp,q5,hm,hx,q0,Result.andThen];exact q4 _ _ hK
theorem OG{w:CD}{G:Nat->Prop}{v:F2}{l:List By}(h:CI w v l)(hg:∀g,v.ownBlock=some g->G g):Au w G v l:=by
 rcases h with h|⟨g,o,cap,rfl,h2,h3,h4⟩
 ·exact CR h
 ·exact Ft ⟨g,o,cap,rfl,h2,h3,hg g rfl,h4⟩
theorem EY{w:CD}{G:Nat->Prop}{v:F2}{l:List By}(h:Au w G v l):∃a n c,v=.slice a n c:=by
 rcases h with⟨_,a,c,rfl,_⟩|⟨g,o,cap,rfl,_⟩
 ·exact⟨_,_,_,rfl⟩
 ·exact⟨_,_,_,rfl⟩
theorem OpB.fz{w:CD}{q k:Nat}{pa fa y:Option Addr}{pl pc fl fc:Nat}(h:OpB w q k pa pl pc fa fl fc y)(i:Nat):w.frozen? ⟨q,i,none⟩=false:=Lib.frozen_of_heap h i
def E9(F:Nat->Prop)(d:To)(w:CD)(e:Ending)(w':CD):Prop:=match Dz d with
 | none=>e=.returned (.tuple #[opV 0 none 0 0 none 0 0 none,.bool false])
 | some o=>∃pa pl pc fa fl fc y,e=.returned (.tuple #[opV o.1 pa pl pc fa fl fc y,.bool true])/\GR w' (fun k=>(F k/\k<w.heap.size)\/w.heap.size<k) o pa pl pc fa fl fc y
theorem N3{W:CD}{q:Nat}(a b c d:F2)(k:Nat)(hk:k≠q):((((W.setCell ⟨q,0,none⟩ a).setCell ⟨q,1,none⟩ b).setCell ⟨q,2,none⟩ c).setCell ⟨q,3,none⟩ d).heap[k]? = W.heap[k]? :=
 (A3 _ _ _ _ hk).trans ((A3 _ _ _ _ hk).trans ((A3 _ _ _ _ hk).trans (A3 _ _ _ _ hk)))
theorem FT{B q:Nat}{w W:CD}(h:D1 B w W)(hq:B<=q)(a b c d:F2):D1 B w ((((W.setCell ⟨q,0,none⟩ a).setCell ⟨q,1,none⟩ b).setCell ⟨q,2,none⟩ c).setCell ⟨q,3,none⟩ d):=
 (((h.setCell (p:=⟨q,0,none⟩) hq _).setCell (p:=⟨q,1,none⟩) hq _).setCell (p:=⟨q,2,none⟩) hq _).setCell (p:=⟨q,3,none⟩) hq _
section
variable{f:Nat}{F:Nat->Prop}{w:CD}{v:F2}{d:To}{m:Nat}
theorem Uo(h:Rep (f+1) F w v d)(hf:f<=top)(hs:∀k s,B7 (A0 d k)=some s->s.length<=1048576)(hm:w.ownsMap Tryz.prog 219 KE m 6 (nD 6))(hT:Af w):
  Calls Tryz.prog 115 #[.map (some m),v] w fun e w'=>E9 F d w e w'/\D1 w.heap.size w w':=by
 obtain⟨b,n,x,s,sl,mv,rfl,hv,hk⟩:=Mz h;obtain⟨y1,r1,l1⟩:=hk Bc (by decide);obtain⟨y2,r2,l2⟩:=hk Ex (by decide);obtain⟨y3,r3,l3⟩:=hk Ba (by decide);obtain⟨y4,r4,l4⟩:=hk ZP (by decide);have z1:=hv.lt;have zo:m<w.heap.size:=by obtain⟨es,zk,hb,_⟩:=hm;exact (Array.getElem?_eq_some_iff.1 hb).1
 obtain⟨W0,q9⟩:∃W0,W0=w.alloc (.cells #[.int .i64 0,.slice none 0 0,.slice none 0 0,.pointer none] 178):=⟨_,rfl⟩
 have q6:D1 w.heap.size w W0:=by rw[q9];exact (Below.refl _ _).alloc (AT _) _
 have qr:W0.heap.size=w.heap.size+1:=by rw[q9];simp
 have z7:OpB W0 w.heap.size 0 none 0 0 none 0 0 none:=by rw[q9];exact heap_alloc_new w _
 obtain⟨q,hq⟩:∃q,q=w.heap.size:=⟨_,rfl⟩
 rw[<- hq] at q6 qr z7;have HV:=Ab hv;have za:=Ab q6;have qn:=Ab qr;have zw:=Ab z7;have qw:=Ab (hT.below (q6.mono (by rw[hq];exact hT.ng)));have H1:=Ab (r1.bel (hq▸q6));have zu:=Ab (OU (r1.bel (hq▸q6)) (fun s' z8=>hs _ s' z8) (Aa qw));have R2:=Ab r2;have R3:=Ab r3;have R4:=Ab r4;have L1:=Ab (fun w' (hb:D1 q w w')=>(l1 w' (hq▸hb)).2);have L2:=Ab (fun w' (hb:D1 q w w')=>(l2 w' (hq▸hb)).2);have L3:=Ab (fun w' (hb:D1 q w w')=>(l3 w' (hq▸hb)).1);have L4:=Ab (fun w' (hb:D1 q w w')=>(l4 w' (hq▸hb)).2);have HM:=Ab hm;have zt:=Ab zo;have HQ:=Ab hq;have zi:=Ab q9;have zh:=Ab hs;have zb:=Ab z1;have qx:=(hv.kept (q6.block b (by rw[hq];exact z1))).c6;obtain⟨p1,rfl⟩:=r1.ptr;obtain⟨p2,rfl⟩:=r2.ptr;obtain⟨p3,rfl⟩:=r3.ptr;obtain⟨p4,rfl⟩:=r4.ptr;obtain⟨E,hE⟩:∃E,E=E9 F d w:=⟨_,rfl⟩
 rw[<- hE];have HE:=Ab hE;clear hE;rw[<- Aa HQ];rw[q9] at qx;have c6:=qx;clear h hk hs hm hT r1 r2 r3 r4 l1 l2 l3 l4 hv z1 zo q6 qr z7 hq q9 qx
 go_enter func115,ntmps115
 go_wp2_with (first|(at_lookup;refine BR rfl _ _ 109 false rfl _ _ _ rfl rfl (Aa L1 _ (Aa zi▸Aa za)) ?_))
 rw[<- Aa zi,<- Aa HQ];have qv:=Ab (show q<=W0.heap.size by have:=Aa qn;omega);refine (Aa zu).mono ?_;rintro e W1 ⟨qp,hb1⟩;have qd:=Ab ((Aa za).trans (hb1.mono (Aa qv)));have q4:OpB W1 q 0 none 0 0 none 0 0 none:=(hb1.block q (by have:=Aa qn;omega)).trans (Aa zw);have qo:=Ab hb1.size;cases hpp:Cf (A0 d Bc) with
 | none=>
  rw[hpp] at qp;obtain rfl:e=.returned (.tuple #[.slice none 0 0,.bool false]):=qp;have g0:=q4.c0;have g1:=q4.c1;have g2:=q4.c2;have g3:=q4.c3;have z:=q4.fz;have qg:=Ab (show Dz d=none by unfold Dz;rw[hpp]);clear hb1 q4 hpp c6
  go_wp2_with (fail);refine C2 (v:=.tuple #[opV 0 none 0 0 none 0 0 none,.bool false]) (by simp[results,results115,go_sem,g0,g1,g2,g3]) rfl ?_
  refine⟨?_,FT (Aa qd) (AT _) _ _ _ _⟩;rw[Aa HE,E9,Aa qg]
 | some p=>
  rw[hpp] at qp;obtain⟨u,rfl,zq,zn⟩:=qp;have qh:=Ab (OG zq (G:=fun k=>W0.heap.size<=k) zn);obtain⟨pa,pl,pc,rfl⟩:=EY (Aa qh);have zy:=((Aa HV).kept ((Aa qd).block b (by have:=Aa zb;have:=Aa HQ;omega))).c6;have qy:Af W1:=(Aa qw).below (hb1.mono (Aa qw).ng);have y6:=Ab qy;have zx:=Ab q4;have zv:=Ab (OU ((Aa R2).bel (Aa HQ▸Aa qd)) (fun s' z8=>Aa zh _ s' z8) qy);have zf:=Ab hpp;clear zq zn hpp c6 hb1 q4 qy
  go_wp2_with (first|(at_lookup;refine BR rfl _ _ 109 false rfl _ _ _ rfl rfl (Aa L2 _ (Aa qd)) ?_))
  refine (Aa zv).mono ?_;rintro e W2 ⟨qj,hb2⟩;obtain⟨fa,fl,fc,rfl,zm⟩:∃fa fl fc,e=.returned (.tuple #[.slice fa fl fc,.bool (Cf (A0 d Ex)).isSome]) /\ ∀t,Cf (A0 d Ex)=some t->Au W2 (fun k=>W1.heap.size<=k) (.slice fa fl fc) t:=by
   cases hf2:Cf (A0 d Ex) with
   | none=>
    rw[hf2] at qj;exact⟨none,0,0,qj,fun t h=>by cases h⟩
   | some t2=>
    rw[hf2] at qj;obtain⟨u,rfl,y5,zz⟩:=qj;have qk:=OG y5 (G:=fun k=>W1.heap.size<=k) zz;obtain⟨fa,fl,fc,rfl⟩:=EY qk;exact⟨fa,fl,fc,rfl,fun t h=>by injection h with h;subst h;exact qk⟩
  have zr:=Ab zm;have qi:q<=W1.heap.size:=AS (Aa qv) (Aa qo);have q8:=Ab ((Aa qd).trans (hb2.mono qi));have q5:=Ab hb2;have y8:=((Aa HV).kept ((Aa q8).block b (by have:=Aa zb;have:=Aa HQ;omega))).c6;have zc:=Hv (Aa HM) ((Aa q8).block m (by have:=Aa zt;have:=Aa HQ;omega));have qf:=Ab (OM ((Aa R4).bel (Aa HQ▸Aa q8)));have zg:=Ab (show OpB W2 q 0 none 0 0 none 0 0 none from (hb2.block q (by have:=Aa qo;have:=Aa qn;omega)).trans (Aa zx));obtain⟨bf,qz⟩:∃bf,bf=(Cf (A0 d Ex)).isSome:=⟨_,rfl⟩
  obtain⟨bv,z6⟩:∃bv,bv=(A0 d Ba).isSome:=⟨_,rfl⟩
  obtain⟨nm,qq⟩:∃nm,nm=(B7 (A0 d ZP)).getD []:=⟨_,rfl⟩
  have hnl:nm.length<=1048576:=by
   rw[qq];cases h:B7 (A0 d ZP) with
   | none=>simp
   | some s'=>exact Aa zh _ s' h
  have HF:=Ab (Ux zc (x:=(nm,bv,bf)) hnl);rw[dR] at HF;unfold nv at HF;simp only at HF;unfold PA at qf;rw[<- qq] at qf;obtain⟨b4,zl⟩:∃b4,b4=(B7 (A0 d ZP)).isSome:=⟨_,rfl⟩
  rw[<- zl] at qf;rw[<- qz];have zj:=Ab (Aa L3 _ (Aa q8));rw[<- z6] at zj;have qt:=Ab qz;have qu:=Ab z6;have ze:=Ab qq;clear qj zm hb2 qi zc qz z6 qq hnl zl zy
  go_wp2_with (first|(at_lookup;refine BR rfl _ _ 109 true rfl _ _ _ rfl rfl (Aa zj) ?_)|(at_lookup;refine BR rfl _ _ 109 false rfl _ _ _ rfl rfl (Aa L4 _ (Aa q8)) ?_))
  refine (Aa qf).mono ?_;rintro e y7 ⟨rfl,rfl⟩
  go_wp2_with (fail);refine (Aa HF).mono ?_
  rintro e W3 ⟨rfl,hb3⟩;have qb:OpB W3 q 0 none 0 0 none 0 0 none:=(hb3.block q (Aa zg).lt).trans (Aa zg);have qm:=Ab ((Aa q8).trans (hb3.mono (AS (AS (Aa qv) (Aa qo)) (Aa q5).size)));have qe:=Ab hb3;have g0:=qb.c0;have g1:=qb.c1;have g2:=qb.c2;have g3:=qb.c3;have z:=qb.fz;clear qb hb3 HF qf;unfold L5;cases hkk:Gf nm bv bf with
  | none=>
   simp only[Option.getD_none,Option.isSome_none];have qg:=Ab (show Dz d=none by unfold Dz;rw[Aa zf];simp only;rw[<- Aa qt,<- Aa qu,<- Aa ze,hkk]);clear hkk
   go_wp2_with (fail);refine C2 (v:=.tuple #[opV 0 none 0 0 none 0 0 none,.bool false]) (by simp[results,results115,go_sem,g0,g1,g2,g3]) rfl ?_
   refine⟨?_,FT (Aa qm) (AT _) _ _ _ _⟩;rw[Aa HE,E9,Aa qg]
  | some k=>
   simp only[Option.getD_some,Option.isSome_some];have qg:=Ab (show Dz d=some (k,p,(Cf (A0 d Ex)).getD [],(A0 d Ba).getD .nil) by unfold Dz;rw[Aa zf];simp only;rw[<- Aa qt,<- Aa qu,<- Aa ze,hkk]);have zs:=Ab hkk;clear hkk
   go_wp2_with (fail);refine C2 (v:=.tuple #[opV k pa pl pc fa fl fc p3,.bool true]) (by simp[results,results115,go_sem,g0,g1,g2,g3]) rfl ?_
   refine⟨?_,FT (Aa qm) (AT _) _ _ _ _⟩;rw[Aa HE,E9,Aa qg];obtain⟨k1,k2,k3⟩:=Hw (Aa zs);have qr:=Aa qn;have y9:=Aa qo;have hs2:=(Aa q5).size;have hQ:=Aa HQ;have q7:∀j,j<W3.heap.size->j≠q -> ∀a b c d',(((((W3.setCell ⟨q,0,none⟩ a).setCell ⟨q,1,none⟩ b).setCell ⟨q,2,none⟩ c).setCell ⟨q,3,none⟩ d').heap[j]? = W3.heap[j]?):=fun j _ hj a b c d'=>N3 a b c d' j hj;refine⟨pa,pl,pc,fa,fl,fc,p3,rfl,k1,?_,fun h3=>?_,fun h3=>?_⟩
   ·refine ((Aa qh).move (w':=W3) (G':=fun j=>W0.heap.size<=j) fun j hj q0=>⟨?_,hj⟩).move fun j hj q0=>⟨q7 j q0 (by omega) _ _ _ _,Ft (by omega)⟩
    exact ((Aa qe).block j (by omega)).trans ((Aa q5).block j q0)
   ·have h4:=k3 h3;cases hq:Cf (A0 d Ex) with
    | none=>have h5:=Aa qt;rw[hq,h4] at h5;cases h5
    | some t2=>
     refine ((Aa zr t2 hq).move (w':=W3) (G':=fun j=>W1.heap.size<=j) fun j hj q0=>⟨(Aa qe).block j q0,hj⟩).move fun j hj q0=>⟨q7 j q0 (by omega) _ _ _ _,Ft (by omega)⟩
   ·have h4:=k2 h3;cases hq:A0 d Ba with
    | none=>have h5:=Aa qu;rw[hq,h4] at h5;cases h5
    | some y=>
     have h6:=Aa R3;rw[hq] at h6;have h7:Rep top F w (.pointer p3) y:=Rep.up h6 hf;exact h7.move fun j hj q0=>⟨(q7 j (by have:=(Aa qm).size;omega) (by omega) _ _ _ _).trans ((Aa qm).block j (by omega)),CR ⟨hj,by omega⟩⟩
end
def lst(x y z:Nat):Array Bool:=#[decide (1<=x),decide (1<=y),decide (2<=y),decide (3<=y),decide (4<=y),decide (1<=z),decide (2<=z),decide (3<=z),false,false,false,false]
def rdy(x y z:Nat):List Nat:=(if x<1 then [0] else [])++((if y<4 then [1+y] else [])++(if z<3 then [5+z] else []))
def Lp(ops:Array Oper):Bool:=(D2 2).all fun x=>(D2 5).all fun y=>(D2 4).all fun z=>(y==4 && z==3) || (F1 .any ops (lst x y z)==rdy x y z)
theorem Yy(y z:Nat):(lst 0 y z).setIfInBounds 0 true=lst 1 y z:=rfl
theorem Yx{x y z:Nat}(h:y<4):(lst x y z).setIfInBounds (1+y) true=lst x (y+1) z:=by
 match y,h with
 | 0,_=>rfl
 | 1,_=>rfl
 | 2,_=>rfl
 | 3,_=>rfl
theorem Yw{x y z:Nat}(h:z<3):(lst x y z).setIfInBounds (5+z) true=lst x y (z+1):=by
 match z,h with
 | 0,_=>rfl
 | 1,_=>rfl
 | 2,_=>rfl
theorem WO{F:Fence}{n:Nat}{P:Program}{ops:Array Oper}{Q:Exit->Act->CD->Prop}(A:Nat->Nat->Nat->Act)(W:Nat->CD)(hd:Lp ops=true)(h0:∀y z (K:Act->CD->Prop),y<=4->z<=3->K (A 1 y z) (W z)->wpOpIn F n P ops Q 0 K (A 0 y z) (W z))(h1:∀x y z (K:Act->CD->Prop),x<=1->y<4->z<=3->K (A x (y+1) z) (W z)->wpOpIn F n P ops Q (1+y) K (A x y z) (W z))(h5:∀x y z (K:Act->CD->Prop),x<=1->y<=4->z<3->K (A x y (z+1)) (W (z+1))->wpOpIn F n P ops Q (5+z) K (A x y z) (W z))(hl:D0 F n P .any ops Q 4 (lst 1 4 3) (A 1 4 3) (W 3))(hl0:D0 F n P .any ops Q 4 (lst 1 4 3) (A 1 4 3) (W 3)->D0 F n P .any ops Q 5 (lst 0 4 3) (A 0 4 3) (W 3)):D0 F n P .any ops Q 12 (lst 0 0 0) (A 0 0 0) (W 0):=by
 suffices H:∀m x y z,x<=1->y<=4->z<=3->x+y+z+m=8->D0 F n P .any ops Q (m+4) (lst x y z) (A x y z) (W z) from (by grind)
 intro m;induction m with
 | zero=>
  intro x y z hx hy hz e;obtain rfl:x=1:=by omega
  obtain rfl:y=4:=by omega
  obtain rfl:z=3:=by omega
  exact hl
 | succ m ih=>
  intro x y z hx hy hz e;by_cases q5:y=4/\z=3
  ·obtain⟨rfl,rfl⟩:=q5;obtain rfl:x=0:=by omega
   obtain rfl:m=0:=by omega
   exact hl0 hl
  have hr:F1 .any ops (lst x y z)=rdy x y z:=by
   unfold Lp at hd;have h2:=Dt.1 hd x (by simp;omega);have h3:=Dt.1 h2 y (by simp;omega)
   grind
  have q4:rdy x y z≠[]:=by
   unfold rdy;intro h;rw[CH,CH] at h
   grind
  have e4:m+1+4=(m+4)+1:=by omega
  rw[e4];refine wpAnyIn_ready hr q4 ?_;intro i hi;unfold rdy at hi;rcases CL.1 hi with hi|hi
  ·split at hi
   ·obtain rfl:i=0:=by grind
    obtain rfl:x=0:=by omega
    refine h0 y z _ hy hz ?_;rw[Yy];exact (by grind)
   ·cases hi
  ·rcases CL.1 hi with hi|hi
   ·split at hi
    ·rename_i q0;obtain rfl:i=1+y:=by grind
     refine h1 x y z _ hx q0 hz ?_;rw[Yx q0];exact (by grind)
    ·cases hi
   ·split at hi
    ·rename_i hz3;obtain rfl:i=5+z:=by grind
     refine h5 x y z _ hx hy hz3 ?_;rw[Yw hz3];exact (by grind)
    ·cases hi
end Go.Proofs.YtdpomdelmdofmaaGreatDoor
