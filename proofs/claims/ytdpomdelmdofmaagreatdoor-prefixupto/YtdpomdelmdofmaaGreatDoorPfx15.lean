import Derived.Test.YtdpomdelmdofmaaGreatDoorPfx14
import Derived.Maps.Range
open Or renaming inr->AI,inl->CH
open Array renaming getElem?_eq_some_iff->AS,getElem?_push->Dp,getElem?_eq_getElem->DD,size_push->D1
open Nat renaming le_refl->AT,zero_lt_one->F1
open Go.World renaming cell?->A1,frozen?->G1,setCell->G2
open Go renaming Value->A2,World->A4,Calls->D3
open Option renaming map_eq_some_iff->A3
open Go.DataW renaming agg->A5
open Go.RowKit.Below renaming heap_setCell->A6,refl->G0
open Go.Proofs.Tryz renaming prog->Bs
open List renaming mem_map_of_mem->BY,mem_cons->CD,mem_append_right->CL,mem_of_getElem?->C1,map_congr_left->C2,length_append->Dt,length_cons->D0,mem_cons_of_mem->D2,getElem?_map->E0,nodup_cons->F2,map_map->G3
open Go.RowKit renaming Below->CR
open Except renaming error->Ft
open List.Perm renaming refl->F5
open Prod renaming snd->HA
set_option maxHeartbeats 4000000
namespace Go.Proofs.YtdpomdelmdofmaaGreatDoor
open Go.Proofs.Tryz Go.RowKit Go.Maps
variable{i f g B D R S:Nat}{a n c T:Zf}{p:List Nat}{F G G' F':Nat->Prop}{w w':A4}{v u sl sl' mp q0 iv wp jn:A2}{e d:Int}{xs:List A2}{n':Nm}{s s':By}{l:List By}{ch:Bool}{x:To}
def Zo:List Nat->Zf->Option Zf
 | [],a=>some a
 | i::r,a=>match (AH a)[i]? with
  | some c=>Zo r c
  | none=>none
def Zs:List Nat->Zf->Zf->Zf
 | [],n,_=>n
 | i::r,n,a=>match (AH a)[i]? with
  | some c=>Z6 a i (Zs r n c)
  | none=>a
theorem Ce{r:List Nat}(h:Zo (i::r) a=some n):∃c,(AH a)[i]? = some c/\Zo r c=some n:=by
 grind [Zo]
theorem BE{r:List Nat}(n:Zf)(h:(AH a)[i]? = some c):Zs (i::r) n a=Z6 a i (Zs r n c):=by
 rw[Zs,h]
theorem FK(h:(AH a)[i]? = some c):(∃k b l g al x,a=.agg [.lit (.int k b),.lit (.int l g),.slice al x]/\al[i]? = some c)\/(∃k b l g es key,a=.agg [.lit (.int k b),.lit (.int l g),.map es]/\es[i]? = some (key,c)):=by
 unfold AH at h
 grind
theorem Se(h:(AH a)[i]? = some c):∃rest,(fp (f+1) a).Perm (rest++fp f c) /\ ∀c',(fp (f+1) (Z6 a i c')).Perm (rest++fp f c'):=by
 rcases FK h with⟨k,b,l,g,al,x,rfl,h7⟩|⟨k,b,l,g,es,key,rfl,h7⟩
 ·obtain⟨l1,l2,rfl,hl⟩:=CN (fp f) al i c h7;have e (y:List Zf) (z:List Zf):fp (f+1) (.agg [.lit (.int k b),.lit (.int l g),.slice y z])=b.toNat::((if g=0 then [] else [g.toNat])++y.flatMap (fp f)):=rfl;have p (c':Zf):(b.toNat::((if g=0 then [] else [g.toNat])++(l1++c'::l2).flatMap (fp f))).Perm ((b.toNat::((if g=0 then [] else [g.toNat])++(l1.flatMap (fp f)++l2.flatMap (fp f))))++fp f c'):=by
   grind
  refine⟨_,by rw[e];exact p c,fun c'=>?_⟩;have e2:Z6 (.agg [.lit (.int k b),.lit (.int l g),.slice (l1++c::l2) x]) i c'=.agg [.lit (.int k b),.lit (.int l g),.slice (l1++c'::l2) []]:=by
   show A5 [.lit (.int k b),.lit (.int l g),.slice ((l1++c::l2).set i c') []]=_
   grind
  grind
 ·obtain⟨l1,l2,rfl,hl⟩:=CN (fun p=>fp f p.2) es i (key,c) h7;have e (y:List (Lit×Zf)):fp (f+1) (.agg [.lit (.int k b),.lit (.int l g),.map y])=b.toNat::g.toNat::y.flatMap (fun p=>fp f p.2):=rfl;have p (c':Zf):(b.toNat::g.toNat::(l1++(key,c')::l2).flatMap (fun p=>fp f p.2)).Perm ((b.toNat::g.toNat::(l1.flatMap (fun p=>fp f p.2)++l2.flatMap (fun p=>fp f p.2)))++fp f c'):=by
   grind
  refine⟨_,by rw[e];exact p c,fun c'=>?_⟩;have e2:Z6 (.agg [.lit (.int k b),.lit (.int l g),.map (l1++(key,c)::l2)]) i c'=.agg [.lit (.int k b),.lit (.int l g),.map (l1++(key,c')::l2)]:=by
   show A5 [.lit (.int k b),.lit (.int l g),.map ((l1++(key,c)::l2).modify i fun p=>(p.1,c'))]=_;rw[<- hl,EH]
  grind
theorem Gi{f:Nat}:∀ {p:List Nat} {a n:Zf},Zo p a=some n -> ∃rest,(fp (f+p.length) a).Perm (rest++fp f n) /\ ∀n',(fp (f+p.length) (Zs p n' a)).Perm (rest++fp f n')
 | [],a,n,h=>by
  injection h with h;subst h;exact⟨[],F5 _,fun n'=>F5 _⟩
 | i::r,a,n,h=>by
  obtain⟨c,hc,h2⟩:=Ce h;obtain⟨rest,h3,h4⟩:=Gi (f:=f) h2;obtain⟨q0,h5,h6⟩:=Se (f:=f+r.length) hc;refine⟨q0++rest,?_,fun n'=>?_⟩
  ·grind
  ·rw[List.append_assoc,BE n' hc];grind
theorem C0(h:Zo p a=some n):∀k∈fp f n,k∈fp (f+p.length) a:=by
 obtain⟨rest,h1,_⟩:=Gi (f:=f) h
 grind
theorem Bz(h:Zo p a=some n)(hn:(fp (f+p.length) a).Nodup):(fp f n).Nodup:=by
 obtain⟨rest,h1,_⟩:=Gi (f:=f) h
 grind
theorem Ri{n':Zf}(h:Zo p a=some n)(hn:(fp (f+p.length) a).Nodup)(q0:(fp f n').Nodup)(hd:∀k∈fp f n',k∈fp (f+p.length) a->k∈fp f n):(fp (f+p.length) (Zs p n' a)).Nodup:=by
 obtain⟨rest,h1,h2⟩:=Gi (f:=f) h
 grind
theorem Xm{n':Zf}(h:Zo p a=some n):∀k∈fp (f+p.length) (Zs p n' a),k∈fp (f+p.length) a\/k∈fp f n':=by
 obtain⟨rest,h1,h2⟩:=Gi (f:=f) h
 grind
theorem Ad.at{f:Nat}{w:A4}:∀ {p:List Nat} {v:A2} {a n:Zf},Ad (f+p.length) w v a->Zo p a=some n -> ∃u,Ad f w u n
 | [],v,a,n,h,hs=>by
  injection hs with hs
  grind
 | i::r,v,a,n,h,hs=>by
  obtain⟨c,hc,h2⟩:=Ce hs;obtain⟨b,g,x,rfl,hv,h⟩:=(show Ad ((f+r.length)+1) w v a from h)
  rcases h with⟨k,_,_,rfl,h⟩|⟨n,_,rfl,h,q0⟩|⟨s,_,rfl,h⟩|⟨al,sl,ps,rfl,h,ho,hs,ha⟩|⟨es,n,D,rfl,h,ho,hp⟩
  ·rw[EI] at hc;simp at hc
  ·rw[Fo] at hc;simp at hc
  ·rw[Fm] at hc;simp at hc
  ·rw[BO] at hc;obtain⟨u,hu⟩:=ha.right (C1 hc);exact Ad.at hu h2
  ·rw[Bx,E0] at hc;obtain⟨q,hq,rfl⟩:=A3.1 hc;obtain⟨u,hu⟩:=hp.right (C1 hq);exact Ad.at hu h2
theorem Ad.put{f:Nat}{w w':A4}{n':Zf}:∀ {p:List Nat} {v:A2} {a n:Zf},Ad (f+p.length) w v a->Zo p a=some n->(fp (f+p.length) a).Nodup ->
  (∀k∈fp (f+p.length) a,k ∉ fp f n->w'.heap[k]? = w.heap[k]?)->(∀u,Ad f w u n->Ad f w' u n')->Ad (f+p.length) w' v (Zs p n' a)
 | [],v,a,n,h,hs,_,_,hc=>by
  injection hs with hs;subst hs;exact hc v h
 | i::r,v,a,n,h,hs,hn,hk,hc=>by
  obtain⟨c,q4,h2⟩:=Ce hs;rw[BE n' q4];obtain⟨rest,h5,h6⟩:=Se (f:=f+r.length) q4;have q6:=(List.nodup_append.1 (h5.nodup_iff.1 hn)).2.1;refine Ad.kid (f:=f+r.length) h q4 hn (fun k q0 hk2=>hk k q0 fun q5=>hk2 (C0 h2 k q5)) fun u hu=>?_;exact Ad.put hu h2 q6 (fun k q0 hk2=>hk k (h5.mem_iff.2 (CL _ q0)) hk2) hc
theorem Pc{es:List (Lit×To)}{k:Lit}(hd:es.Pairwise (fun p q=>p.1≠q.1))(hk:∀p∈es,∃s,p.1=.string s)(h:Maps.has (.map es:To) k=true):∃p∈es,p.1=k/\(DataW.map es).atKey k .nil=p.2:=by
 obtain⟨p,hp,hs⟩:=List.any_eq_true.1 (show es.any (fun p=>p.1.sameKey k)=true from h);have e:=WideAt.sameKey_eq hs;obtain⟨s,hs2⟩:=hk p hp;refine⟨p,hp,e,?_⟩;subst e;exact WideAt.atKey_mem .nil (by rw[hs2];trivial) hd (by omega)
theorem Lo{x:By}:∀ {l:List By},x∈l->x.length<=(Ax l).length
 | [],h=>by cases h
 | y::r,h=>by
  have hR:∀ {l:List By},x∈l->x.length<=(BL l).length:=by
   intro l;induction l with
   | nil=>grind
   | cons z s ih=>
    intro h;simp only[BL,D0,Dt]
    grind
  simp only[Ax,Dt]
  grind
theorem Nh{dd xx:Int}{lv:Int}{d e:To}{t:By}(h:Zl dd xx (f+1) lv d)(hc:AF d t=.ok e):Zl dd xx f (lv+1) e/\(Zm f e).length<=(Zm (f+1) d).length:=by
 obtain⟨_,h⟩:=h;rcases h with⟨k,_,rfl⟩|⟨s,_,rfl⟩|⟨n,_,_,_,rfl⟩|⟨es,h,rfl⟩|⟨es,hp,hk,rfl⟩
 ·have:(Ft 11:Except Nat To)=.ok e:=hc;cases this
 ·have:(Ft 11:Except Nat To)=.ok e:=hc;cases this
 ·have:(Ft 11:Except Nat To)=.ok e:=hc;cases this
 ·unfold AF Ap at hc;simp only at hc;split at hc
  ·cases hc
  ·split at hc
   ·rename_i x hx;injection hc with hc;subst hc;have hm:=C1 hx;refine⟨h _ hm,?_⟩;rw[Dj];have:=Lo (BY (f:=Zm f) hm)
    grind
   ·cases hc
 ·have q0:∀p∈es,∃s,p.1=.string s:=by grind
  unfold AF Ay at hc;simp only at hc;split at hc
  ·rename_i hh;obtain⟨p,q4,_,he⟩:=Pc (KV hp q0) q0 hh;injection hc with hc;rw[he] at hc;subst hc;refine⟨(hk p q4).2,?_⟩;rw[IV hp q0];have:=Lo (BY (f:=bH f) q4);simp only[bH,D0,Dt] at this |-;omega
  ·cases hc
theorem Pf{dd xx:Int}:∀ (l:List By) (f:Nat) (lv:Int) (d e:To),Zl dd xx f lv d->Ak d l=.ok e -> ∃f' q0,f'<=f/\Zl dd xx f' q0 e/\(Zm f' e).length<=(Zm f d).length
 | [],f,lv,d,e,h,hf=>by
  grind [Ak,Zl,Zm]
 | t::r,0,lv,d,e,h,hf=>h.elim
 | t::r,f+1,lv,d,e,h,hf=>by
  unfold Ak at hf;split at hf
  ·rename_i e1 h1;obtain⟨a,b⟩:=Nh h h1;obtain⟨f',q0,c1,c2,c3⟩:=Pf r f _ _ _ a hf
   grind
  ·cases hf
theorem Fy{dd xx:Int}:∀ (f g:Nat) (lv:Int) (d:To),Zl dd xx f lv d->f<=g->Zm g d=Zm f d
 | 0,_,_,_,h,_=>h.elim
 | f+1,0,_,_,_,hg=>by omega
 | f+1,g+1,lv,d,h,hg=>by
  obtain⟨_,h⟩:=h;rcases h with⟨k,_,rfl⟩|⟨s,_,rfl⟩|⟨n,_,_,_,rfl⟩|⟨es,h,rfl⟩|⟨es,hp,hk,rfl⟩
  ·rfl
  ·rfl
  ·rfl
  ·rw[Dj,Dj,C2 fun e he=>Fy f g _ e (h e he) (by omega)]
  ·have q0:∀p∈es,∃s,p.1=.string s:=fun p q4=>by grind
   rw[IV hp q0,IV hp q0,C2 fun p q4=>show bH g p=bH f p by unfold bH;rw[Fy f g _ p.2 (hk p q4).2 (by omega)]]
theorem Rep.up1:∀ {f:Nat} {F:Nat->Prop} {w:A4} {v:A2} {d:To},Rep f F w v d->Rep (f+1) F w v d:=by
 intro f;induction f with
 | zero=>intro F w v d h;exact h.elim
 | succ f ih=>
  intro F w v d h;obtain⟨b,hv,hb,h⟩:=h;rcases h with h|h|h|⟨es,sl,ps,hd,h,ho,hs,ha⟩|⟨es,m,n,D,hd,h,hm,ho,hp⟩
  ·exact⟨b,hv,hb,CH h⟩
  ·exact⟨b,hv,hb,AI (CH h)⟩
  ·exact⟨b,hv,hb,by grind⟩
  ·exact⟨b,hv,hb,AI (AI (AI (CH ⟨es,sl,ps,hd,h,ho,hs,ha.mono fun _ _ h=>ih h⟩)))⟩
  ·exact⟨b,hv,hb,AI (AI (AI (AI ⟨es,m,n,D,hd,h,hm,ho,hp.mono fun _ _ h=>ih h⟩)))⟩
theorem Rep.up{d:To}(h:Rep f F w v d)(hg:f<=g):Rep g F w v d:=by
 induction g with
 | zero=>grind
 | succ g ih=>
  by_cases e:f=g+1
  ·grind
  ·exact (ih (by omega)).up1
theorem Ib:∀ (n:Nat) (t k:By),t.length<=n->ZA t=some k->k.length<=t.length
 | _,[],k,_,h=>by
  have:(some []:Option By)=some k:=h
  grind
 | 0,_::_,_,hn,_=>by simp at hn
 | n+1,c::r,k,hn,h=>by
  rw[F6] at h;simp only[D0] at hn |-;split at h
  ·split at h
   ·rename_i q;obtain⟨a,ha,rfl⟩:=A3.1 h;have:=Ib n q a (by grind) ha
    grind
   ·rename_i q;obtain⟨a,ha,rfl⟩:=A3.1 h;have:=Ib n q a (by grind) ha
    grind
   ·cases h
  ·obtain⟨a,ha,rfl⟩:=A3.1 h;have:=Ib n r a (by omega) ha
   grind
theorem JP:∀ (ts ks:List By),Z8 ts=some ks->ks.length=ts.length /\ ∀k∈ks,∃t∈ts,k.length<=t.length
 | [],ks,h=>by
  have:(some []:Option (List By))=some ks:=h
  grind
 | t::r,ks,h=>by
  unfold Z8 at h;split at h
  ·cases h
  ·rename_i k hk;obtain⟨a,ha,rfl⟩:=A3.1 h;obtain⟨h1,h2⟩:=JP r a ha;refine⟨by simp[h1],fun x hx=>?_⟩;rcases CD.1 hx with rfl|hx
   ·exact⟨t,by simp,Ib _ _ _ (AT _) hk⟩
   grind
theorem Rq:∀ (l:By),(ZE l).length<=l.length+1 /\ ∀t∈ZE l,t.length<=l.length
 | []=>by simp[ZE]
 | c::r=>by
  obtain⟨h1,h2⟩:=Rq r;unfold ZE
  grind
theorem Mf{l:By}{ks:List By}(h:ZW l=some ks):ks.length<=l.length /\ ∀k∈ks,k.length<=l.length:=by
 unfold ZW at h;split at h
 ·split at h
  ·rename_i r hp;obtain⟨h1,h2⟩:=JP _ _ h;obtain⟨h3,h4⟩:=Rq l
   grind
  ·cases h
 ·cases h
theorem Ge{α β:Type}{f g:α->β}{l:List α}(h:∀a∈l,f a=g a):l.map f=l.map g:=C2 h
theorem It{α β:Type}{f g:α->List β}{l:List α}(h:∀a∈l,f a=g a):l.flatMap f=l.flatMap g:=by
 induction l with
 | nil=>rfl
 | cons a r ih=>grind
theorem Ad.up1:∀ {f:Nat} {w:A4} {v:A2} {a:Zf},Ad f w v a->Ad (f+1) w v a/\fp (f+1) a=fp f a/\Zi (f+1) a=Zi f a
 | 0,_,_,_,h=>h.elim
 | f+1,w,v,a,h=>by
  obtain⟨b,g,x,rfl,hv,h⟩:=h;rcases h with⟨k,h1,h2,rfl,h⟩|⟨n,h2,rfl,h,q4⟩|⟨s,h2,rfl,h⟩|⟨al,sl,ps,rfl,h,ho,hs,ha⟩|⟨es,n,D,rfl,h,ho,hp⟩
  ·exact⟨⟨b,g,_,rfl,hv,CH ⟨k,h1,h2,rfl,h⟩⟩,rfl,rfl⟩
  ·exact⟨⟨b,g,_,rfl,hv,AI (CH ⟨n,h2,rfl,h,q4⟩)⟩,rfl,rfl⟩
  ·exact⟨⟨b,g,_,rfl,hv,AI (AI (CH ⟨s,h2,rfl,h⟩))⟩,rfl,rfl⟩
  ·have hk:∀c∈al,fp (f+1) c=fp f c/\Zi (f+1) c=Zi f c:=fun c hc=>by
    obtain⟨u,hu⟩:=ha.right hc;exact (Ad.up1 hu).2
   refine⟨⟨b,g,_,rfl,hv,AI (AI (AI (CH ⟨al,sl,ps,rfl,h,ho,hs,ha.mono fun _ _ h=>(Ad.up1 h).1⟩)))⟩,?_,?_⟩
   ·rw[AN,AN,It fun c hc=>(hk c hc).1]
   ·rw[Bn,Bn,Ge fun c hc=>(hk c hc).2]
  ·have hk:∀p∈es,fp (f+1) p.2=fp f p.2/\Zi (f+1) p.2=Zi f p.2:=fun p q0=>by
    obtain⟨u,hu⟩:=hp.right q0;exact (Ad.up1 hu).2
   refine⟨⟨b,g,_,rfl,hv,AI (AI (AI (AI ⟨es,n,D,rfl,h,ho,hp.mono fun _ _ h=>(Ad.up1 h).1⟩)))⟩,?_,?_⟩
   ·rw[Bi,Bi,It fun p q0=>(hk p q0).1]
   ·rw[AZ,AZ,Ge (g:=fun p=>(p.1,Zi f p.2)) fun p q0=>by grind]
theorem Ad.up(h:Ad f w v a)(hg:f<=g):Ad g w v a/\fp g a=fp f a/\Zi g a=Zi f a:=by
 induction g with
 | zero=>
  grind
 | succ g ih=>
  by_cases e:f=g+1
  ·grind
  ·obtain⟨h1,h2,h3⟩:=ih (by omega);obtain⟨h4,h5,h6⟩:=h1.up1
   grind
theorem Ad.down1{dd xx:Int}:∀ {f:Nat} {lv:Int} {w:A4} {v:A2} {a:Zf},Ad (f+1) w v a->Zl dd xx f lv (Zi (f+1) a)->Ad f w v a/\fp f a=fp (f+1) a/\Zi f a=Zi (f+1) a
 | 0,_,_,_,_,_,h=>h.elim
 | f+1,lv,w,v,a,h,hg=>by
  obtain⟨b,g,x,rfl,hv,h⟩:=h;rcases h with⟨k,h1,h2,rfl,h⟩|⟨n,h2,rfl,h,q5⟩|⟨s,h2,rfl,h⟩|⟨al,sl,ps,rfl,h,ho,hs,ha⟩|⟨es,n,D,rfl,h,ho,hp⟩
  ·exact⟨⟨b,g,_,rfl,hv,CH ⟨k,h1,h2,rfl,h⟩⟩,rfl,rfl⟩
  ·exact⟨⟨b,g,_,rfl,hv,AI (CH ⟨n,h2,rfl,h,q5⟩)⟩,rfl,rfl⟩
  ·exact⟨⟨b,g,_,rfl,hv,AI (AI (CH ⟨s,h2,rfl,h⟩))⟩,rfl,rfl⟩
  ·rw[Bn] at hg;obtain⟨_,hg⟩:=hg;rcases hg with⟨_,_,e⟩|⟨_,_,e⟩|⟨_,_,_,_,e⟩|⟨es,hg,e⟩|⟨_,_,_,e⟩
   ·cases e
   ·cases e
   ·cases e
   ·have e2:al.map (Zi (f+1))=es:=by injection e
    subst e2;have hk:∀c∈al,∀u,Ad (f+1) w u c->Ad f w u c/\fp f c=fp (f+1) c/\Zi f c=Zi (f+1) c:=fun c hc u hu=>Ad.down1 hu (hg _ (BY hc));have hk2:∀c∈al,fp f c=fp (f+1) c/\Zi f c=Zi (f+1) c:=fun c hc=>by
     obtain⟨u,hu⟩:=ha.right hc
     grind
    refine⟨⟨b,g,_,rfl,hv,AI (AI (AI (CH ⟨al,sl,ps,rfl,h,ho,hs,Al.mem (by grind) ha⟩)))⟩,?_,?_⟩
    ·rw[AN,AN,It fun c hc=>(hk2 c hc).1]
    ·rw[Bn,Bn,Ge fun c hc=>(hk2 c hc).2]
   ·cases e
  ·rw[AZ] at hg;obtain⟨_,hg⟩:=hg;rcases hg with⟨_,_,e⟩|⟨_,_,e⟩|⟨_,_,_,_,e⟩|⟨_,_,e⟩|⟨q4,_,hg,e⟩
   ·cases e
   ·cases e
   ·cases e
   ·cases e
   ·have e2:es.map (fun p=>(p.1,Zi (f+1) p.2))=q4:=by injection e
    subst e2;have hk:∀p∈es,∀u,Ad (f+1) w u p.2->Ad f w u p.2/\fp f p.2=fp (f+1) p.2/\Zi f p.2=Zi (f+1) p.2:=fun p q0 u hu=>Ad.down1 hu (hg _ (BY (f:=fun p=>(p.1,Zi (f+1) p.2)) q0)).2;have hk2:∀p∈es,fp f p.2=fp (f+1) p.2/\Zi f p.2=Zi (f+1) p.2:=fun p q0=>by
     obtain⟨u,hu⟩:=hp.right q0
     grind
    refine⟨⟨b,g,_,rfl,hv,AI (AI (AI (AI ⟨es,n,D,rfl,h,ho,Pt.mem (fun u p q0 hu=>(hk p q0 u hu).1) hp⟩)))⟩,?_,?_⟩
    ·rw[Bi,Bi,It fun p q0=>(hk2 p q0).1]
    ·rw[AZ,AZ,Ge (g:=fun p=>(p.1,Zi (f+1) p.2)) (by grind)]
theorem Ad.fit{dd xx lv:Int}(h:Ad g w v a)(hg:Zl dd xx f lv (Zi g a))(q4:f<=g):Ad f w v a/\fp f a=fp g a/\Zi f a=Zi g a:=by
 induction g with
 | zero=>grind
 | succ g ih=>
  by_cases e:f=g+1
  ·grind
  ·have q0:∀ (m f:Nat) (lv:Int) (d:To),Zl dd xx f lv d->Zl dd xx (f+m) lv d:=by
    intro m f;induction f with
    | zero=>intro _ _ h;exact h.elim
    | succ f ih=>
     grind [Zl,Zi,fp]
   have h1:=h.down1 (by have:=q0 (g-f) f lv _ hg;rw[show f+(g-f)=g by omega] at this;exact this)
   grind
theorem Ad.uniq{f':Nat}{u':A2}(h:Ad f w u a)(h':Ad f' w' u' a):u=u':=by
 cases f with
 | zero=>exact h.elim
 | succ f=>
  cases f' with
  | zero=>exact h'.elim
  | succ f'=>
   obtain⟨b,g,x,rfl,rfl,_⟩:=h;obtain⟨b2,g2,x2,e,rfl,_⟩:=h';have e1:Zj b g x=Zj b2 g2 x2:=e;unfold Zj at e1
   grind
def er:Nat->Zf->Zf
 | 0,a=>a
 | f+1,a=>match a with
  | .agg [.lit (.int k b),.lit (.int l g),x]=>(match x with
   | .slice al y=>.agg [.lit (.int k b),.lit (.int l 0),.slice (al.map (er f)) y]
   | .map es=>.agg [.lit (.int k b),.lit (.int l g),.map (es.map fun p=>(p.1,er f p.2))]
   | z=>.agg [.lit (.int k b),.lit (.int l g),z])
  | y=>y
theorem bV(f b g:Nat)(al:List Zf):er (f+1) (Zj b g (.slice al []))=Zj b 0 (.slice (al.map (er f)) []):=rfl
theorem cJ(f b g:Nat)(es:List (Lit×Zf)):er (f+1) (Zj b g (.map es))=Zj b g (.map (es.map fun p=>(p.1,er f p.2))):=rfl
theorem Fa(f b g k:Nat):er (f+1) (Zj b g (AO k))=Zj b g (AO k):=rfl
theorem Ss(f b g:Nat)(n:Nm):er (f+1) (Zj b g (Bv n))=Zj b g (Bv n):=rfl
theorem Pi(f b g:Nat)(s:By):er (f+1) (Zj b g (Aq s))=Zj b g (Aq s):=rfl
theorem cK(a:Zf):(∃k b l g al y,a=.agg [.lit (.int k b),.lit (.int l g),.slice al y])\/(∃k b l g es,a=.agg [.lit (.int k b),.lit (.int l g),.map es])\/((∀f,er f a=a)/\AH a=[] /\ ∀i c,Z6 a i c=a):=by
 by_cases h1:∃k b l g al y,a=.agg [.lit (.int k b),.lit (.int l g),.slice al y]
 ·grind
 by_cases h2:∃k b l g es,a=.agg [.lit (.int k b),.lit (.int l g),.map es]
 ·grind
 refine AI (AI ⟨fun f=>?_,?_,fun i c=>?_⟩)
 ·cases f with
  | zero=>rfl
  | succ f=>
   unfold er
   grind
 ·unfold AH
  grind
 ·unfold Z6
  grind
theorem ED:∀ (f:Nat) (a:Zf),Zi f (er f a)=Zi f a
 | 0,_=>rfl
 | f+1,a=>by
  rcases cK a with⟨k,b,l,g,al,y,rfl⟩|⟨k,b,l,g,es,rfl⟩|⟨h,_,_⟩
  ·show Ap ((al.map (er f)).map (Zi f))=Ap (al.map (Zi f));rw[G3,Ge fun c _=>(show (Zi f ∘ er f) c=Zi f c from ED f c)]
  ·show Ay ((es.map fun p=>(p.1,er f p.2)).map fun p=>(p.1,Zi f p.2))=Ay (es.map fun p=>(p.1,Zi f p.2));rw[G3,Ge (g:=fun p=>(p.1,Zi f p.2)) fun p _=>(show ((fun p=>(p.1,Zi f p.2)) ∘ fun p:Lit×Zf=>(p.1,er f p.2)) p=(p.1,Zi f p.2) by show (p.1,Zi f (er f p.2))=_;rw[ED f p.2])]
  ·rw[h]
theorem Pj(f:Nat)(a:Zf):AH (er (f+1) a)=(AH a).map (er f):=by
 rcases cK a with⟨k,b,l,g,al,y,rfl⟩|⟨k,b,l,g,es,rfl⟩|⟨h,h2,_⟩
 ·rfl
 ·show (es.map fun p=>(p.1,er f p.2)).map HA=(es.map HA).map (er f)
  simp_all
 grind
theorem EL:∀ (p:List Nat) (f:Nat) (a:Zf),Zo p (er (f+p.length) a)=(Zo p a).map (er f)
 | [],_,_=>rfl
 | i::r,f,a=>by
  show Zo (i::r) (er ((f+r.length)+1) a)=_;rw[Zo,Zo,Pj,E0];cases (AH a)[i]? with
  | none=>rfl
  | some c=>exact EL r f c
theorem GE{α β:Type}(q:α->β)(u:α->α)(u':β->β)(h:∀a,q (u a)=u' (q a)):∀ (l:List α) (i:Nat),(l.modify i u).map q=(l.map q).modify i u'
 | [],i=>by simp
 | a::r,0=>by simp[h]
 | a::r,i+1=>by simp[GE q u u' h r i]
theorem Su(f i:Nat)(a c:Zf):er (f+1) (Z6 a i c)=Z6 (er (f+1) a) i (er f c):=by
 rcases cK a with⟨k,b,l,g,al,y,rfl⟩|⟨k,b,l,g,es,rfl⟩|⟨h,h2,h3⟩
 ·show A5 [.lit (.int k b),.lit (.int l 0),.slice ((al.set i c).map (er f)) []]=A5 [.lit (.int k b),.lit (.int l 0),.slice ((al.map (er f)).set i (er f c)) []]
  simp_all
 ·show A5 [.lit (.int k b),.lit (.int l g),.map ((es.modify i fun p=>(p.1,c)).map fun p=>(p.1,er f p.2))]=A5 [.lit (.int k b),.lit (.int l g),.map ((es.map fun p=>(p.1,er f p.2)).modify i fun p=>(p.1,er f c))];rw[GE (fun p:Lit×Zf=>(p.1,er f p.2)) (fun p=>(p.1,c)) (fun p=>(p.1,er f c)) fun p=>rfl]
 grind
theorem BF:∀ (p:List Nat) (f:Nat) {a n:Zf} (n':Zf),Zo p a=some n->er (f+p.length) (Zs p n' a)=Zs p (er f n') (er (f+p.length) a)
 | [],_,_,_,_,_=>rfl
 | i::r,f,a,n,n',h=>by
  obtain⟨c,hc,h2⟩:=Ce h;rw[BE n' hc];have q0:(AH (er ((f+r.length)+1) a))[i]? = some (er (f+r.length) c):=by grind [Pj,Su]
  show er ((f+r.length)+1) _=Zs (i::r) _ (er ((f+r.length)+1) a);rw[BE _ q0,Su,BF r f n' h2]
theorem Un(h:(AH a)[i]? = some c)(hy:∀k b l g al y,a=.agg [.lit (.int k b),.lit (.int l g),.slice al y]->y=[]):Z6 a i c=a:=by
 rcases FK h with⟨k,b,l,g,al,x,rfl,h7⟩|⟨k,b,l,g,es,key,rfl,h7⟩
 ·obtain rfl:=hy _ _ _ _ _ _ rfl;show A5 [.lit (.int k b),.lit (.int l g),.slice (al.set i c) []]=_;have h8:=List.getElem?_eq_some_iff.1 h7;rw[show al.set i c=al by rw[<- h8.2];simp_all]
 ·show A5 [.lit (.int k b),.lit (.int l g),.map (es.modify i fun p=>(p.1,c))]=_;obtain⟨l1,l2,rfl,rfl⟩:=CN (fun _=>([]:List Nat)) es i _ h7;rw[EH]
theorem RZ(hc:(AH a)[i]? = some c)(x:Zf):(AH (Z6 a i x))[i]? = some x:=by
 rcases FK hc with⟨k,b,l,g,al,y,rfl,h7⟩|⟨k,b,l,g,es,key,rfl,h7⟩
 ·show (al.set i _)[i]? = _
  grind
 ·show ((es.modify i fun p=>(p.1,x)).map HA)[i]? = _
  grind
theorem Ie:∀ {p:List Nat} {a n:Zf} (n':Zf),Zo p a=some n->Zo p (Zs p n' a)=some n'
 | [],_,_,_,_=>rfl
 | i::r,a,n,n',h=>by
  obtain⟨c,hc,h2⟩:=Ce h;rw[BE n' hc];have hk:(AH (Z6 a i (Zs r n' c)))[i]? = some (Zs r n' c):=RZ hc _;rw[Zo,hk];exact Ie n' h2
theorem Wv{x y:Zf}(h:(AH a)[i]? = some c):Z6 (Z6 a i x) i y=Z6 a i y:=by
 rcases FK h with⟨k,b,l,g,al,z,rfl,h7⟩|⟨k,b,l,g,es,key,rfl,h7⟩
 ·show A5 [.lit (.int k b),.lit (.int l g),.slice ((al.set i x).set i y) []]=A5 [.lit (.int k b),.lit (.int l g),.slice (al.set i y) []]
  simp_all
 ·show A5 [.lit (.int k b),.lit (.int l g),.map ((es.modify i fun p=>(p.1,x)).modify i fun p=>(p.1,y))]=A5 [.lit (.int k b),.lit (.int l g),.map (es.modify i fun p=>(p.1,y))];obtain⟨l1,l2,rfl,rfl⟩:=CN (fun _=>([]:List Nat)) es i _ h7
  grind [EH,List.set_set]
theorem Kn:∀ {p:List Nat} {a n:Zf} (x y:Zf),Zo p a=some n->Zs p y (Zs p x a)=Zs p y a
 | [],_,_,_,_,_=>rfl
 | i::r,a,n,x,y,h=>by
  obtain⟨c,hc,h2⟩:=Ce h;rw[BE x hc,BE y hc];have hk:(AH (Z6 a i (Zs r x c)))[i]? = some (Zs r x c):=RZ hc _;rw[BE y hk,Kn x y h2,Wv hc]
theorem Ad.spare(h:Ad f w u a):∀k b l g al y,a=.agg [.lit (.int k b),.lit (.int l g),.slice al y]->y=[]:=by
 cases f with
 | zero=>exact h.elim
 | succ f=>
  intro k b l g al y e;obtain⟨b2,g2,x,rfl,hv,h⟩:=h;unfold Zj at e;injection e with e;injection e with _ e;injection e with _ e;injection e with e _;rcases h with⟨j,_,_,rfl,h⟩|⟨n,_,rfl,h,q4⟩|⟨s,_,rfl,h⟩|⟨q0,sl,ps,rfl,_⟩|⟨es,n,D,rfl,_⟩
  ·cases e
  ·cases e
  ·cases e
  ·grind
  ·cases e
theorem Ad.put_self:∀ {p:List Nat} {u:A2} {a n:Zf},Ad (f+p.length) w u a->Zo p a=some n->Zs p n a=a
 | [],_,_,_,_,h=>by injection h with h;exact h.symm
 | i::r,u,a,n,ht,h=>by
  obtain⟨c,hc,h2⟩:=Ce h;have h':Ad ((f+r.length)+1) w u a:=ht;obtain⟨x,hx⟩:∃u,Ad (f+r.length) w u c:=Ad.at (f:=f+r.length) (p:=[i]) h' (show Zo [i] a=some c by simp[Zo,hc]);rw[BE n hc,hx.put_self h2];exact Un hc ht.spare
theorem Ad.er_arr{b:Nat}{al:List Zf}(h:Ad (f+1) w u a)(e:er (f+1) a=er (f+1) (Zj b g (.slice al []))):∃g' q0,a=Zj b g' (.slice q0 [])/\q0.map (er f)=al.map (er f):=by
 obtain⟨b2,g2,x,rfl,hv,h⟩:=h;rcases h with⟨j,_,_,rfl,h⟩|⟨n,_,rfl,h,q5⟩|⟨s,_,rfl,h⟩|⟨q4,sl,ps,rfl,_⟩|⟨es,n,D,rfl,_⟩
 ·rw[Fa,bV] at e;unfold Zj at e;injection e with e;injection e with _ e;injection e with _ e;injection e with e _;cases e
 ·rw[Ss,bV] at e;unfold Zj at e;injection e with e;injection e with _ e;injection e with _ e;injection e with e _;cases e
 ·rw[Pi,bV] at e;unfold Zj at e;injection e with e;injection e with _ e;injection e with _ e;injection e with e _;cases e
 ·grind [Zj,er,Fa]
 grind [Zj,er,Fa]
theorem Ad.er_obj{b:Nat}{es:List (Lit×Zf)}(h:Ad (f+1) w u a)(e:er (f+1) a=er (f+1) (Zj b g (.map es))):∃es',a=Zj b g (.map es')/\es'.map (fun p=>(p.1,er f p.2))=es.map (fun p=>(p.1,er f p.2)):=by
 obtain⟨b2,g2,x,rfl,hv,h⟩:=h;rcases h with⟨j,_,_,rfl,h⟩|⟨n,_,rfl,h,q5⟩|⟨s,_,rfl,h⟩|⟨q4,sl,ps,rfl,_⟩|⟨q0,n,D,rfl,_⟩
 ·grind [Zj,er,Fa]
 ·rw[Ss,cJ] at e;unfold Zj at e;injection e with e;injection e with _ e;injection e with _ e;injection e with e _;cases e
 ·rw[Pi,cJ] at e;unfold Zj at e;injection e with e;injection e with _ e;injection e with _ e;injection e with e _;cases e
 ·grind [Zj,er,Fa]
 grind [Zj,er,Fa]
theorem Bh{e n:Nat}(h:w.ownsRow B e 1 v n xs)(hpos:0<n):∃g cap,v=.slice (some ⟨g,0,none⟩) n cap/\n<=cap/\cap<=maxLen/\g<w.heap.size /\ ∀k (hk:k<xs.length),w.cell? ⟨g,k,none⟩=some xs[k]:=by
 obtain⟨q4,h⟩:=h;rcases h with⟨_,h0⟩|⟨g,cap,cur,h1,_,h3,h4,h5,h6,h7⟩
 ·omega
 ·refine⟨g,cap,h1,h4,h5,(AS.1 h3).1,fun k hk=>?_⟩;have q0:k<cur.size:=by rw[h6];omega
  have e:w.cell? ⟨g,k,none⟩=cur[k]?:=by simp[A1,h3]
  rw[e,DD q0];congr 1;have h8:xs[k]? = some cur[k]:=by
   rw[<- h7,List.getElem?_take,if_pos (by omega)];simp
  rw[List.getElem?_eq_getElem hk] at h8;exact (Option.some.inj h8).symm
section
variable{w:A4}{b b':Nat}
theorem KU{k k':Int}{n:Nm}(h:VB w b k n s sl mp)(h':VB w b' k' n' s' sl' q0)(hk:k≠k'):
  D3 Bs 82 #[.pointer (some ⟨b,0,none⟩),.pointer (some ⟨b',0,none⟩)] w fun e w'=>e=.returned (.bool false)/\CR w.heap.size w w':=by
 have c0:=h.c0;have d0:=h'.c0;have e0:(k==k')=false:=beq_eq_false_iff_ne.2 hk;have e1:(k != k')=true:=by simpa using hk
 clear h h' hk
 go_enter func82,ntmps82
 go_wp2_with (fail)
 go_quiet (fail)
 go_wp2_with (fail)
 go_ret;exact⟨rfl,⟨rfl,rfl,rfl,AT _,fun _ _=>rfl⟩⟩
theorem Re{k:Nat}(hk:k<3){n:Nm}(h:VB w b k n s sl mp)(h':VB w b' k n' s' sl' q0):
  D3 Bs 82 #[.pointer (some ⟨b,0,none⟩),.pointer (some ⟨b',0,none⟩)] w fun e w'=>e=.returned (.bool true)/\CR w.heap.size w w':=by
 have c0:=h.c0;have d0:=h'.c0;clear h h';have e3:((k:Int)==3)=false:=by rw[beq_eq_false_iff_ne];omega
 have e4:((k:Int)==4)=false:=by rw[beq_eq_false_iff_ne];omega
 have e5:((k:Int)==5)=false:=by rw[beq_eq_false_iff_ne];omega
 have e6:((k:Int)==6)=false:=by rw[beq_eq_false_iff_ne];omega
 go_enter func82,ntmps82
 go_wp2_with (fail)
 go_quiet (fail)
 go_wp2_with (fail)
 go_ret;exact⟨rfl,⟨rfl,rfl,rfl,AT _,fun _ _=>rfl⟩⟩
theorem TD{n:Nm}(h:VB w b 4 n s sl mp)(h':VB w b' 4 n' s' sl' q0):
  D3 Bs 82 #[.pointer (some ⟨b,0,none⟩),.pointer (some ⟨b',0,none⟩)] w fun e w'=>e=.returned (.bool (s==s'))/\CR w.heap.size w w':=by
 have c0:=h.c0;have d0:=h'.c0;have c4:=h.c4;have d4:=h'.c4;clear h h'
 go_enter func82,ntmps82
 go_wp2_with (fail)
 go_quiet (fail)
 go_wp2_with (fail)
 go_quiet (fail)
 go_wp2_with (fail)
 go_ret;exact⟨by first|rfl|simp,⟨rfl,rfl,rfl,AT _,fun _ _=>rfl⟩⟩
theorem TF{n:Nm}{q6:A2}(h:VB w b 3 n s sl mp)(h':VB w b' 3 n' s' sl' q6):
  D3 Bs 82 #[.pointer (some ⟨b,0,none⟩),.pointer (some ⟨b',0,none⟩)] w fun e w'=>e=.returned (.bool (decide (n=n')))/\CR w.heap.size w w':=by
 have c0:=h.c0;have d0:=h'.c0;have c1:=h.c1;have d1:=h'.c1;have c2:=h.c2;have d2:=h'.c2;have c3:=h.c3;have d3:=h'.c3;clear h h';obtain⟨na,nb,nc⟩:=n;obtain⟨q5,q4,q0⟩:=n';simp only at c1 c2 c3 d1 d2 d3;by_cases h2:nb=q4
 ·have f2:(nb==q4)=true:=beq_iff_eq.2 h2;by_cases h3:nc=q0
  ·have f3:(nc==q0)=true:=beq_iff_eq.2 h3;subst h2;subst h3;cases na<;>cases q5
   all_goals (
    go_enter func82,ntmps82
    go_wp2_with (fail)
    go_quiet (fail)
    go_wp2_with (fail)
    go_quiet (fail)
    go_wp2_with (fail)
    go_ret;exact⟨by simp,⟨rfl,rfl,rfl,AT _,fun _ _=>rfl⟩⟩)
  ·have f3:(nc==q0)=false:=beq_eq_false_iff_ne.2 h3;subst h2;have H3:=Ab h3;clear h3;cases na<;>cases q5
   all_goals (
    go_enter func82,ntmps82
    go_wp2_with (fail)
    go_quiet (fail)
    go_wp2_with (fail)
    go_quiet (fail)
    go_wp2_with (fail)
    go_ret;exact⟨by have:=Aa H3;simp[this],⟨rfl,rfl,rfl,AT _,fun _ _=>rfl⟩⟩)
 ·have f2:(nb==q4)=false:=beq_eq_false_iff_ne.2 h2;have H2:=Ab h2;clear h2;cases na<;>cases q5
  all_goals (
   go_enter func82,ntmps82
   go_wp2_with (fail)
   go_quiet (fail)
   go_wp2_with (fail)
   go_quiet (fail)
   go_wp2_with (fail)
   go_ret;exact⟨by have:=Aa H2;simp[this],⟨rfl,rfl,rfl,AT _,fun _ _=>rfl⟩⟩)
end
def SB(w:A4)(S:Nat)(d e n:Int)(p:A2):Prop:=w.heap[S]? = some (.cells #[.int .i64 d,.int .i64 e,.int .i64 n,p] 62 (0,0))
section
variable{w:A4}{S:Nat}{d e n:Int}{p:A2}
theorem SB.lt(h:SB w S d e n p):S<w.heap.size:=(AS.1 h).1
theorem SB.c0(h:SB w S d e n p):w.cell? ⟨S,0,none⟩=some (.int .i64 d):=by simp[A1,show w.heap[S]? = _ from h]
theorem SB.c1(h:SB w S d e n p):w.cell? ⟨S,1,none⟩=some (.int .i64 e):=by simp[A1,show w.heap[S]? = _ from h]
theorem SB.c2(h:SB w S d e n p):w.cell? ⟨S,2,none⟩=some (.int .i64 n):=by simp[A1,show w.heap[S]? = _ from h]
theorem SB.c3(h:SB w S d e n p):w.cell? ⟨S,3,none⟩=some p:=by simp[A1,show w.heap[S]? = _ from h]
theorem SB.fz(h:SB w S d e n p)(o:Nat):w.frozen? ⟨S,o,none⟩=false:=by simp[G1,show w.heap[S]? = _ from h]
theorem SB.low(h:SB w S d e n p)(hb:CR w.heap.size w w'):SB w' S d e n p:=(hb.block S h.lt).trans h
theorem SB.set3(h:SB w S d e n p)(q:A2):SB (w.setCell ⟨S,3,none⟩ q) S d e n q:=by
 simp only[SB,G2,Array.getElem?_modify];rw[if_pos trivial,show w.heap[S]? = _ from h];rfl
end
def DB(w:A4)(D:Nat)(rp jn:A2)(ch:Bool)(iv:A2):Prop:=w.heap[D]? = some (.cells #[rp,jn,.bool ch,iv] 115 (0,0))
section
variable{w:A4}{D:Nat}{rp jn iv:A2}{ch:Bool}
theorem DB.lt(h:DB w D rp jn ch iv):D<w.heap.size:=(AS.1 h).1
theorem DB.c0(h:DB w D rp jn ch iv):w.cell? ⟨D,0,none⟩=some rp:=by simp[A1,show w.heap[D]? = _ from h]
theorem DB.c1(h:DB w D rp jn ch iv):w.cell? ⟨D,1,none⟩=some jn:=by simp[A1,show w.heap[D]? = _ from h]
theorem DB.c2(h:DB w D rp jn ch iv):w.cell? ⟨D,2,none⟩=some (.bool ch):=by simp[A1,show w.heap[D]? = _ from h]
theorem DB.c3(h:DB w D rp jn ch iv):w.cell? ⟨D,3,none⟩=some iv:=by simp[A1,show w.heap[D]? = _ from h]
theorem DB.kept(h:DB w D rp jn ch iv)(hk:w'.heap[D]? = w.heap[D]?):DB w' D rp jn ch iv:=hk.trans h
end
def Yb(w:A4)(g:Nat)(wp:A2):Prop:=w.heap[g]? = some (.cells #[wp] 80 (0,0))
theorem AD{e n q:Nat}(h:w.ownsRow B e q v n xs)(hk:∀g,v.ownBlock=some g->w'.heap[g]? = w.heap[g]?):w'.ownsRow B e q v n xs:=by
 refine⟨h.1,h.2.imp id ?_⟩;rintro⟨g,cap,cur,h1,h2,h3,h4⟩;exact⟨g,cap,cur,h1,h2,(hk g (by rw[h1];rfl)).trans h3,h4⟩
theorem AC{e n q:Nat}(h:w.ownsRow B e q v n xs)(g:Nat)(hg:v.ownBlock=some g):g<w.heap.size/\B<=g:=by
 rcases h.2 with⟨h1,_⟩|⟨g',cap,cur,h1,h2,h3,_⟩
 ·rw[h1] at hg;cases hg
 ·rw[h1] at hg;injection hg with hg;subst hg;exact⟨(AS.1 h3).1,h2⟩
def Au(w:A4)(G:Nat->Prop)(v:A2)(l:List By):Prop:=
 (l=[] /\ ∃a c,v=.slice a 0 c/\c<=maxLen) \/ ∃g o cap,v=.slice (some ⟨g,o,none⟩) l.length cap/\l.length<=cap/\cap<=maxLen/\G g/\CQ w g o l
theorem Au.toks(h:Au w G v l):CI w v l:=by
 rcases h with h|⟨g,o,cap,h1,h2,h3,_,h4⟩
 ·exact CH h
 ·exact AI ⟨g,o,cap,h1,h2,h3,h4⟩
theorem CQ.move{o:Nat}(h:CQ w g o l)(hk:w'.heap[g]? = w.heap[g]?):CQ w' g o l:=by
 refine⟨?_,fun k q0=>(World.cell?_of_block (a:=⟨g,o+k,none⟩) hk).trans (h.2 k q0)⟩;have h1:w.heap[g]? = some (w.heap[g]'h.1):=DD h.1;rw[h1] at hk;exact (AS.1 hk).1
theorem Au.move(h:Au w G v l)(hk:∀k,G k->k<w.heap.size->w'.heap[k]? = w.heap[k]? /\ G' k):Au w' G' v l:=by
 rcases h with h|⟨g,o,cap,h1,h2,h3,hg,h4⟩
 ·exact CH h
 ·have:=hk g hg h4.1;exact AI ⟨g,o,cap,h1,h2,h3,this.2,h4.move this.1⟩
def EW(w:A4)(G:Nat->Prop)(kv pv fv vv:A2)(o:Zk):Prop:=
 kv=.int .i64 o.1/\o.1<3/\Au w G pv o.2.1/\fv=.slice none 0 0/\((o.1=1/\vv=.pointer none)\/(o.1≠1/\Rep top G w vv o.2.2))
theorem EW.move{kv pv fv vv:A2}{o:Zk}(h:EW w G kv pv fv vv o)(hk:∀k,G k->k<w.heap.size->w'.heap[k]? = w.heap[k]? /\ G' k):EW w' G' kv pv fv vv o:=
 ⟨h.1,h.2.1,h.2.2.1.move hk,h.2.2.2.1,h.2.2.2.2.imp id fun ⟨a,b⟩=>⟨a,b.move hk⟩⟩
def CV(w:A4)(G:Nat->Prop):List A2->List Zk->Prop
 | [],[]=>True
 | kv::pv::fv::vv::r,o::s=>EW w G kv pv fv vv o/\CV w G r s
 | _,_=>False
theorem CV.move{w w':A4}{G G':Nat->Prop}(hk:∀k,G k->k<w.heap.size->w'.heap[k]? = w.heap[k]? /\ G' k):∀ {xs:List A2} {j:List Zk},CV w G xs j->CV w' G' xs j
 | [],[],_=>trivial
 | _::_::_::_::_,_::_,⟨a,b⟩=>⟨a.move hk,CV.move hk b⟩
def Ji(w:A4)(G:Nat->Prop)(iv:A2)(j:List Zk):Prop:=∃xs,w.ownsRow 0 178 4 iv j.length xs/\(∀g,iv.ownBlock=some g->G g)/\CV w G xs j
theorem Ji.move{j:List Zk}(h:Ji w G iv j)(hk:∀k,G k->k<w.heap.size->w'.heap[k]? = w.heap[k]? /\ G' k):Ji w' G' iv j:=by
 obtain⟨xs,h1,h2,h3⟩:=h;exact⟨xs,AD h1 fun g hg=>(hk g (h2 g hg) (AC h1 g hg).1).1,fun g hg=>(hk g (h2 g hg) (AC h1 g hg).1).2,h3.move hk⟩
def cB(o:Zk):Prop:=(o.2.1.map fun t=>t.length+1).sum<=1000000/\(o.1≠1 -> ∃d x,Zl d x top 1 o.2.2/\d<=500)
def F4(w:A4)(G:Nat->Prop)(iv:A2):ZG->Prop
 | none=>iv=.slice none 0 0
 | some j=>Ji w G iv j/\(Ck j).length<=8796093022208 /\ ∀o∈j,cB o
theorem F4.move{j:ZG}(h:F4 w G iv j)(hk:∀k,G k->k<w.heap.size->w'.heap[k]? = w.heap[k]? /\ G' k):F4 w' G' iv j:=by
 cases j with
 | none=>exact h
 | some j=>exact⟨h.1.move hk,h.2⟩
structure CJ(w:A4)(D R:Nat)(wp jn iv:A2)(ch:Bool)(T a:Zf)(x:To):Prop where
 db:DB w D (.pointer (some ⟨R,0,none⟩)) jn ch iv
 tr:Ad (top+1) w (.pointer (some ⟨R,0,none⟩)) T
 one:∃g,T=Zj R g (.slice [a] [])
 sub:Ad top w wp a
 str:Zi top a=x
 nd:(fp (top+1) T).Nodup
 nD:D ∉ fp (top+1) T
theorem CJ.move(h:CJ w D R wp jn iv ch T a x)(hD:w'.heap[D]? = w.heap[D]?)(hk:∀k∈fp (top+1) T,w'.heap[k]? = w.heap[k]?):CJ w' D R wp jn iv ch T a x:=by
 obtain⟨g,e⟩:=h.one;refine⟨h.db.kept hD,h.tr.move hk,h.one,h.sub.move fun k q0=>hk k ?_,h.str,h.nd,h.nD⟩;rw[e,AN];exact D2 _ (CL _ (by simpa using q0))
theorem CJ.row(h:CJ w D R wp jn iv ch T a x):∃sl,VB w R 5 n0 [] sl (.map none)/\w.ownsRow 0 80 1 sl 1 [wp]:=by
 obtain⟨g,e⟩:=h.one;have ht:=h.tr;rw[e] at ht;obtain⟨b2,g2,x2,e2,hv,ht⟩:=ht;unfold Zj at e2;injection e2 with e2;injection e2 with e3 e2;injection e2 with e4 e2;injection e2 with e5 _;injection e3 with e3;injection e3 with _ e3;rcases ht with⟨j,_,_,rfl,_⟩|⟨n,_,rfl,_⟩|⟨s,_,rfl,_⟩|⟨al,sl,ps,rfl,hvb,ho,hs,ha⟩|⟨es,n,D,rfl,_⟩
 ·cases e5
 ·cases e5
 ·cases e5
 ·injection e5 with e5 _;subst e5;obtain rfl:R=b2:=by omega
  cases ps with
  | nil=>exact ha.elim
  | cons u r=>
   obtain⟨hu,ha⟩:=ha;cases r with
   | nil=>
    obtain rfl:=hu.uniq h.sub;exact⟨sl,hvb,ho⟩
   | cons _ _=>exact ha.elim
 ·cases e5
structure DU(w:A4)(F:Nat->Prop)(D R:Nat)(wp:A2)(d e:Int)(v:To×ZG):Prop where
 ex:∃T a iv,CJ w D R wp (.slice none 0 0) iv v.2.isSome T a v.1/\(∀k∈fp (top+1) T,F k)/\F4 w (fun k=>F k/\k≠D/\k ∉ fp (top+1) T) iv v.2
 fD:F D
 len:(Zm top v.1).length<=80000
 gd:Zl d e top 1 v.1
theorem DU.move{v:To×ZG}(h:DU w F D R wp d e v)(hF:∀k,F k->k<w.heap.size->w'.heap[k]? = w.heap[k]? /\ F' k):DU w' F' D R wp d e v:=by
 obtain⟨T,a,iv,h1,h2,h3⟩:=h.ex;have hlt:=h1.tr.lt;refine⟨⟨T,a,iv,h1.move (hF D h.fD h1.db.lt).1 fun k hk=>(hF k (h2 k hk) (hlt k hk)).1,fun k hk=>(hF k (h2 k hk) (hlt k hk)).2,h3.move fun k hk q0=>?_⟩,(hF D h.fD h1.db.lt).2,h.len,h.gd⟩;obtain⟨g1,g2,g3⟩:=hk;exact⟨(hF k g1 q0).1,(hF k g1 q0).2,g2,g3⟩
theorem DU.rep{v:To×ZG}(h:DU w F D R wp d e v):Rep top F w wp v.1:=by
 obtain⟨T,a,iv,h1,h2,h3⟩:=h.ex;obtain⟨g,eT⟩:=h1.one;rw[<- h1.str];refine h1.sub.rep fun k hk=>h2 k ?_;rw[eT,AN];exact D2 _ (CL _ (by simpa using hk))
def Bf(w:A4)(F:Nat->Prop)(p:A2)(d e:Int):aF->Prop
 | none=>p=.pointer none
 | some v=>∃D R wp,p=.pointer (some ⟨D,0,none⟩)/\DU w F D R wp d e v
theorem Bf.move{p:A2}{doc:aF}(h:Bf w F p d e doc)(hF:∀k,F k->k<w.heap.size->w'.heap[k]? = w.heap[k]? /\ F' k):Bf w' F' p d e doc:=by
 cases doc with
 | none=>exact h
 | some v=>
  obtain⟨D,R,wp,hp,h⟩:=h;exact⟨D,R,wp,hp,h.move hF⟩
theorem Af.drew(h:Af w):Af w.drew:=⟨h.ng,h.esc,h.words,h.utf8,h.pow,h.pesc,h.rng,h.mx,h.otab⟩
def Yc(wp:A2)(w:A4)(x:Ending)(w':A4):Prop:=∃D R g,x=.returned (.pointer (some ⟨D,0,none⟩))/\CR w.heap.size w w'/\w.heap.size<=D/\w.heap.size<=R/\w.heap.size<=g/\D≠R/\D≠g/\R≠g /\
 DB w' D (.pointer (some ⟨R,0,none⟩)) (.slice none 0 0) false (.slice none 0 0)/\VB w' R 5 n0 [] (.slice (some ⟨g,0,none⟩) 1 1) (.map none)/\Yb w' g wp
theorem W7(p:Option Addr)(w:A4):D3 Bs 54 #[.pointer p] w fun x w'=>Yc (.pointer p) w x w':=by
 go_enter func54,ntmps54
 go_wp2_with (fail)
 go_ret;refine⟨w.heap.size+1+1,w.heap.size+1,w.heap.size,rfl,?_,by omega,by omega,by omega,by omega,by omega,by omega,?_,?_,?_⟩
 ·exact (((G0 _ w).alloc (AT _) _).alloc (by simp) _).alloc (by simp;omega) _
 ·show (((w.heap.push _).push _).push _)[w.heap.size+1+1]? = _;simp only[Dp,D1];rw[if_pos trivial]
 ·show (((w.heap.push _).push _).push _)[w.heap.size+1]? = _;simp only[Dp,D1];rw[if_neg (by omega),if_pos trivial]
 ·show (((w.heap.push _).push _).push _)[w.heap.size]? = _;simp only[Dp,D1];rw[if_neg (by omega),if_neg (by omega),if_pos trivial]
theorem De(h:CJ w D R wp jn iv ch T a x):D3 Bs 56 #[.pointer (some ⟨D,0,none⟩)] w fun x w'=>x=.returned wp/\CR w.heap.size w w':=by
 obtain⟨sl,hvb,ho⟩:=h.row;have c0:=h.db.c0;have c5:=hvb.c5;obtain⟨g,cap,rfl,a1,a2,a3,hc⟩:=Bh ho (F1);have cg:w.cell? ⟨g,0,none⟩=some wp:=hc 0 F1;clear h ho hc
 go_enter func56,ntmps56
 go_wp2_with (fail)
 go_ret;exact⟨rfl,G0 _ _⟩
theorem Ia{v:To×ZG}(h:DU w F D R wp d e v):D3 Bs 56 #[.pointer (some ⟨D,0,none⟩)] w fun x w'=>x=.returned wp/\CR w.heap.size w w':=by
 obtain⟨T,a,iv,h1,_⟩:=h.ex;exact De h1
theorem Pv(s:By)(d e:Int)(w:A4)(hT:Af w):
  D3 Bs 77 #[.string ⟨s.toArray⟩,.int .i64 d,.int .i64 e] w fun x w'=>∃ (p:Option Addr) (c:Nat),x=.returned (.tuple #[.pointer p,.int .i64 c])/\CR w.heap.size w w' /\
   ((0<c/\Zy s d e=(c,none))\/(c=0 /\ ∃v,Zy s d e=(0,some v)/\Tr top w.heap.size w' (.pointer p) v)):=by
 refine (U5 ⟨s.toArray⟩ d e w hT).mono ?_;rintro x w' ⟨hb,hc⟩;rcases hc with⟨c,h1,h2,rfl⟩|⟨v,p,h1,rfl,h2⟩
 ·exact⟨none,c,rfl,hb,CH ⟨h2,h1⟩⟩
 ·exact⟨some p,0,rfl,hb,AI ⟨rfl,v,h1,h2⟩⟩
theorem Mp{n:Int}{p:A2}(s:By)(h:SB w S d e n p)(hT:Af w):
  D3 Bs 53 #[.pointer (some ⟨S,0,none⟩),.string ⟨s.toArray⟩] w fun x w'=>∃ (p:Option Addr) (c:Nat),x=.returned (.tuple #[.pointer p,.int .i64 c])/\CR w.heap.size w w' /\
   ((0<c/\Zy s d e=(c,none))\/(c=0 /\ ∃v,Zy s d e=(0,some v)/\Tr top w.heap.size w' (.pointer p) v)):=by
 have c0:=h.c0;have c1:=h.c1;have HR:=Ab (fun (w0:A4) (hT:Af w0)=>Pv s d e w0 hT);have HT:=Ab hT;clear hT h
 go_enter func53,ntmps53
 go_wp2_with (fail)
 go_region_with (go_at_call 77;refine (Aa HR _ ?_).mono ?_;exact (Aa HT).drew;rintro x w2 ⟨p2,c,rfl,hb2,hc⟩)
 all_goals (
  replace hb2:CR w.heap.size w w2:=⟨hb2.os,hb2.tape,hb2.output,hb2.size,hb2.block⟩
  replace hc:(0<c/\Zy s d e=(c,none))\/(c=0 /\ ∃v,Zy s d e=(0,some v)/\Tr top w.heap.size w2 (.pointer p2) v):=hc
  have HB:=Ab hb2;have HC:=Ab hc;clear hb2 hc
  go_wp2_with (fail)
  go_ret2
  exact⟨p2,c,rfl,Aa HB,Aa HC⟩)
theorem Q8{n:Int}{p:A2}(s:By)(h:SB w S d e n p)(hT:Af w):
  D3 Bs 53 #[.pointer (some ⟨S,0,none⟩),.string ⟨s.toArray⟩] w fun x w'=>∃ (p:Option Addr) (c:Nat),x=.returned (.tuple #[.pointer p,.int .i64 c])/\CR w.heap.size w w' /\
   ((0<c/\Zy s d e=(c,none))\/(c=0 /\ ∃v,Zy s d e=(0,some v)/\Rep top (fun k=>w.heap.size<=k) w' (.pointer p) v)):=by
 refine (Mp s h hT).mono ?_;rintro x w' ⟨p,c,h1,h2,h3⟩;exact⟨p,c,h1,h2,h3.imp id fun ⟨a,v,b,c⟩=>⟨a,v,b,c.rep⟩⟩
def AB(w:A4)(g:Nat):Prop:=w.heap[g]? = some (.cells #[.int .i64 0,.int .i64 0,.string ⟨#[]⟩] 46 (0,0))
section
variable{w:A4}{g:Nat}
theorem AB.lt(h:AB w g):g<w.heap.size:=(AS.1 h).1
theorem AB.c0(h:AB w g):w.cell? ⟨g,0,none⟩=some (.int .i64 0):=by simp[A1,show w.heap[g]? = _ from h]
theorem AB.c1(h:AB w g):w.cell? ⟨g,1,none⟩=some (.int .i64 0):=by simp[A1,show w.heap[g]? = _ from h]
theorem AB.c2(h:AB w g):w.cell? ⟨g,2,none⟩=some (.string ⟨#[]⟩):=by simp[A1,show w.heap[g]? = _ from h]
theorem AB.fz(h:AB w g)(o:Nat):w.frozen? ⟨g,o,none⟩=false:=by simp[G1,show w.heap[g]? = _ from h]
theorem AB.low(h:AB w g)(hb:CR w.heap.size w w'):AB w' g:=(hb.block g h.lt).trans h
theorem AB.new(w:A4):AB (w.alloc (.cells #[.int .i64 0,.int .i64 0,.string ⟨#[]⟩] 46)) w.heap.size:=by
 show (w.heap.push _)[w.heap.size]? = _;simp
end
theorem An(h:CR B w w')(b o:Nat)(hb:B<=b)(u:A2):CR B w (w'.setCell ⟨b,o,none⟩ u):=h.setCell (by exact hb) u
theorem WK{w0 w3:A4}{lo:Nat}{p2:Option Addr}{v:To}(qd:0<lo)(qe:lo<=w0.heap.size)(q0:Tr top lo w0 (.pointer p2) v)(hb:CR w0.heap.size w0 w3)(hD:w0.heap.size<=D)(hR:w0.heap.size<=R)(hg:w0.heap.size<=g)(q5:D≠R)(q7:D≠g)(qb:R≠g)(hF:∀k,lo<=k->k<w0.heap.size->F k)(fD:F D)(fR:F R)(fg:F g)(q9:DB w3 D (.pointer (some ⟨R,0,none⟩)) (.slice none 0 0) false (.slice none 0 0))(q8:VB w3 R 5 n0 [] (.slice (some ⟨g,0,none⟩) 1 1) (.map none))(q6:Yb w3 g (.pointer p2))(q4:Zy s d e=(0,some v)):
  DU w3 F D R (.pointer p2) d e (v,none):=by
 obtain⟨a,h1,h2,h3,h4⟩:=q0;have h5:=h1.lt;have h6:Ad top w3 (.pointer p2) a:=h1.move fun k hk=>hb.block k (h5 k hk);have ef:fp (top+1) (Zj R g (.slice [a] []))=R::([g]++fp top a):=by
  rw[AN,if_neg (by omega)];simp
 refine⟨⟨Zj R g (.slice [a] []),a,.slice none 0 0,⟨q9,?_,⟨g,rfl⟩,h6,h2,?_,?_⟩,?_,rfl⟩,fD,F9 q4 top,F8 q4⟩
 ·refine⟨R,g,_,rfl,rfl,AI (AI (AI (CH ⟨[a],_,[.pointer p2],rfl,q8,⟨rfl,AI ⟨g,1,#[.pointer p2],rfl,Nat.zero_le _,q6,AT _,by unfold maxLen;omega,rfl,rfl⟩⟩,?_,⟨h6,trivial⟩⟩)))⟩;rw[if_neg (by omega)];rfl
 ·rw[ef];refine F2.2 ⟨fun hm=>?_,F2.2 ⟨fun hm=>?_,h3⟩⟩
  ·rcases CD.1 hm with e|hm
   ·exact qb e
   ·have:=h5 R hm;omega
  ·have:=h5 g hm;omega
 ·rw[ef];intro hm;rcases CD.1 hm with e|hm
  ·exact q5 e
  ·rcases CD.1 hm with e|hm
   ·exact q7 e
   ·have:=h5 D hm;omega
 ·rw[ef];intro k hm;rcases CD.1 hm with rfl|hm
  ·exact fR
  ·rcases CD.1 hm with rfl|hm
   ·exact fg
   ·exact hF k (h4 k hm) (h5 k hm)
structure Ao(F:Nat->Prop)(w w':A4):Prop where
 os:w'.os=w.os
 tape:w'.tape=w.tape
 output:w'.output=w.output
 size:w.heap.size<=w'.heap.size
 block:∀k,k<w.heap.size -> ¬ F k->w'.heap[k]? = w.heap[k]?
theorem Ao.of_below(h:CR w.heap.size w w'):Ao F w w':=⟨h.os,h.tape,h.output,h.size,fun k hk _=>h.block k hk⟩
theorem Ao.trans{a b c:A4}(h:Ao F a b)(k:Ao F' b c)(hF:∀k,k<a.heap.size->F' k->F k):Ao F a c:=
 ⟨k.os.trans h.os,k.tape.trans h.tape,k.output.trans h.output,Nat.le_trans h.size k.size,fun i hi hx=>(k.block i (Nat.lt_of_lt_of_le hi h.size) fun h'=>hx (hF i hi h')).trans (h.block i hi hx)⟩
theorem Ao.setCell{a:A4}(h:Ao F a w){p:Addr}(hp:F p.block\/a.heap.size<=p.block)(u:A2):Ao F a (w.setCell p u):=
 ⟨h.os,h.tape,h.output,by simpa[G2] using h.size,fun k hk hx=>by
  have q0:k≠p.block:=by
   rcases hp with hp|hp
   ·rintro rfl;exact hx hp
   ·omega
  exact (A6 _ _ _ _ q0).trans (h.block k hk hx)⟩
theorem Ao.below(h:Ao F w w')(hF:∀k,k<B -> ¬ F k)(hs:B<=w.heap.size):CR B w w':=
 ⟨h.os,h.tape,h.output,h.size,fun k hk=>h.block k (by omega) (hF k hk)⟩
theorem Ao.mono(h:Ao F w w')(hF:∀k,F k->F' k):Ao F' w w':=⟨h.os,h.tape,h.output,h.size,fun k hk hx=>h.block k hk fun h'=>hx (hF k h')⟩
theorem Ud{lo:Nat}{n:Int}{p:A2}{v:To}{p2:Option Addr}(h:SB w S d e n p)(hS:S<lo)(qn:lo<=w.heap.size)(q4:Tr top lo w (.pointer p2) v)(qh:Zy s d e=(0,some v)):
  D3 Bs 43 #[.pointer (some ⟨S,0,none⟩),.pointer p2] w fun x w'=>x=.returned (Ai (0,0,[]))/\Ao (fun k=>k=S) w w' /\ ∃p',SB w' S d e n p'/\Bf w' (fun k=>lo<=k) p' d e (some (v,none)):=by
 have hlt:=h.lt;have q6:CR w.heap.size w (w.alloc (.cells #[.int .i64 0,.int .i64 0,.string ⟨#[]⟩] 46)):=(G0 _ _).alloc (AT _) _;have h0:=h.low q6;have HS:=Ab h0;have q0:=Ab q4;have qj:=Ab (AB.new w);have qo:=Ab q6;have hsz:(w.alloc (.cells #[.int .i64 0,.int .i64 0,.string ⟨#[]⟩] 46)).heap.size=w.heap.size+1:=by simp
 have qf:=Ab qh;clear h h0 q4 q6 qh
 go_enter func43,ntmps43
 go_wp2_with (fail);generalize w.alloc (.cells #[.int .i64 0,.int .i64 0,.string ⟨#[]⟩] 46)=wa at *
 refine (W7 p2 _).mono ?_;rintro x w3 ⟨D,R,g,rfl,hb3,hD,hR,hg,qi,qk,qp,qg,qe,qb⟩;have s3:=(Aa HS).low hb3;have a3:=(Aa qj).low hb3;have g0:=a3.c0;have g1:=a3.c1;have g2:=a3.c2;have z:=a3.fz;have qm:S≠w.heap.size:=by omega
 have S3:=Ab s3;have q7:=Ab ((Aa qo).trans (hb3.mono (by omega)));have q9:=Ab qg;have q8:=Ab qe;have qd:=Ab qb;have qq:=hb3.size;have zs:=s3.fz;have q3:=s3.c3;clear a3 s3 hb3 qg qe qb;have q5:=Ab (show DU w3 (fun k=>lo<=k/\k≠w.heap.size) D R (.pointer p2) d e (v,none) from WK (by omega) qn (Aa q0) (Aa q7) (by omega) (by omega) (by omega) qi qk qp (fun k h1 h2=>⟨h1,by omega⟩) ⟨by omega,by omega⟩ ⟨by omega,by omega⟩ ⟨by omega,by omega⟩ (Aa q9) (Aa q8) (Aa qd) (Aa qf));clear q0 q9 q8 qd qf hsz
 go_wp2_with (fail);refine bodyPost_ret (v:=Ai (0,0,[])) (by simp[results,results43,go_sem,Ai,g0,g1,g2]) rfl ?_
 have ho:∀k,k≠w.heap.size->((((w3.setCell ⟨S,3,none⟩ (.pointer (some ⟨D,0,none⟩))).setCell ⟨w.heap.size,0,none⟩ (.int .i64 0)).setCell ⟨w.heap.size,1,none⟩ (.int .i64 0)).setCell ⟨w.heap.size,2,none⟩ (.string ⟨#[]⟩)).heap[k]? = (w3.setCell ⟨S,3,none⟩ (.pointer (some ⟨D,0,none⟩))).heap[k]?:=fun k hk=>
  (A6 _ _ _ _ hk).trans ((A6 _ _ _ _ hk).trans (A6 _ _ _ _ hk))
 refine⟨rfl,((((Ao.of_below (F:=fun k=>k=S) (Aa q7)).setCell (p:=⟨S,3,none⟩) (CH rfl) _).setCell (p:=⟨w.heap.size,0,none⟩) (AI (AT _)) _).setCell (p:=⟨w.heap.size,1,none⟩) (AI (AT _)) _).setCell (p:=⟨w.heap.size,2,none⟩) (AI (AT _)) _,_,(ho S qm).trans ((Aa S3).set3 _),D,R,.pointer p2,rfl,(Aa q5).move fun k h1 h2=>⟨(ho k h1.2).trans (A6 _ _ _ _ (by show k≠S;omega)),h1.1⟩⟩
end Go.Proofs.YtdpomdelmdofmaaGreatDoor
