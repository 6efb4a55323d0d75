import Derived.Test.YtdpomdelmdofmaaGreatDoorUnd31
namespace Go.Proofs.YtdpomdelmdofmaaGreatDoor
open Go.Proofs.Tryz
section
open Go.RowKit Go.Maps
namespace Sp
variable{d x:Int}{B:Nat}
theorem bX{t:By}:∀ {s:List By} {v n e:V},ag v s = .ok n->aj n t = .ok e->ag v (s++[t]) = .ok e
 | [],v,n,e,h,hc=>by
  injection h with h;subst h;show (match aj v t with
   | .ok e=>ag e []
   | .error c=>.error c)=_
  rw[hc];rfl
 | a::s,v,n,e,h,hc=>by
  rw[ag] at h;rw[List.cons_append,ag];cases hk:aj v a with
  | error c=>rw[hk] at h;cases h
  | ok w =>
   rw[hk] at h;exact bX h hc
theorem oW{t:By}{i:Nat}:∀ {s:List By} {v n e:V} {q:List Nat},bK v s=some q->bN q v=some n->pos n t=some i->(bi n)[i]? = some e->bK v (s++[t])=some (q++[i])
 | [],v,n,e,q,h,h2,hp,he=>by
  injection h with h;subst h;injection h2 with h2;subst h2;show bK v [t]=some [i];rw[bK,hp];simp only[he];rfl
 | a::s,v,n,e,q,h,h2,hp,he=>by
  rw[bK] at h;rw[List.cons_append,bK];cases hk:pos v a with
  | none=>rw[hk] at h;cases h
  | some k =>
   rw[hk] at h;simp only at h |-;cases hv:(bi v)[k]? with
   | none=>rw[hv] at h;cases h
   | some w =>
    rw[hv] at h;simp only at h |-;obtain⟨q',hq',rfl⟩:=Option.map_eq_some_iff.1 h;rw[bN,hv] at h2;rw[oW hq' h2 hp he];rfl
theorem oI{i:Nat}{e y:V}:∀ {q:List Nat} {v n:V},bN q v=some n->(bi n)[i]? = some e->aC (q++[i]) y v=aC q (dK i y n) v
 | [],v,n,h,he=>by
  cases h;show (match (bi v)[i]? with
   | some e=>dK i (aC [] y e) v
   | none=>v)=dK i y v
  rw[he];rfl
 | k::q,v,n,h,he=>by
  rw[bN] at h;cases hv:(bi v)[k]? with
  | none=>rw[hv] at h;cases h
  | some w =>
   rw[hv] at h;have ih:=oI (y:=y) h he;show (match (bi v)[k]? with
    | some e=>dK k (aC (q++[i]) y e) v
    | none=>v)=(match (bi v)[k]? with
    | some e=>dK k (aC q (dK i y n) e) v
    | none=>v)
   rw[hv];simp only[ih]
theorem v8{es:List (Lit×V)}{k:By}{i:Nat}{o:V}(y:V)(hs:bz es)(he:es[i]? = some (Lit.string k,o)):dK i y (.map es) = .map (mput (.string k) y es):=by
 show DataW.map (es.modify i fun p=>(p.1,y))=_;congr 1;have hms:=rk hs i y;refine jU hms (cP hs) fun j=>?_;rw[ez hs];have hkk:=ff y es i;split
 ·rename_i e;subst e;refine cQ hms (List.mem_of_getElem? (i:=i) ?_);rw[List.getElem?_modify,he];simp
 ·rename_i hne;rcases gq es j with⟨c,hc⟩|hn
  ·rw[cQ hs hc];obtain⟨m,hm⟩:=List.mem_iff_getElem?.1 hc;have hmi:i≠m:=fun e=>by
    subst e;rw[he] at hm;injection hm with hm;injection hm with hm _;injection hm with hm;exact hne hm.symm
   refine cQ hms (List.mem_of_getElem? (i:=m) ?_);rw[List.getElem?_modify,hm];simp[hmi]
  ·rw[fj hn,fj fun p hp e=>?_];have h1:p.1∈(es.modify i fun p=>(p.1,y)).map Prod.fst:=List.mem_map.2 ⟨p,hp,rfl⟩;rw[hkk] at h1;obtain⟨r,hr,e2⟩:=List.mem_map.1 h1;exact hn r hr (e2.trans e)
variable{s:List By}{D:V}{es:List (Lit×V)}{q:List Nat}{f:Nat}
theorem gV{k:By}{o:V}(hg:aK es (.string k)=some o):aj (.map es) k = .ok o:=by rw[eE,hg]
theorem yI(hD:Fit d x B D)(hf:ag D s = .ok (.map es))(hq:bK D s=some q)(hfq:f+1+q.length=top){es1:List (Lit×V)}{c:Nat}(hg:gd d x (f+1) (1+q.length) (.map es1))(hs:sz (f+1) (.map es1)<=sz (f+1) (.map es)+c)(hc:sz top D+c<=B) :
  Fit d x B (aC q (.map es1) D)/\ag (aC q (.map es1) D) s = .ok (.map es1)/\bK (aC q (.map es1) D) s=some q/\sz top (aC q (.map es1) D)<=sz top D+c:=by
 obtain⟨g1,g2,g3⟩:=ke (.map es1) hD.gd hf hq;have h1:gd d x (f+1+q.length) 1 D:=by rw[hfq];exact hD.gd
 have h2:=nI h1 g3 hg;have h3:=mW (n':=.map es1) h1 g3;rw[hfq] at h2 h3;have h4:=hD.dd;have h5:=hD.sz;exact⟨⟨h2,h4,by omega⟩,g1,g2,by omega⟩
theorem qt(hq:bK D s=some q):way D s=q:=by unfold way;rw[hq];rfl
theorem AM(hf:ag D s = .ok (.map es))(hq:bK D s=some q){k:By}{o:V}(hg:aK es (.string k)=some o):cE D (s++[k]) = .ok (aC q (.map (mdel (.string k) es)) D,[(0,s++[k],o)]):=by
 unfold cE;rw[dj];simp only[hf,gV hg,qt hq];rfl
theorem AJ(hf:ag D s = .ok (.map es))(hq:bK D s=some q){k:By}{o y:V}(hg:aK es (.string k)=some o):dC D (s++[k]) y = .ok (aC q (.map (mput (.string k) y es)) D,[(2,s++[k],o)]):=by
 unfold dC;rw[dj];simp only[hf,gV hg,qt hq];rfl
theorem AU(hf:ag D s = .ok (.map es))(hq:bK D s=some q){k:By}{y:V}(hg:aK es (.string k)=none):cj D (s++[k]) y = .ok (aC q (.map (mput (.string k) y es)) D,[(1,s++[k],.nil)]):=by
 unfold cj;rw[dj];simp only[hf];rw[cN,if_neg (rE hg),qt hq];rfl
theorem kj{v v1:V}{i:Opn}(hv:Fit d x B v)(h:∃i',[i]=[i']/\gB v1 i' v)(hi:Iv d x B i):dc d x B v [i] v1:=by
 obtain⟨i',e,hb⟩:=h;injection e with e;subst e;exact⟨hv,hi,v1,hb,rfl⟩
theorem j4(hB:B<=900000000):∀ (f:Nat) (ps:List (Lit×V)) {s:List By} {D:V} {es:List (Lit×V)} {q:List Nat},Fit d x B D->ag D s = .ok (.map es)->bK D s=some q->f+1+q.length=top->Mok d x f (1+q.length) ps->(∀t∈s,Ut t)->sz top D+ay f ps<=B ->
  dc d x B D (aX (mrg f) s ps es).2 (aC q (.map (aX (mrg f) s ps es).1) D)
 | f,[],s,D,es,q,hD,hf,hq,hfq,_,_,_=>by
  obtain⟨_,_,g3⟩:=ke (.map es) hD.gd hf hq;show D=aC q (.map es) D;exact (iV q g3).symm
 | f,(kl,qv)::r,s,D,es,q,hD,hf,hq,hfq,hps,hu,hsz=>by
  obtain⟨⟨k,ek,hk⟩,hqv⟩:=hps.2 _ List.mem_cons_self;simp only at ek hqv;subst ek;have hr:Mok d x f (1+q.length) r:=⟨(List.pairwise_cons.1 hps.1).2,fun p hp=>hps.2 p (List.mem_cons_of_mem _ hp)⟩
  have hc:ay f ((Lit.string k,qv)::r)=(ah k).length+2+sz f qv+ay f r:=bI _ _ _;obtain⟨q',f',hfq',hq',hsub,hgn,_,hlv,_⟩:=gx hD hf;obtain rfl:q=q':=by rw[hq] at hq';injection hq'
  obtain rfl:f=f':=by omega
  have hmes:=(eA hgn).2;have hq1:Mok d x f (1+q.length) [(Lit.string k,qv)]:=⟨List.pairwise_singleton _ _,fun p hp=>hps.2 p (by rw[List.mem_singleton.1 hp];exact List.mem_cons_self)⟩
  have hst:Mok d x f (1+q.length) (aZ (mrg f) s (.string k,qv) es).1:=(jA (jx f) (by omega) (B:=ay f es) s [(.string k,qv)] es hmes hq1 fun r _ c hc=>pj hc).1;have hss:ay f (aZ (mrg f) s (.string k,qv) es).1<=ay f es+ay f [(Lit.string k,qv)]:=oh (ns f) (by omega) s [(.string k,qv)] es hmes hq1;have hc1:ay f [(Lit.string k,qv)]=(ah k).length+2+sz f qv+0:=bI _ _ _;have hsz1:∀l:List (Lit×V),sz (f+1) (.map l)=2+ay f l:=fun l=>dP f l;obtain⟨n1,n2,n3,n4⟩:=yI hD hf hq hfq (es1:=(aZ (mrg f) s (.string k,qv) es).1) (c:=(ah k).length+2+sz f qv) (hst.gd hlv) (by rw[hsz1,hsz1];omega) (by omega);have huk:=ta hu hk;have hcost:dc d x B D (aZ (mrg f) s (.string k,qv) es).2 (aC q (.map (aZ (mrg f) s (.string k,qv) es).1) D):=by
   unfold aZ;by_cases hn:isNull qv=true
   ·rw[if_pos hn];simp only;cases hg:aK es (.string k) with
    | none=>exact (iV q hsub).symm
    | some o =>
     have hfo:=fB hD (bX hf (gV hg));exact kj hD (lf hD (AM hf hq hg)) ⟨(by decide:0<3),huk,fun _=>hfo⟩
   ·rw[if_neg hn];simp only;cases f with
    | zero=>exact hqv.elim
    | succ f =>
     cases hg:aK es (.string k) with
     | none=>exact kj hD (jg hD hB (AU hf hq hg)) ⟨(by decide:1<3),huk,fun h=>absurd rfl h⟩
     | some o =>
      have hfs:=bX hf (gV hg);have hfo:=fB hD hfs;by_cases hob:isObj o=true/\isObj qv=true
      ·obtain⟨h1,h2⟩:=hob;obtain⟨es2,rfl⟩:∃es2,o = .map es2:=by
        cases o<;>first|exact⟨_,rfl⟩|cases h1
       obtain⟨ps2,rfl⟩:∃ps2,qv = .map ps2:=by
        cases qv<;>first|exact⟨_,rfl⟩|cases h2
       obtain⟨i,hi,hvi⟩:=li hgn (gV hg);obtain⟨o',hio⟩:=tD hi;have e:mrg (f+1) (some (.map es2)) (s++[gr (.string k)]) (.map ps2)=(.map (aX (mrg f) (s++[k]) ps2 es2).1,(aX (mrg f) (s++[k]) ps2 es2).2):=fI _ _ _ _;rw[e];have hps2:=(eA hqv).2;have e1:(1:Int)+(q++[i]).length=1+q.length+1:=by simp;omega
       have e2:sz (f+1) (.map ps2)=2+ay f ps2:=dP f ps2;have ih:=j4 hB f ps2 (s:=s++[k]) (D:=D) (es:=es2) (q:=q++[i]) hD hfs (oW hq hsub hi hvi) (by simp;omega) (by rw[e1];exact hps2) huk (by omega);rw[oI hsub hvi,v8 _ hmes.skey hio] at ih;exact ih
      ·have e:mrg (f+1) (some o) (s++[gr (.string k)]) qv=(bp (f+1) qv,[(2,s++[k],o)]):=by
        cases o<;>cases qv<;>first|rfl|exact absurd ⟨rfl,rfl⟩ hob
       rw[e];exact kj hD (lc hD (AJ hf hq hg)) ⟨(by decide:2<3),huk,fun _=>hfo⟩
  have ih:=j4 hB f r n1 n2 n3 hfq hr hu (by omega);rw[me q _ _ hsub] at ih;exact hcost.append ih
theorem xm(hB:B<=900000000){v p:V}(hv:Fit d x B v)(hp:gd d x top 1 p)(hs:sz top v+sz top p<=B):dc d x B v (mrg top (some v) [] p).2 (mrg top (some v) [] p).1:=by
 by_cases hob:isObj v=true/\isObj p=true
 ·obtain⟨h1,h2⟩:=hob;obtain⟨es,rfl⟩:∃es,v = .map es:=by
   cases v<;>first|exact⟨_,rfl⟩|cases h1
  obtain⟨ps,rfl⟩:∃ps,p = .map ps:=by
   cases p<;>first|exact⟨_,rfl⟩|cases h2
  have e:mrg top (some (.map es)) [] (.map ps)=(.map (aX (mrg 2000) [] ps es).1,(aX (mrg 2000) [] ps es).2):=fI _ _ _ _;have hp':gd d x (2000+1) 1 (.map ps):=hp;have e2:sz top (.map ps)=2+ay 2000 ps:=dP 2000 ps;rw[e];exact j4 hB 2000 ps (s:=[]) (D:=.map es) (es:=es) (q:=[]) hv rfl rfl rfl (eA hp').2 (fun t ht=>by cases ht) (by omega)
 ·have e:mrg top (some v) [] p=(bp top p,[(2,[],v)]):=by
   cases v<;>cases p<;>first|rfl|exact absurd ⟨rfl,rfl⟩ hob
  rw[e];exact kj hv (lc (p:=[]) (y:=bp top p) hv rfl) ⟨(by decide:2<3),(fun t ht=>by cases ht),fun _=>hv⟩
end Sp
end

section
open Go.RowKit Go.Maps
namespace Sp
theorem AF{c:Nat}(hc:Sc c):(bg (Lib.encodeRune (c:Int))).length<=6/\(128<=c->(bg (Lib.encodeRune (c:Int))).length<=4):=by
 by_cases h:c<128
 ·rw[dT c h];refine⟨?_,fun h2=>by omega⟩;have:=rN (UInt8.ofNat c);simp[bg];omega
 ·have h4:=oq (c:Int);rw[pH _ (iL c (by omega) hc []).1];exact⟨by omega,fun _=>h4⟩
theorem vC(n a b c d:Nat):(Lib.decodeN n a b c d).1<128\/((Lib.decodeN n a b c d).1=65533/\(Lib.decodeN n a b c d).2<2)\/2<=(Lib.decodeN n a b c d).2:=by
 unfold Lib.decodeN
 repeat' split
 all_goals first|exact Or.inl (by assumption)|exact Or.inr (Or.inl ⟨rfl,by decide⟩)|exact Or.inr (Or.inr (by simp))
theorem yo(l:By)(h:l≠[])(h2:128<=(dec l).1)(h3:¬ ((dec l).1=65533/\(dec l).2<2)):2<=(dec l).2:=by
 rw[fC l h] at h2 h3 |-;rcases vC l.length (l.getD 0 0).toNat (l.getD 1 0).toNat (l.getD 2 0).toNat (l.getD 3 0).toNat with h4|h4|h4
 ·omega
 ·exact absurd h4 h3
 ·exact h4
theorem A6{l r:By}{c:Nat}(h:chr l=some (c,r)):(bg (Lib.encodeRune (c:Int))).length+3*r.length<=3*l.length:=by
 have hsc:=yE h;have hen:=AF hsc;unfold chr at h;split at h
 ·rename_i k;have k1:=aR k;unfold esc at h;split at h
  ·rename_i k2;have k3:=aR k2;have:=qN _ _ _ h;omega
  ·have:=pI _ iK (by decide) _ _ h;omega
 ·split at h
  ·cases h
  ·rename_i hn;injection h with h;injection h with h1 h2;subst h1 h2;have hne:l≠[]:=by
    rintro rfl;exact hn (Or.inr ⟨rfl,by decide⟩)
   have hle:=jK l;have hpos:=ul l hne;rw[List.length_drop];by_cases h8:(dec l).1<128
   ·have e:bg (Lib.encodeRune ((dec l).1:Int))=da (UInt8.ofNat (dec l).1):=by rw[dT _ h8];simp[bg]
    have h5:(da (UInt8.ofNat (dec l).1)).length<=2:=by
     have e2:(UInt8.ofNat (dec l).1).toNat=(dec l).1:=by
      rw[UInt8.toNat_ofNat'];omega
     unfold da;rw[e2];split
     ·simp
     ·rw[if_neg (fun h=>hn (Or.inl h))];simp
    rw[e];omega
   ·have:=yo l hne (by omega) (fun h=>hn (Or.inr h));have:=hen.2 (by omega);omega
theorem pM:∀ (f:Nat) (l s r:By),dE f l=some (s,r)->(bg s).length+3*r.length+3<=3*l.length
 | 0,_,_,_,h=>by cases h
 | f+1,l,s,r,h=>by
  unfold dE at h;split at h
  ·rename_i k;have:=aR k;injection h with h;injection h with h1 h2;subst h1 h2;simp[bg];omega
  ·split at h
   ·cases h
   ·rename_i c r1 hc;have h1:=A6 hc;split at h
    ·cases h
    ·rename_i s1 r2 hx;have h3:=pM f _ _ _ hx;injection h with h;injection h with h4 h5;subst h4 h5;rw[mG,List.length_append];omega
theorem qQ{l s r:By}(h:quo l=some (s,r)):(ah s).length+3*r.length<=3*l.length:=by
 unfold quo at h;split at h
 ·rename_i k;have k1:=aR k;have:=pM _ _ _ _ h;unfold ah;simp only[List.length_cons,List.length_append,List.length_nil];omega
 ·cases h
def nmc(n:Nm):Nat:=if n.2.2=0 then (be n).length else n.2.1.length+6
theorem Ar{l f r:By}(h:bV l=some (f,r)):f.length+r.length<=l.length/\(f≠[]->f.length+1+r.length<=l.length):=by
 refine⟨eB h,fun hf=>?_⟩;unfold bV at h;have b:=bZ l.tail;split at h
 ·rename_i k;have:=aR k;split at h
  ·cases h
  ·injection h with h;injection h with h h';subst h h';omega
 ·injection h with h;injection h with h h';exact absurd h.symm hf
theorem Ax{l r:By}{e:Int}(h:aW l=some (e,r)):r.length<=l.length/\(e≠0->r.length+1<=l.length):=by
 unfold aW at h;have a:=bZ l.tail;have b:=bZ l.tail.tail;have c:=List.length_tail (l:=l);have d:=List.length_tail (l:=l.tail);split at h
 ·rename_i k;have hl:l.tail.length+1=l.length:=by
   simp only[Bool.or_eq_true] at k;rcases k with k|k<;>exact aR k
  repeat' split at h
  all_goals first|(injection h with h;injection h with h1 h2;subst h2;exact⟨by omega,fun _=>by omega⟩)|cases h
 ·injection h with h;injection h with h1 h2;subst h2;exact⟨Nat.le_refl _,fun hn=>absurd h1.symm hn⟩
theorem ph{b:Bool}{l r:By}{n:Nm}(h:bT b l=some (n,r)):nmc n+1+4*r.length<=4*l.length+(if b then 4 else 0):=by
 unfold bT at h;have a:=bZ l;split at h
 ·cases h
 ·rename_i hd;have hdl:0<(dg l).length:=List.length_pos_iff.2 fun e=>hd (by simp[e]);split at h
  ·cases h
  ·rename_i f r1 h1;obtain⟨f1,f2⟩:=Ar h1;split at h
   ·cases h
   ·rename_i e r2 h2;obtain⟨e1,e2⟩:=Ax h2;injection h with h;injection h with h3 h4;subst h4 h3;have t1:=iY (dg l++f) 48;have t2:=iX (Lib.trimLeftB (dg l++f) 48) 48;rw[List.length_append] at t1;unfold cX;simp only;split
    ·have:nmc (false,[],0)=1:=by decide
     rw[this];split<;>omega
    ·rename_i hw;have hwl:0<(Lib.trimRightB (Lib.trimLeftB (dg l++f) 48) 48).length:=List.length_pos_iff.2 hw;unfold nmc;split
     ·rename_i h0;simp only at h0;have hT:(be (b,Lib.trimRightB (Lib.trimLeftB (dg l++f) 48) 48,e - ↑f.length + ↑(Lib.trimLeftB (dg l++f) 48).length - ↑(Lib.trimRightB (Lib.trimLeftB (dg l++f) 48) 48).length)).length<=(if b then 1 else 0)+(Lib.trimRightB (Lib.trimLeftB (dg l++f) 48) 48).length:=by
       unfold be;simp only;rw[if_neg hw,if_pos h0];cases b<;>simp<;>omega
      split at hT<;>simp_all<;>omega
     ·rename_i h0;simp only at h0 |-;have hx:(Lib.trimRightB (Lib.trimLeftB (dg l++f) 48) 48).length+1+r2.length<=l.length:=by
       by_cases hf:f=[]
       ·subst hf;by_cases he:e=0
        ·subst he;simp only[List.length_nil] at *;omega
        ·have:=e2 he;simp only[List.length_nil] at *;omega
       ·have:=f2 hf;omega
      split<;>omega
theorem zH{l r:By}{n:Nm}(h:num l=some (n,r)):nmc n+1+4*r.length<=4*l.length:=by
 unfold num at h;split at h
 ·rename_i k;have k1:=aR k;have:=ph h;simp only[if_true] at this;omega
 ·have:=ph h;simp only[Bool.false_eq_true,if_false] at this;omega
def cm:Nat->V->Nat
 | 0,_=>0
 | f+1,d=>match d with
  | .slice es _=>2+(es.map fun e=>cm f e+1).sum
  | .map es=>2+(es.map fun p=>(ah (strOf p.1)).length+2+cm f p.2).sum
  | .agg [.lit (.bool ng),.lit (.string ds),.lit (.int _ ex)]=>nmc (ng,ds,ex)
  | d=>(can (f+1) d).length
theorem DW(n:Int)(h0:-400<=n)(h1:n<=400):(Lib.itoa n).length<=4:=by
 have h:∀k:Fin 801,(Lib.itoa ((k.val:Int)-400)).length<=4:=by decide +kernel
 have:=h ⟨(n+400).toNat,by omega⟩;have e:(((n+400).toNat:Nat):Int)-400=n:=by omega
 rw[e] at this;exact this
theorem uz{d x:Int}(hx:x<=400):∀ {f:Nat} {lv:Int} {v:V},gd d x f lv v->sz f v<=cm f v
 | 0,_,_,h=>h.elim
 | f+1,lv,v,⟨h0,h⟩=>by
  rcases h with⟨k,hk,rfl⟩|⟨s,hs,rfl⟩|⟨n,h1,h2,h3,rfl⟩|⟨es,h,rfl⟩|⟨es,h1,h2,rfl⟩
  ·exact Nat.le_refl _
  ·exact Nat.le_refl _
  ·show (be n).length<=nmc n;unfold nmc;split
   ·exact Nat.le_refl _
   ·rename_i hne;have h4:=DW n.2.2 (by omega) (by omega);unfold be;rw[if_neg hne];split
    ·simp
    ·simp only[List.length_append,List.length_cons];split<;>simp<;>omega
  ·show 2+(es.map fun e=>sz f e+1).sum<=2+(es.map fun e=>cm f e+1).sum;have:∀l:List V,(∀e∈l,gd d x f (lv+1) e)->(l.map fun e=>sz f e+1).sum<=(l.map fun e=>cm f e+1).sum:=fun l hl=>by
    induction l with
    | nil=>exact Nat.le_refl _
    | cons a l ih =>
     have h5:=uz hx (hl a List.mem_cons_self);have h6:=ih fun e he=>hl e (List.mem_cons_of_mem _ he);simp only[List.map_cons,List.sum_cons];omega
   have:=this es h;omega
  ·show 2+(es.map fun p=>(ah (strOf p.1)).length+2+sz f p.2).sum<=2+(es.map fun p=>(ah (strOf p.1)).length+2+cm f p.2).sum;have:∀l:List (Lit×V),(∀p∈l,gd d x f (lv+1) p.2)->(l.map fun p=>(ah (strOf p.1)).length+2+sz f p.2).sum<=(l.map fun p=>(ah (strOf p.1)).length+2+cm f p.2).sum:=fun l hl=>by
    induction l with
    | nil=>exact Nat.le_refl _
    | cons a l ih =>
     have h5:=uz hx (hl a List.mem_cons_self);have h6:=ih fun e he=>hl e (List.mem_cons_of_mem _ he);simp only[List.map_cons,List.sum_cons];omega
   have:=this es fun p hp=>(h2 p hp).2;omega
end Sp
end

section
open Go.RowKit Go.Maps
def fU(g:Nat)(es:List (Lit×Sp.V)):Nat:=(es.map fun p=>(Sp.ah (strOf p.1)).length+2+Sp.cm g p.2).sum
theorem r9(g:Nat)(x:Lit×Sp.V)(l:List (Lit×Sp.V)):fU g (DataW.insert x l)=(Sp.ah (strOf x.1)).length+2+Sp.cm g x.2+fU g l:=by
 induction l with
 | nil=>rfl
 | cons y r ih =>
  unfold DataW.insert;split
  ·rfl
  ·simp only[fU,List.map_cons,List.sum_cons] at ih |-; omega
theorem sa(g:Nat)(c:Lit×Sp.V->Bool)(l:List (Lit×Sp.V)):fU g (l.filter c)<=fU g l:=by
 induction l with
 | nil=>simp
 | cons y r ih =>
  rw[List.filter_cons];split
  ·simp only[fU,List.map_cons,List.sum_cons] at ih |-; omega
  ·simp only[fU,List.map_cons,List.sum_cons] at ih |-; omega
theorem sr{l r:Sp.By}{k:Nat}(h:Sp.dh l 0 Sp.words=some (k,r)):r.length+4<=l.length:=by
 have hp:∀ (x:Sp.By),Lib.hasPrefix l x=true->x.length<=l.length:=fun x hx=>by
  unfold Lib.hasPrefix at hx;exact (List.isPrefixOf_iff_prefix.1 hx).length_le
 unfold Sp.words at h;simp only[Sp.dh] at h
 repeat' split at h
 all_goals first
  | (rename_i hq;cases h;have:=hp _ hq;simp only[List.length_drop,List.length_cons,List.length_nil] at *; omega)
  | cases h
theorem y7(f:Nat):∀ (lv:Int) (l:Sp.By) (fl:Sp.Fl) (v:Sp.V) (r:Sp.By) (fl':Sp.Fl),Sp.val f lv l fl=some (v,r,fl') -> ∀g,Sp.cm g v+1+4*r.length<=4*l.length:=by
 induction f with
 | zero=>intro lv l fl v r fl' h;cases h
 | succ f ih =>
  intro lv l fl v r fl' h g;have hlen:=Sp.gb _ _ _ _ _ _ _ h;cases g with
  | zero=>simp[Sp.cm];omega
  | succ g =>
   unfold Sp.val at h;split at h
   ·split at h
    ·cases h
    ·rename_i h1;have hI:=eM (σ:=Sp.V×Sp.Fl) (fun m s=>∃es,s.1 = .map es/\fU g es+4*m.length<=4*l.tail.length) (fun a b s ⟨es,e1,e4⟩ hab=>⟨es,e1,by omega⟩) (by
      rintro a s a' s' ⟨es,e1,e4⟩ hm;unfold Sp.dA at hm;split at hm
      ·cases hm
      ·rename_i k l1 hq;have q1:=Sp.qQ hq;have b:=Sp.a8 l1;split at hm
       ·rename_i htk;have ht:=aR htk;have c:=Sp.a8 (Sp.skB l1).tail;split at hm
        ·cases hm
        ·rename_i d r2 fl2 hv;have hc:=ih _ _ _ _ _ _ hv g;injection hm with hm;injection hm with h1 h2;subst h1;subst h2;refine⟨DataW.insert (.string k,d) (es.filter fun p=>!p.1.sameKey (.string k)),by rw[e1];rfl,?_⟩;rw[r9];have h4:=sa g (fun p=>!p.1.sameKey (.string k)) es;show (Sp.ah k).length+2+Sp.cm g d+fU g (es.filter fun p=>!p.1.sameKey (.string k))+4*r2.length<=_;omega
       ·cases hm) ⟨[],rfl,by simp[fU]⟩ h1
     obtain⟨⟨es,e1,e4⟩,hpos⟩:=hI;injection h with h;injection h with h2 h3;injection h3 with h3 h4;subst h2;subst h3;simp only at e1;subst e1;have:=List.length_tail (l:=l);show 2+fU g es+1+4*_<=_;omega
   ·split at h
    ·split at h
     ·cases h
     ·rename_i h1;have hI:=eM (σ:=List Sp.V×Sp.Fl) (fun m s=>(s.1.map fun v=>Sp.cm g v+1).sum+4*m.length<=4*l.tail.length) (fun a b s e1 hab=>by omega) (by
       rintro a s a' s' ho hm;unfold Sp.dW at hm;split at hm
       ·cases hm
       ·rename_i d r2 fl2 hv;have hc:=ih _ _ _ _ _ _ hv g;injection hm with hm;injection hm with h1 h2;subst h1;subst h2;simp only[List.map_append,List.map_cons,List.map_nil,List.sum_append,List.sum_cons,List.sum_nil];omega) (by simp) h1
      obtain⟨e4,hpos⟩:=hI;injection h with h;injection h with h2 h3;injection h3 with h3 h4;subst h2;subst h3;rename_i es2 _;have:=List.length_tail (l:=l);simp only at e4;show 2+(es2.map fun e=>Sp.cm g e+1).sum+1+4*_<=_;omega
    ·split at h
     ·split at h
      ·cases h
      ·rename_i s r1 h1;have q1:=Sp.qQ h1;have q0:=Sp.jt h1;injection h with h;injection h with h2 h3;injection h3 with h3 h4;subst h2;subst h3;show (Sp.ah s).length+1+4*_<=_;omega
     ·split at h
      ·split at h
       ·cases h
       ·rename_i n r1 h1;have q1:=Sp.zH h1;injection h with h;injection h with h2 h3;injection h3 with h3 h4;subst h2;subst h3;exact q1
      ·split at h
       ·cases h
       ·rename_i k r1 h1;have q1:=sr h1;injection h with h;injection h with h2 h3;injection h3 with h3 h4;subst h2;subst h3;have q2:=oH k;show (Sp.words.getD k []).length+1+4*_<=_;omega
theorem gM{t:Sp.By}{d x:Int}{v:Sp.V}(h:Sp.readTo t d x=(0,some v))(hx:x<=400):Sp.sz top v<=8000:=by
 have hg:=Sp.uz hx (dy h);refine Nat.le_trans hg ?_;unfold Sp.readTo at h;split at h
 ·injection h with h1 h2;cases h2
 ·rename_i hl;have hs:=Sp.a8 t;split at h
  ·injection h with h1 h2;cases h2
  ·rename_i v2 r fl hv;have hb:=y7 _ _ _ _ _ _ _ hv top
   repeat' split at h
   all_goals injection h with h1 h2
   all_goals first|(injection h2 with h2;subst h2;omega)|cases h2
end

section
set_option maxRecDepth 100000
def Sp.p1:Sp.By:=[91,49,44,50,93]
def Sp.p2:Sp.By:=[91,123,34,111,112,34,58,34,97,100,100,34,44,34,112,97,116,104,34,58,34,47,49,34,44,34,118,97,108,117,101,34,58,57,125,93]
def Sp.p3:Sp.By:=[47,49]
def Sp.p4:Sp.By:=[91,49,44,57,44,50,93]
def Sp.pv1:Sp.V:=Sp.au [Sp.bw (false,[49],0),Sp.bw (false,[50],0)]
def Sp.pv2:Sp.V:=Sp.au [Sp.bw (false,[49],0),Sp.bw (false,[57],0),Sp.bw (false,[50],0)]
def Sp.ppv:Sp.V:=Sp.au [Sp.az [(.string Sp.op_,Sp.aD Sp.mM),(.string Sp.bP,Sp.aD Sp.p3),(.string Sp.br,Sp.bw (false,[57],0))]]
def Sp.pops:List Sp.Op2:=[(0,[[49]],[],Sp.bw (false,[57],0))]
def Sp.pinv:List Sp.Opn:=[(1,[[49]],.nil)]
def Sp.ps:List Sp.St:=[(1,Sp.p1,[]),(5,Sp.p2,[]),(2,[],[]),(7,[],[]),(3,Sp.p3,[])]
theorem B7:Sp.readTo Sp.p1 3 9=(0,some Sp.pv1):=by kernel_rfl
theorem B6:Sp.readTo Sp.p2 5 9=(0,some Sp.ppv):=by kernel_rfl
theorem zy:Sp.eL Sp.ppv = .ok Sp.pops:=by kernel_rfl
theorem Fc:Sp.do1 Sp.pv1 (0,[[49]],[],Sp.bw (false,[57],0)) = .ok (Sp.pv2,Sp.pinv):=by kernel_rfl
theorem CA:Sp.gp 3 Sp.pv2=0:=by kernel_rfl
theorem Ew:Sp.can top Sp.pv2=Sp.p4:=by kernel_rfl
theorem D4:Sp.gotA Sp.pv2 Sp.p3=(0,0,[57]):=by kernel_rfl
theorem ep{d e n:Int}(hc:Sp.cfg d e n=true)(v:Sp.V×Sp.Inv)(s t:Sp.By):Sp.step d e n (some v) (2,s,t)=((0,0,Sp.can top v.1),some v):=by
 unfold Sp.step;rw[hc,if_pos rfl,if_neg (by simp),if_neg (by simp)];rfl
theorem zk{d e n:Int}(hc:Sp.cfg d e n=true)(v:Sp.V×Sp.Inv)(s t:Sp.By):Sp.step d e n (some v) (3,s,t)=(Sp.gotA v.1 s,some v):=by
 unfold Sp.step;rw[hc,if_pos rfl,if_neg (by simp),if_neg (by simp)];rfl
theorem dI{d e n:Int}(hc:Sp.cfg d e n=true)(doc:Sp.Doc)(s t:Sp.By):Sp.step d e n doc (1,s,t)=Sp.ldd (Sp.readTo s d e) doc:=by
 unfold Sp.step;rw[hc,if_pos rfl,if_neg (by simp),if_pos rfl]
theorem eI{d e n:Int}(hc:Sp.cfg d e n=true)(v:Sp.V×Sp.Inv)(s t:Sp.By):Sp.step d e n (some v) (5,s,t)=((Sp.stPatch d e v s).1,some (Sp.stPatch d e v s).2):=by
 unfold Sp.step;rw[hc,if_pos rfl,if_neg (by simp),if_neg (by simp)];rfl
theorem uC{d e n:Int}(hc:Sp.cfg d e n=true)(v:Sp.V×Sp.Inv)(s t:Sp.By):Sp.step d e n (some v) (6,s,t)=((Sp.stMerge d e v s).1,some (Sp.stMerge d e v s).2):=by
 unfold Sp.step;rw[hc,if_pos rfl,if_neg (by simp),if_neg (by simp)];rfl
theorem dm{d e n:Int}(hc:Sp.cfg d e n=true)(v:Sp.V×Sp.Inv)(s t:Sp.By):Sp.step d e n (some v) (7,s,t)=(Sp.stInvert v,some v):=by
 unfold Sp.step;rw[hc,if_pos rfl,if_neg (by simp),if_neg (by simp)];rfl
theorem iZ{d e n:Int}(hc:Sp.cfg d e n=true)(k:Int)(h1:1<k)(h9:k<=9)(s t:Sp.By):Sp.step d e n none (k,s,t)=((3,0,[]),none):=by
 unfold Sp.step;rw[hc,if_pos rfl,if_neg (by simp;omega),if_neg (by simp;omega)]
theorem Dw:Sp.run 3 9 100 none Sp.ps=[(0,0,[]),(0,0,[]),(0,0,Sp.p4),(0,0,Sp.co Sp.pinv.reverse),(0,0,[57])]:=by
 have hc:Sp.cfg 3 9 100=true:=by decide
 have hd:Sp.bk 3 0 Sp.pv1 [] Sp.pops = .ok (Sp.pv2,Sp.pinv):=by
  unfold Sp.pops Sp.bk;rw[Fc];simp only[CA,if_true];rfl
 have h5:Sp.stPatch 3 9 (Sp.pv1,none) Sp.p2=((0,0,[]),(Sp.pv2,some Sp.pinv.reverse)):=by
  unfold Sp.stPatch;rw[show (3:Int)+2=5 from rfl,B6];simp only;rw[zy];simp only;rw[hd]
 simp only[Sp.ps,Sp.run,dI hc,B7,Sp.ldd,eI hc,h5,ep hc,Ew,dm hc,zk hc,D4,Sp.stInvert]
end

section
open Go.RowKit
theorem mm{t:Sp.By}{d x:Int}:(∃c,Sp.readTo t d x=(c,none)/\0<c) \/ ∃v,Sp.readTo t d x=(0,some v):=by
 unfold Sp.readTo;split
 ·exact Or.inl ⟨4,rfl,by omega⟩
 ·split
  ·exact Or.inl ⟨5,rfl,by omega⟩
  ·rename_i v r fl hv;split
   ·split
    ·exact Or.inl ⟨6,rfl,by omega⟩
    ·split
     ·exact Or.inl ⟨7,rfl,by omega⟩
     ·split
      ·exact Or.inl ⟨8,rfl,by omega⟩
      ·exact Or.inr ⟨v,rfl⟩
   ·exact Or.inl ⟨5,rfl,by omega⟩
end

section
open Go.RowKit Go.Maps
namespace Sp
theorem rP{d x:Int}(hd:d<=100):∀ (l:List Op2) (i:Nat) (v:V) (j0:List Opn) {v':V} {j:List Opn},Fit d x 200000 v->(∀o∈l,OpOk (d+2) x 200000 o)->bk d i v j0 l = .ok (v',j)->Fit d x 200000 v'/\((can top v).length<=80000->(can top v').length<=80000)
 | [],i,v,j0,v',j,hv,_,h=>by
  unfold bk at h;injection h with h;injection h with h1 h2;subst h1;exact⟨hv,id⟩
 | o::r,i,v,j0,v',j,hv,ho,h=>by
  unfold bk at h;split at h
  ·cases h
  ·rename_i d1 j1 hdo;split at h
   ·rename_i hm;obtain⟨f1,_,_⟩:=lK hv (ho o List.mem_cons_self) hd hdo;obtain⟨f2,f3⟩:=ms f1 hd hm;obtain⟨f4,f5⟩:=rP hd r _ d1 _ (f2.mono (Int.le_refl _) (by omega) (by omega)) (fun o h=>ho o (List.mem_cons_of_mem _ h)) h;exact⟨f4,fun _=>f5 (by omega)⟩
   ·cases h
theorem ue{d:Int}:∀ (l:List Op2) (i:Nat) (v:V) (j0:List Opn) {c k:Nat},bk d i v j0 l = .error (c,k)->c≠0
 | [],i,v,j0,c,k,h=>by unfold bk at h;cases h
 | o::r,i,v,j0,c,k,h=>by
  unfold bk at h;split at h
  ·rename_i c' hdo;injection h with h;injection h with h1 h2;subst h1;exact yh hdo
  ·split at h
   ·exact ue r _ _ _ h
   ·rename_i hm;injection h with h;injection h with h1 h2;subst h1;exact hm
end Sp
theorem qj{d e n:Int}(hc:Sp.cfg d e n=true):1<=d/\d<=20/\0<=e/\e<=400:=by
 unfold Sp.cfg Sp.inB at hc;simp at hc;omega
end
end Go.Proofs.YtdpomdelmdofmaaGreatDoor
