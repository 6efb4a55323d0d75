import Derived.Test.YtdpomdelmdofmaaGreatDoorUnd31
namespace Go.Proofs.YtdpomdelmdofmaaGreatDoor
open Go.Proofs.Tryz
section
open Go.RowKit Go.Maps
namespace Sp
variable{d x:Int}{B:Nat}
theorem BL{t:By}:∀ {s:List By} {v n e:V},Ag v s = .ok n->Aj n t = .ok e->Ag v (s++[t]) = .ok e
 | [],v,n,e,h,hc=>by
  injection h with h;subst h;show (match Aj v t with
   | .ok e=>Ag e []
   | .error c=>.error c)=_
  rw[hc];rfl
 | a::s,v,n,e,h,hc=>by
  rw[Ag] at h;rw[List.cons_append,Ag];cases hk:Aj v a with
  | error c=>rw[hk] at h;cases h
  | ok w =>
   rw[hk] at h;exact BL h hc
theorem Lb{t:By}{i:Nat}:∀ {s:List By} {v n e:V} {q:List Nat},Bz v s=some q->BC q v=some n->pos n t=some i->(A9 n)[i]? = some e->Bz v (s++[t])=some (q++[i])
 | [],v,n,e,q,h,h2,hp,he=>by
  injection h with h;subst h;injection h2 with h2;subst h2;show Bz v [t]=some [i];rw[Bz,hp];simp only[he];rfl
 | a::s,v,n,e,q,h,h2,hp,he=>by
  rw[Bz] at h;rw[List.cons_append,Bz];cases hk:pos v a with
  | none=>rw[hk] at h;cases h
  | some k =>
   rw[hk] at h;simp only at h |-;cases hv:(A9 v)[k]? with
   | none=>rw[hv] at h;cases h
   | some w =>
    rw[hv] at h;simp only at h |-;obtain⟨q',hq',rfl⟩:=Option.map_eq_some_iff.1 h;rw[BC,hv] at h2;rw[Lb hq' h2 hp he];rfl
theorem KU{i:Nat}{e y:V}:∀ {q:List Nat} {v n:V},BC q v=some n->(A9 n)[i]? = some e->Ay (q++[i]) y v=Ay q (CU i y n) v
 | [],v,n,h,he=>by
  cases h;show (match (A9 v)[i]? with
   | some e=>CU i (Ay [] y e) v
   | none=>v)=CU i y v
  rw[he];rfl
 | k::q,v,n,h,he=>by
  rw[BC] at h;cases hv:(A9 v)[k]? with
  | none=>rw[hv] at h;cases h
  | some w =>
   rw[hv] at h;have ih:=KU (y:=y) h he;show (match (A9 v)[k]? with
    | some e=>CU k (Ay (q++[i]) y e) v
    | none=>v)=(match (A9 v)[k]? with
    | some e=>CU k (Ay q (CU i y n) e) v
    | none=>v)
   rw[hv];simp only[ih]
theorem QP{es:List (Lit×V)}{k:By}{i:Nat}{o:V}(y:V)(hs:Bk es)(he:es[i]? = some (Lit.string k,o)):CU i y (.map es) = .map (mput (.string k) y es):=by
 show DataW.map (es.modify i fun p=>(p.1,y))=_;congr 1;have hms:=MY hs i y;refine Gz hms (Cg hs) fun j=>?_;rw[Di hs];have hkk:=DM y es i;split
 ·rename_i e;subst e;refine Ci hms (List.mem_of_getElem? (i:=i) ?_);rw[List.getElem?_modify,he];simp
 ·rename_i hne;rcases Ey es j with⟨c,hc⟩|hn
  ·rw[Ci hs hc];obtain⟨m,hm⟩:=List.mem_iff_getElem?.1 hc;have hmi:i≠m:=fun e=>by
    subst e;rw[he] at hm;injection hm with hm;injection hm with hm _;injection hm with hm;exact hne hm.symm
   refine Ci hms (List.mem_of_getElem? (i:=m) ?_);rw[List.getElem?_modify,hm];simp[hmi]
  ·rw[DO hn,DO fun p hp e=>?_];have h1:p.1∈(es.modify i fun p=>(p.1,y)).map Prod.fst:=List.mem_map.2 ⟨p,hp,rfl⟩;rw[hkk] at h1;obtain⟨r,hr,e2⟩:=List.mem_map.1 h1;exact hn r hr (e2.trans e)
variable{s:List By}{D:V}{es:List (Lit×V)}{q:List Nat}{f:Nat}
theorem EY{k:By}{o:V}(hg:AG es (.string k)=some o):Aj (.map es) k = .ok o:=by rw[Dn,hg]
theorem SO(hD:Fit d x B D)(hf:Ag D s = .ok (.map es))(hq:Bz D s=some q)(hfq:f+1+q.length=top){es1:List (Lit×V)}{c:Nat}(hg:gd d x (f+1) (1+q.length) (.map es1))(hs:sz (f+1) (.map es1)<=sz (f+1) (.map es)+c)(hc:sz top D+c<=B) :
  Fit d x B (Ay q (.map es1) D)/\Ag (Ay q (.map es1) D) s = .ok (.map es1)/\Bz (Ay q (.map es1) D) s=some q/\sz top (Ay q (.map es1) D)<=sz top D+c:=by
 obtain⟨g1,g2,g3⟩:=GO (.map es1) hD.gd hf hq;have h1:gd d x (f+1+q.length) 1 D:=by rw[hfq];exact hD.gd
 have h2:=Kc h1 g3 hg;have h3:=JI (n':=.map es1) h1 g3;rw[hfq] at h2 h3;have h4:=hD.dd;have h5:=hD.sz;exact⟨⟨h2,h4,by omega⟩,g1,g2,by omega⟩
theorem Mi(hq:Bz D s=some q):way D s=q:=by unfold way;rw[hq];rfl
theorem UH(hf:Ag D s = .ok (.map es))(hq:Bz D s=some q){k:By}{o:V}(hg:AG es (.string k)=some o):B7 D (s++[k]) = .ok (Ay q (.map (mdel (.string k) es)) D,[(0,s++[k],o)]):=by
 unfold B7;rw[Cx];simp only[hf,EY hg,Mi hq];rfl
theorem UE(hf:Ag D s = .ok (.map es))(hq:Bz D s=some q){k:By}{o y:V}(hg:AG es (.string k)=some o):CM D (s++[k]) y = .ok (Ay q (.map (mput (.string k) y es)) D,[(2,s++[k],o)]):=by
 unfold CM;rw[Cx];simp only[hf,EY hg,Mi hq];rfl
theorem UN(hf:Ag D s = .ok (.map es))(hq:Bz D s=some q){k:By}{y:V}(hg:AG es (.string k)=none):BU D (s++[k]) y = .ok (Ay q (.map (mput (.string k) y es)) D,[(1,s++[k],.nil)]):=by
 unfold BU;rw[Cx];simp only[hf];rw[Ce,if_neg (Nh hg),Mi hq];rfl
theorem GT{v v1:V}{i:Opn}(hv:Fit d x B v)(h:∃i',[i]=[i']/\EG v1 i' v)(hi:Iv d x B i):Cs d x B v [i] v1:=by
 obtain⟨i',e,hb⟩:=h;injection e with e;subst e;exact⟨hv,hi,v1,hb,rfl⟩
theorem GG(hB:B<=900000000):∀ (f:Nat) (ps:List (Lit×V)) {s:List By} {D:V} {es:List (Lit×V)} {q:List Nat},Fit d x B D->Ag D s = .ok (.map es)->Bz D s=some q->f+1+q.length=top->Mok d x f (1+q.length) ps->(∀t∈s,Ut t)->sz top D+Au f ps<=B ->
  Cs d x B D (AU (mrg f) s ps es).2 (Ay q (.map (AU (mrg f) s ps es).1) D)
 | f,[],s,D,es,q,hD,hf,hq,hfq,_,_,_=>by
  obtain⟨_,_,g3⟩:=GO (.map es) hD.gd hf hq;show D=Ay q (.map es) D;exact (FH q g3).symm
 | f,(kl,qv)::r,s,D,es,q,hD,hf,hq,hfq,hps,hu,hsz=>by
  obtain⟨⟨k,ek,hk⟩,hqv⟩:=hps.2 _ List.mem_cons_self;simp only at ek hqv;subst ek;have hr:Mok d x f (1+q.length) r:=⟨(List.pairwise_cons.1 hps.1).2,fun p hp=>hps.2 p (List.mem_cons_of_mem _ hp)⟩
  have hc:Au f ((Lit.string k,qv)::r)=(Ah k).length+2+sz f qv+Au f r:=Bw _ _ _;obtain⟨q',f',hfq',hq',hsub,hgn,_,hlv,_⟩:=EC hD hf;obtain rfl:q=q':=by rw[hq] at hq';injection hq'
  obtain rfl:f=f':=by omega
  have hmes:=(Dj hgn).2;have hq1:Mok d x f (1+q.length) [(Lit.string k,qv)]:=⟨List.pairwise_singleton _ _,fun p hp=>hps.2 p (by rw[List.mem_singleton.1 hp];exact List.mem_cons_self)⟩
  have hst:Mok d x f (1+q.length) (AW (mrg f) s (.string k,qv) es).1:=(Gf (Gc f) (by omega) (B:=Au f es) s [(.string k,qv)] es hmes hq1 fun r _ c hc=>Lp hc).1;have hss:Au f (AW (mrg f) s (.string k,qv) es).1<=Au f es+Au f [(Lit.string k,qv)]:=Kz (JZ f) (by omega) s [(.string k,qv)] es hmes hq1;have hc1:Au f [(Lit.string k,qv)]=(Ah k).length+2+sz f qv+0:=Bw _ _ _;have hsz1:∀l:List (Lit×V),sz (f+1) (.map l)=2+Au f l:=fun l=>CY f l;obtain⟨n1,n2,n3,n4⟩:=SO hD hf hq hfq (es1:=(AW (mrg f) s (.string k,qv) es).1) (c:=(Ah k).length+2+sz f qv) (hst.gd hlv) (by rw[hsz1,hsz1];omega) (by omega);have huk:=Ou hu hk;have hcost:Cs d x B D (AW (mrg f) s (.string k,qv) es).2 (Ay q (.map (AW (mrg f) s (.string k,qv) es).1) D):=by
   unfold AW;by_cases hn:isNull qv=true
   ·rw[if_pos hn];simp only;cases hg:AG es (.string k) with
    | none=>exact (FH q hsub).symm
    | some o =>
     have hfo:=DY hD (BL hf (EY hg));exact GT hD (Hy hD (UH hf hq hg)) ⟨(by decide:0<3),huk,fun _=>hfo⟩
   ·rw[if_neg hn];simp only;cases f with
    | zero=>exact hqv.elim
    | succ f =>
     cases hg:AG es (.string k) with
     | none=>exact GT hD (FU hD hB (UN hf hq hg)) ⟨(by decide:1<3),huk,fun h=>absurd rfl h⟩
     | some o =>
      have hfs:=BL hf (EY hg);have hfo:=DY hD hfs;by_cases hob:isObj o=true/\isObj qv=true
      ·obtain⟨h1,h2⟩:=hob;obtain⟨es2,rfl⟩:∃es2,o = .map es2:=by
        cases o<;>first|exact⟨_,rfl⟩|cases h1
       obtain⟨ps2,rfl⟩:∃ps2,qv = .map ps2:=by
        cases qv<;>first|exact⟨_,rfl⟩|cases h2
       obtain⟨i,hi,hvi⟩:=H8 hgn (EY hg);obtain⟨o',hio⟩:=OO hi;have e:mrg (f+1) (some (.map es2)) (s++[Ez (.string k)]) (.map ps2)=(.map (AU (mrg f) (s++[k]) ps2 es2).1,(AU (mrg f) (s++[k]) ps2 es2).2):=D8 _ _ _ _;rw[e];have hps2:=(Dj hqv).2;have e1:(1:Int)+(q++[i]).length=1+q.length+1:=by simp;omega
       have e2:sz (f+1) (.map ps2)=2+Au f ps2:=CY f ps2;have ih:=GG hB f ps2 (s:=s++[k]) (D:=D) (es:=es2) (q:=q++[i]) hD hfs (Lb hq hsub hi hvi) (by simp;omega) (by rw[e1];exact hps2) huk (by omega);rw[KU hsub hvi,QP _ hmes.skey hio] at ih;exact ih
      ·have e:mrg (f+1) (some o) (s++[Ez (.string k)]) qv=(Be (f+1) qv,[(2,s++[k],o)]):=by
        cases o<;>cases qv<;>first|rfl|exact absurd ⟨rfl,rfl⟩ hob
       rw[e];exact GT hD (Hw hD (UE hf hq hg)) ⟨(by decide:2<3),huk,fun _=>hfo⟩
  have ih:=GG hB f r n1 n2 n3 hfq hr hu (by omega);rw[IX q _ _ hsub] at ih;exact hcost.append ih
theorem RA(hB:B<=900000000){v p:V}(hv:Fit d x B v)(hp:gd d x top 1 p)(hs:sz top v+sz top p<=B):Cs d x B v (mrg top (some v) [] p).2 (mrg top (some v) [] p).1:=by
 by_cases hob:isObj v=true/\isObj p=true
 ·obtain⟨h1,h2⟩:=hob;obtain⟨es,rfl⟩:∃es,v = .map es:=by
   cases v<;>first|exact⟨_,rfl⟩|cases h1
  obtain⟨ps,rfl⟩:∃ps,p = .map ps:=by
   cases p<;>first|exact⟨_,rfl⟩|cases h2
  have e:mrg top (some (.map es)) [] (.map ps)=(.map (AU (mrg 2000) [] ps es).1,(AU (mrg 2000) [] ps es).2):=D8 _ _ _ _;have hp':gd d x (2000+1) 1 (.map ps):=hp;have e2:sz top (.map ps)=2+Au 2000 ps:=CY 2000 ps;rw[e];exact GG hB 2000 ps (s:=[]) (D:=.map es) (es:=es) (q:=[]) hv rfl rfl rfl (Dj hp').2 (fun t ht=>by cases ht) (by omega)
 ·have e:mrg top (some v) [] p=(Be top p,[(2,[],v)]):=by
   cases v<;>cases p<;>first|rfl|exact absurd ⟨rfl,rfl⟩ hob
  rw[e];exact GT hv (Hw (p:=[]) (y:=Be top p) hv rfl) ⟨(by decide:2<3),(fun t ht=>by cases ht),fun _=>hv⟩
end Sp
end

section
open Go.RowKit Go.Maps
namespace Sp
theorem UB{c:Nat}(hc:Sc c):(A7 (Lib.encodeRune (c:Int))).length<=6/\(128<=c->(A7 (Lib.encodeRune (c:Int))).length<=4):=by
 by_cases h:c<128
 ·rw[C4 c h];refine⟨?_,fun h2=>by omega⟩;have:=Ns (UInt8.ofNat c);simp[A7];omega
 ·have h4:=KG (c:Int);rw[LE _ (Fz c (by omega) hc []).1];exact⟨by omega,fun _=>h4⟩
theorem Qp(n a b c d:Nat):(Lib.decodeN n a b c d).1<128\/((Lib.decodeN n a b c d).1=65533/\(Lib.decodeN n a b c d).2<2)\/2<=(Lib.decodeN n a b c d).2:=by
 unfold Lib.decodeN
 repeat' split
 all_goals first|exact Or.inl (by assumption)|exact Or.inr (Or.inl ⟨rfl,by decide⟩)|exact Or.inr (Or.inr (by simp))
theorem Sx(l:By)(h:l≠[])(h2:128<=(dec l).1)(h3:¬ ((dec l).1=65533/\(dec l).2<2)):2<=(dec l).2:=by
 rw[DZ l h] at h2 h3 |-;rcases Qp l.length (l.getD 0 0).toNat (l.getD 1 0).toNat (l.getD 2 0).toNat (l.getD 3 0).toNat with h4|h4|h4
 ·omega
 ·exact absurd h4 h3
 ·exact h4
theorem UU{l r:By}{c:Nat}(h:chr l=some (c,r)):(A7 (Lib.encodeRune (c:Int))).length+3*r.length<=3*l.length:=by
 have hsc:=SK h;have hen:=UB hsc;unfold chr at h;split at h
 ·rename_i k;have k1:=AO k;unfold esc at h;split at h
  ·rename_i k2;have k3:=AO k2;have:=MD _ _ _ h;omega
  ·have:=LF _ Fy (by decide) _ _ h;omega
 ·split at h
  ·cases h
  ·rename_i hn;injection h with h;injection h with h1 h2;subst h1 h2;have hne:l≠[]:=by
    rintro rfl;exact hn (Or.inr ⟨rfl,by decide⟩)
   have hle:=Gq l;have hpos:=Pj l hne;rw[List.length_drop];by_cases h8:(dec l).1<128
   ·have e:A7 (Lib.encodeRune ((dec l).1:Int))=Cr (UInt8.ofNat (dec l).1):=by rw[C4 _ h8];simp[A7]
    have h5:(Cr (UInt8.ofNat (dec l).1)).length<=2:=by
     have e2:(UInt8.ofNat (dec l).1).toNat=(dec l).1:=by
      rw[UInt8.toNat_ofNat'];omega
     unfold Cr;rw[e2];split
     ·simp
     ·rw[if_neg (fun h=>hn (Or.inl h))];simp
    rw[e];omega
   ·have:=Sx l hne (by omega) (fun h=>hn (Or.inr h));have:=hen.2 (by omega);omega
theorem LJ:∀ (f:Nat) (l s r:By),CN f l=some (s,r)->(A7 s).length+3*r.length+3<=3*l.length
 | 0,_,_,_,h=>by cases h
 | f+1,l,s,r,h=>by
  unfold CN at h;split at h
  ·rename_i k;have:=AO k;injection h with h;injection h with h1 h2;subst h1 h2;simp[A7];omega
  ·split at h
   ·cases h
   ·rename_i c r1 hc;have h1:=UU hc;split at h
    ·cases h
    ·rename_i s1 r2 hx;have h3:=LJ f _ _ _ hx;injection h with h;injection h with h4 h5;subst h4 h5;rw[Js,List.length_append];omega
theorem MG{l s r:By}(h:quo l=some (s,r)):(Ah s).length+3*r.length<=3*l.length:=by
 unfold quo at h;split at h
 ·rename_i k;have k1:=AO k;have:=LJ _ _ _ _ h;unfold Ah;simp only[List.length_cons,List.length_append,List.length_nil];omega
 ·cases h
def nmc(n:Nm):Nat:=if n.2.2=0 then (A6 n).length else n.2.1.length+6
theorem Up{l f r:By}(h:BJ l=some (f,r)):f.length+r.length<=l.length/\(f≠[]->f.length+1+r.length<=l.length):=by
 refine⟨Dk h,fun hf=>?_⟩;unfold BJ at h;have b:=BM l.tail;split at h
 ·rename_i k;have:=AO k;split at h
  ·cases h
  ·injection h with h;injection h with h h';subst h h';omega
 ·injection h with h;injection h with h h';exact absurd h.symm hf
theorem Uu{l r:By}{e:Int}(h:AR l=some (e,r)):r.length<=l.length/\(e≠0->r.length+1<=l.length):=by
 unfold AR at h;have a:=BM l.tail;have b:=BM l.tail.tail;have c:=List.length_tail (l:=l);have d:=List.length_tail (l:=l.tail);split at h
 ·rename_i k;have hl:l.tail.length+1=l.length:=by
   simp only[Bool.or_eq_true] at k;rcases k with k|k<;>exact AO k
  repeat' split at h
  all_goals first|(injection h with h;injection h with h1 h2;subst h2;exact⟨by omega,fun _=>by omega⟩)|cases h
 ·injection h with h;injection h with h1 h2;subst h2;exact⟨Nat.le_refl _,fun hn=>absurd h1.symm hn⟩
theorem Ln{b:Bool}{l r:By}{n:Nm}(h:BH b l=some (n,r)):nmc n+1+4*r.length<=4*l.length+(if b then 4 else 0):=by
 unfold BH at h;have a:=BM l;split at h
 ·cases h
 ·rename_i hd;have hdl:0<(dg l).length:=List.length_pos_iff.2 fun e=>hd (by simp[e]);split at h
  ·cases h
  ·rename_i f r1 h1;obtain⟨f1,f2⟩:=Up h1;split at h
   ·cases h
   ·rename_i e r2 h2;obtain⟨e1,e2⟩:=Uu h2;injection h with h;injection h with h3 h4;subst h4 h3;have t1:=FK (dg l++f) 48;have t2:=FJ (Lib.trimLeftB (dg l++f) 48) 48;rw[List.length_append] at t1;unfold Co;simp only;split
    ·have:nmc (false,[],0)=1:=by decide
     rw[this];split<;>omega
    ·rename_i hw;have hwl:0<(Lib.trimRightB (Lib.trimLeftB (dg l++f) 48) 48).length:=List.length_pos_iff.2 hw;unfold nmc;split
     ·rename_i h0;simp only at h0;have hT:(A6 (b,Lib.trimRightB (Lib.trimLeftB (dg l++f) 48) 48,e - ↑f.length + ↑(Lib.trimLeftB (dg l++f) 48).length - ↑(Lib.trimRightB (Lib.trimLeftB (dg l++f) 48) 48).length)).length<=(if b then 1 else 0)+(Lib.trimRightB (Lib.trimLeftB (dg l++f) 48) 48).length:=by
       unfold A6;simp only;rw[if_neg hw,if_pos h0];cases b<;>simp<;>omega
      split at hT<;>simp_all<;>omega
     ·rename_i h0;simp only at h0 |-;have hx:(Lib.trimRightB (Lib.trimLeftB (dg l++f) 48) 48).length+1+r2.length<=l.length:=by
       by_cases hf:f=[]
       ·subst hf;by_cases he:e=0
        ·subst he;simp only[List.length_nil] at *;omega
        ·have:=e2 he;simp only[List.length_nil] at *;omega
       ·have:=f2 hf;omega
      split<;>omega
theorem TJ{l r:By}{n:Nm}(h:num l=some (n,r)):nmc n+1+4*r.length<=4*l.length:=by
 unfold num at h;split at h
 ·rename_i k;have k1:=AO k;have:=Ln h;simp only[if_true] at this;omega
 ·have:=Ln h;simp only[Bool.false_eq_true,if_false] at this;omega
def cm:Nat->V->Nat
 | 0,_=>0
 | f+1,d=>match d with
  | .slice es _=>2+(es.map fun e=>cm f e+1).sum
  | .map es=>2+(es.map fun p=>(Ah (strOf p.1)).length+2+cm f p.2).sum
  | .agg [.lit (.bool ng),.lit (.string ds),.lit (.int _ ex)]=>nmc (ng,ds,ex)
  | d=>(can (f+1) d).length
theorem XB(n:Int)(h0:-400<=n)(h1:n<=400):(Lib.itoa n).length<=4:=by
 have h:∀k:Fin 801,(Lib.itoa ((k.val:Int)-400)).length<=4:=by decide +kernel
 have:=h ⟨(n+400).toNat,by omega⟩;have e:(((n+400).toNat:Nat):Int)-400=n:=by omega
 rw[e] at this;exact this
theorem Pw{d x:Int}(hx:x<=400):∀ {f:Nat} {lv:Int} {v:V},gd d x f lv v->sz f v<=cm f v
 | 0,_,_,h=>h.elim
 | f+1,lv,v,⟨h0,h⟩=>by
  rcases h with⟨k,hk,rfl⟩|⟨s,hs,rfl⟩|⟨n,h1,h2,h3,rfl⟩|⟨es,h,rfl⟩|⟨es,h1,h2,rfl⟩
  ·exact Nat.le_refl _
  ·exact Nat.le_refl _
  ·show (A6 n).length<=nmc n;unfold nmc;split
   ·exact Nat.le_refl _
   ·rename_i hne;have h4:=XB n.2.2 (by omega) (by omega);unfold A6;rw[if_neg hne];split
    ·simp
    ·simp only[List.length_append,List.length_cons];split<;>simp<;>omega
  ·show 2+(es.map fun e=>sz f e+1).sum<=2+(es.map fun e=>cm f e+1).sum;have:∀l:List V,(∀e∈l,gd d x f (lv+1) e)->(l.map fun e=>sz f e+1).sum<=(l.map fun e=>cm f e+1).sum:=fun l hl=>by
    induction l with
    | nil=>exact Nat.le_refl _
    | cons a l ih =>
     have h5:=Pw hx (hl a List.mem_cons_self);have h6:=ih fun e he=>hl e (List.mem_cons_of_mem _ he);simp only[List.map_cons,List.sum_cons];omega
   have:=this es h;omega
  ·show 2+(es.map fun p=>(Ah (strOf p.1)).length+2+sz f p.2).sum<=2+(es.map fun p=>(Ah (strOf p.1)).length+2+cm f p.2).sum;have:∀l:List (Lit×V),(∀p∈l,gd d x f (lv+1) p.2)->(l.map fun p=>(Ah (strOf p.1)).length+2+sz f p.2).sum<=(l.map fun p=>(Ah (strOf p.1)).length+2+cm f p.2).sum:=fun l hl=>by
    induction l with
    | nil=>exact Nat.le_refl _
    | cons a l ih =>
     have h5:=Pw hx (hl a List.mem_cons_self);have h6:=ih fun e he=>hl e (List.mem_cons_of_mem _ he);simp only[List.map_cons,List.sum_cons];omega
   have:=this es fun p hp=>(h2 p hp).2;omega
end Sp
end

section
open Go.RowKit Go.Maps
def Ei(g:Nat)(es:List (Lit×Sp.V)):Nat:=(es.map fun p=>(Sp.Ah (strOf p.1)).length+2+Sp.cm g p.2).sum
theorem NJ(g:Nat)(x:Lit×Sp.V)(l:List (Lit×Sp.V)):Ei g (DataW.insert x l)=(Sp.Ah (strOf x.1)).length+2+Sp.cm g x.2+Ei g l:=by
 induction l with
 | nil=>rfl
 | cons y r ih =>
  unfold DataW.insert;split
  ·rfl
  ·simp only[Ei,List.map_cons,List.sum_cons] at ih |-; omega
theorem NK(g:Nat)(c:Lit×Sp.V->Bool)(l:List (Lit×Sp.V)):Ei g (l.filter c)<=Ei g l:=by
 induction l with
 | nil=>simp
 | cons y r ih =>
  rw[List.filter_cons];split
  ·simp only[Ei,List.map_cons,List.sum_cons] at ih |-; omega
  ·simp only[Ei,List.map_cons,List.sum_cons] at ih |-; omega
theorem NV{l r:Sp.By}{k:Nat}(h:Sp.Cv l 0 Sp.words=some (k,r)):r.length+4<=l.length:=by
 have hp:∀ (x:Sp.By),Lib.hasPrefix l x=true->x.length<=l.length:=fun x hx=>by
  unfold Lib.hasPrefix at hx;exact (List.isPrefixOf_iff_prefix.1 hx).length_le
 unfold Sp.words at h;simp only[Sp.Cv] at h
 repeat' split at h
 all_goals first
  | (rename_i hq;cases h;have:=hp _ hq;simp only[List.length_drop,List.length_cons,List.length_nil] at *; omega)
  | cases h
theorem Td(f:Nat):∀ (lv:Int) (l:Sp.By) (fl:Sp.Fl) (v:Sp.V) (r:Sp.By) (fl':Sp.Fl),Sp.val f lv l fl=some (v,r,fl') -> ∀g,Sp.cm g v+1+4*r.length<=4*l.length:=by
 induction f with
 | zero=>intro lv l fl v r fl' h;cases h
 | succ f ih =>
  intro lv l fl v r fl' h g;have hlen:=Sp.Ep _ _ _ _ _ _ _ h;cases g with
  | zero=>simp[Sp.cm];omega
  | succ g =>
   unfold Sp.val at h;split at h
   ·split at h
    ·cases h
    ·rename_i h1;have hI:=Dw (σ:=Sp.V×Sp.Fl) (fun m s=>∃es,s.1 = .map es/\Ei g es+4*m.length<=4*l.tail.length) (fun a b s ⟨es,e1,e4⟩ hab=>⟨es,e1,by omega⟩) (by
      rintro a s a' s' ⟨es,e1,e4⟩ hm;unfold Sp.CJ at hm;split at hm
      ·cases hm
      ·rename_i k l1 hq;have q1:=Sp.MG hq;have b:=Sp.AX l1;split at hm
       ·rename_i htk;have ht:=AO htk;have c:=Sp.AX (Sp.skB l1).tail;split at hm
        ·cases hm
        ·rename_i d r2 fl2 hv;have hc:=ih _ _ _ _ _ _ hv g;injection hm with hm;injection hm with h1 h2;subst h1;subst h2;refine⟨DataW.insert (.string k,d) (es.filter fun p=>!p.1.sameKey (.string k)),by rw[e1];rfl,?_⟩;rw[NJ];have h4:=NK g (fun p=>!p.1.sameKey (.string k)) es;show (Sp.Ah k).length+2+Sp.cm g d+Ei g (es.filter fun p=>!p.1.sameKey (.string k))+4*r2.length<=_;omega
       ·cases hm) ⟨[],rfl,by simp[Ei]⟩ h1
     obtain⟨⟨es,e1,e4⟩,hpos⟩:=hI;injection h with h;injection h with h2 h3;injection h3 with h3 h4;subst h2;subst h3;simp only at e1;subst e1;have:=List.length_tail (l:=l);show 2+Ei g es+1+4*_<=_;omega
   ·split at h
    ·split at h
     ·cases h
     ·rename_i h1;have hI:=Dw (σ:=List Sp.V×Sp.Fl) (fun m s=>(s.1.map fun v=>Sp.cm g v+1).sum+4*m.length<=4*l.tail.length) (fun a b s e1 hab=>by omega) (by
       rintro a s a' s' ho hm;unfold Sp.C7 at hm;split at hm
       ·cases hm
       ·rename_i d r2 fl2 hv;have hc:=ih _ _ _ _ _ _ hv g;injection hm with hm;injection hm with h1 h2;subst h1;subst h2;simp only[List.map_append,List.map_cons,List.map_nil,List.sum_append,List.sum_cons,List.sum_nil];omega) (by simp) h1
      obtain⟨e4,hpos⟩:=hI;injection h with h;injection h with h2 h3;injection h3 with h3 h4;subst h2;subst h3;rename_i es2 _;have:=List.length_tail (l:=l);simp only at e4;show 2+(es2.map fun e=>Sp.cm g e+1).sum+1+4*_<=_;omega
    ·split at h
     ·split at h
      ·cases h
      ·rename_i s r1 h1;have q1:=Sp.MG h1;have q0:=Sp.F8 h1;injection h with h;injection h with h2 h3;injection h3 with h3 h4;subst h2;subst h3;show (Sp.Ah s).length+1+4*_<=_;omega
     ·split at h
      ·split at h
       ·cases h
       ·rename_i n r1 h1;have q1:=Sp.TJ h1;injection h with h;injection h with h2 h3;injection h3 with h3 h4;subst h2;subst h3;exact q1
      ·split at h
       ·cases h
       ·rename_i k r1 h1;have q1:=NV h1;injection h with h;injection h with h2 h3;injection h3 with h3 h4;subst h2;subst h3;have q2:=KT k;show (Sp.words.getD k []).length+1+4*_<=_;omega
theorem EQ{t:Sp.By}{d x:Int}{v:Sp.V}(h:Sp.readTo t d x=(0,some v))(hx:x<=400):Sp.sz top v<=8000:=by
 have hg:=Sp.Pw hx (CI h);refine Nat.le_trans hg ?_;unfold Sp.readTo at h;split at h
 ·injection h with h1 h2;cases h2
 ·rename_i hl;have hs:=Sp.AX t;split at h
  ·injection h with h1 h2;cases h2
  ·rename_i v2 r fl hv;have hb:=Td _ _ _ _ _ _ _ hv top
   repeat' split at h
   all_goals injection h with h1 h2
   all_goals first|(injection h2 with h2;subst h2;omega)|cases h2
end

section
set_option maxRecDepth 100000
def Sp.p1:Sp.By:=[91,49,44,50,93]
def Sp.p2:Sp.By:=[91,123,34,111,112,34,58,34,97,100,100,34,44,34,112,97,116,104,34,58,34,47,49,34,44,34,118,97,108,117,101,34,58,57,125,93]
def Sp.p3:Sp.By:=[47,49]
def Sp.p4:Sp.By:=[91,49,44,57,44,50,93]
def Sp.pv1:Sp.V:=Sp.Ar [Sp.Bj (false,[49],0),Sp.Bj (false,[50],0)]
def Sp.pv2:Sp.V:=Sp.Ar [Sp.Bj (false,[49],0),Sp.Bj (false,[57],0),Sp.Bj (false,[50],0)]
def Sp.ppv:Sp.V:=Sp.Ar [Sp.Av [(.string Sp.op_,Sp.Az Sp.Jy),(.string Sp.BE,Sp.Az Sp.p3),(.string Sp.Bg,Sp.Bj (false,[57],0))]]
def Sp.pops:List Sp.Op2:=[(0,[[49]],[],Sp.Bj (false,[57],0))]
def Sp.pinv:List Sp.Opn:=[(1,[[49]],.nil)]
def Sp.ps:List Sp.St:=[(1,Sp.p1,[]),(5,Sp.p2,[]),(2,[],[]),(7,[],[]),(3,Sp.p3,[])]
theorem VR:Sp.readTo Sp.p1 3 9=(0,some Sp.pv1):=by kernel_rfl
theorem VQ:Sp.readTo Sp.p2 5 9=(0,some Sp.ppv):=by kernel_rfl
theorem TB:Sp.Dv Sp.ppv = .ok Sp.pops:=by kernel_rfl
theorem YL:Sp.do1 Sp.pv1 (0,[[49]],[],Sp.Bj (false,[57],0)) = .ok (Sp.pv2,Sp.pinv):=by kernel_rfl
theorem Wk:Sp.Ex 3 Sp.pv2=0:=by kernel_rfl
theorem X7:Sp.can top Sp.pv2=Sp.p4:=by kernel_rfl
theorem XF:Sp.gotA Sp.pv2 Sp.p3=(0,0,[57]):=by kernel_rfl
theorem De{d e n:Int}(hc:Sp.cfg d e n=true)(v:Sp.V×Sp.Inv)(s t:Sp.By):Sp.step d e n (some v) (2,s,t)=((0,0,Sp.can top v.1),some v):=by
 unfold Sp.step;rw[hc,if_pos rfl,if_neg (by simp),if_neg (by simp)];rfl
theorem To{d e n:Int}(hc:Sp.cfg d e n=true)(v:Sp.V×Sp.Inv)(s t:Sp.By):Sp.step d e n (some v) (3,s,t)=(Sp.gotA v.1 s,some v):=by
 unfold Sp.step;rw[hc,if_pos rfl,if_neg (by simp),if_neg (by simp)];rfl
theorem CS{d e n:Int}(hc:Sp.cfg d e n=true)(doc:Sp.Doc)(s t:Sp.By):Sp.step d e n doc (1,s,t)=Sp.ldd (Sp.readTo s d e) doc:=by
 unfold Sp.step;rw[hc,if_pos rfl,if_neg (by simp),if_pos rfl]
theorem Ds{d e n:Int}(hc:Sp.cfg d e n=true)(v:Sp.V×Sp.Inv)(s t:Sp.By):Sp.step d e n (some v) (5,s,t)=((Sp.stPatch d e v s).1,some (Sp.stPatch d e v s).2):=by
 unfold Sp.step;rw[hc,if_pos rfl,if_neg (by simp),if_neg (by simp)];rfl
theorem Pz{d e n:Int}(hc:Sp.cfg d e n=true)(v:Sp.V×Sp.Inv)(s t:Sp.By):Sp.step d e n (some v) (6,s,t)=((Sp.stMerge d e v s).1,some (Sp.stMerge d e v s).2):=by
 unfold Sp.step;rw[hc,if_pos rfl,if_neg (by simp),if_neg (by simp)];rfl
theorem Cz{d e n:Int}(hc:Sp.cfg d e n=true)(v:Sp.V×Sp.Inv)(s t:Sp.By):Sp.step d e n (some v) (7,s,t)=(Sp.stInvert v,some v):=by
 unfold Sp.step;rw[hc,if_pos rfl,if_neg (by simp),if_neg (by simp)];rfl
theorem FL{d e n:Int}(hc:Sp.cfg d e n=true)(k:Int)(h1:1<k)(h9:k<=9)(s t:Sp.By):Sp.step d e n none (k,s,t)=((3,0,[]),none):=by
 unfold Sp.step;rw[hc,if_pos rfl,if_neg (by simp;omega),if_neg (by simp;omega)]
theorem Xe:Sp.run 3 9 100 none Sp.ps=[(0,0,[]),(0,0,[]),(0,0,Sp.p4),(0,0,Sp.BW Sp.pinv.reverse),(0,0,[57])]:=by
 have hc:Sp.cfg 3 9 100=true:=by decide
 have hd:Sp.Bb 3 0 Sp.pv1 [] Sp.pops = .ok (Sp.pv2,Sp.pinv):=by
  unfold Sp.pops Sp.Bb;rw[YL];simp only[Wk,if_true];rfl
 have h5:Sp.stPatch 3 9 (Sp.pv1,none) Sp.p2=((0,0,[]),(Sp.pv2,some Sp.pinv.reverse)):=by
  unfold Sp.stPatch;rw[show (3:Int)+2=5 from rfl,VQ];simp only;rw[TB];simp only;rw[hd]
 simp only[Sp.ps,Sp.run,CS hc,VR,Sp.ldd,Ds hc,h5,De hc,X7,Cz hc,To hc,XF,Sp.stInvert]
end

section
open Go.RowKit
theorem Jb{t:Sp.By}{d x:Int}:(∃c,Sp.readTo t d x=(c,none)/\0<c) \/ ∃v,Sp.readTo t d x=(0,some v):=by
 unfold Sp.readTo;split
 ·exact Or.inl ⟨4,rfl,by omega⟩
 ·split
  ·exact Or.inl ⟨5,rfl,by omega⟩
  ·rename_i v r fl hv;split
   ·split
    ·exact Or.inl ⟨6,rfl,by omega⟩
    ·split
     ·exact Or.inl ⟨7,rfl,by omega⟩
     ·split
      ·exact Or.inl ⟨8,rfl,by omega⟩
      ·exact Or.inr ⟨v,rfl⟩
   ·exact Or.inl ⟨5,rfl,by omega⟩
end

section
open Go.RowKit Go.Maps
namespace Sp
theorem Nu{d x:Int}(hd:d<=100):∀ (l:List Op2) (i:Nat) (v:V) (j0:List Opn) {v':V} {j:List Opn},Fit d x 200000 v->(∀o∈l,OpOk (d+2) x 200000 o)->Bb d i v j0 l = .ok (v',j)->Fit d x 200000 v'/\((can top v).length<=80000->(can top v').length<=80000)
 | [],i,v,j0,v',j,hv,_,h=>by
  unfold Bb at h;injection h with h;injection h with h1 h2;subst h1;exact⟨hv,id⟩
 | o::r,i,v,j0,v',j,hv,ho,h=>by
  unfold Bb at h;split at h
  ·cases h
  ·rename_i d1 j1 hdo;split at h
   ·rename_i hm;obtain⟨f1,_,_⟩:=Iy hv (ho o List.mem_cons_self) hd hdo;obtain⟨f2,f3⟩:=Jg f1 hd hm;obtain⟨f4,f5⟩:=Nu hd r _ d1 _ (f2.mono (Int.le_refl _) (by omega) (by omega)) (fun o h=>ho o (List.mem_cons_of_mem _ h)) h;exact⟨f4,fun _=>f5 (by omega)⟩
   ·cases h
theorem Pd{d:Int}:∀ (l:List Op2) (i:Nat) (v:V) (j0:List Opn) {c k:Nat},Bb d i v j0 l = .error (c,k)->c≠0
 | [],i,v,j0,c,k,h=>by unfold Bb at h;cases h
 | o::r,i,v,j0,c,k,h=>by
  unfold Bb at h;split at h
  ·rename_i c' hdo;injection h with h;injection h with h1 h2;subst h1;exact Sr hdo
  ·split at h
   ·exact Pd r _ _ _ h
   ·rename_i hm;injection h with h;injection h with h1 h2;subst h1;exact hm
end Sp
theorem Mc{d e n:Int}(hc:Sp.cfg d e n=true):1<=d/\d<=20/\0<=e/\e<=400:=by
 unfold Sp.cfg Sp.inB at hc;simp at hc;omega
end
end Go.Proofs.YtdpomdelmdofmaaGreatDoor
