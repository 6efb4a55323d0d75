import Derived.Test.YtdpomdelmdofmaaGreatDoorRea39
open List renaming length_append->AI,mem_cons_self->AS,length_tail->AT,map_cons->A3,sum_cons->A4,length_nil->A5,mem_cons_of_mem->A6,length_drop->CD,length_cons->CH
open Go.Lib renaming encodeRune->A1,decodeN->A2,trimLeftB->Bs,trimRightB->CL,hasPrefix->CR
open Go.DataW renaming insert->BY
open UInt8 renaming ofNat->C1
open Nat renaming le_refl->C2
set_option maxRecDepth 100000
namespace Go.Proofs.YtdpomdelmdofmaaGreatDoor
open Go.Proofs.Tryz Go.RowKit Go.Maps
variable{l r:By}{e:Int}
section
variable{d x n:Int}
def Rh(d x n:Int)(f:Nat):Prop:=∀ (s:List By) (D:To) (q:List Nat) (a b:To),eG d x 20000 D->Ah D s=.ok a->A8 D s=some q->f+q.length=top->dY d x f (1+q.length) b->dT top D+dT f b<=20000->fJ d D (A9 n f s a b) (As q b D)
theorem MY{f:Nat}{s:List By}{q:List Nat}(ih:Rh d x n f)(qd:f+1+q.length=top){xs bs:List (Lit×To)}(q8:fA d x f (1+q.length) bs):∀ (ks:List By) (D:To) (es:List (Lit×To)),ks.Nodup->eG d x 20000 D->Ah D s=.ok (.map es)->A8 D s=some q ->
  (∀k∈ks,Aj es (.string k)=Aj xs (.string k))->(∀k∈ks,Aj xs (.string k)=none->Aj bs (.string k)≠none)->dT top D+(ks.map (Bz f bs)).sum<=20000 ->
  ∃es',fJ d D (AN (A9 n f) s xs bs ks) (As q (.map es') D)/\dY d x (f+1) (1+q.length) (.map es') /\ ∀j:By,Aj es' (.string j)=if j∈ks then Aj bs (.string j) else Aj es (.string j)
 | [],D,es,_,hD,hf,hq,_,_,_=>by
  obtain⟨q',f',qf,qb,q5,qe,qv,_⟩:=Co hD hf;obtain rfl:q=q':=by rw[hq] at qb;injection qb
  obtain rfl:f=f':=by omega
  exact⟨es,by rw[Di q q5];exact fJ.nil D,qe,fun j=>by simp⟩
 | k::ks,D,es,hnd,hD,hf,hq,hk,hn,hs=>by
  obtain⟨qr,qi⟩:=List.nodup_cons.1 hnd;obtain⟨q',f',qf,qb,q5,qe,qv,hlv,_⟩:=Co hD hf;obtain rfl:q=q':=by rw[hq] at qb;injection qb
  obtain rfl:f=f':=by omega
  obtain⟨_,q0⟩:=Bt qe;have q4:∀l:List (Lit×To),dT (f+1) (.map l)=2+Ak f l:=fun l=>CN f l;rw[A3,A4] at hs;have qg:=hk k AS;have key:∃q6,fJ d D (match Aj xs (.string k),Aj bs (.string k) with
    | _,none=>[((1,s++[k],.nil):dX)]
    | none,some y=>[(0,s++[k],y)]
    | some u,some y=>A9 n f (s++[k]) u y) (As q (.map q6) D)/\fA d x f (1+q.length) q6/\Ak f q6<=Ak f es+Bz f bs k /\ ∀j:By,Aj q6 (.string j)=if j=k then Aj bs (.string k) else Aj es (.string j):=by
   cases hgb:Aj bs (.string k) with
   | none=>
    cases hgx:Aj xs (.string k) with
    | none=>exact absurd hgb (hn k AS hgx)
    | some o=>
     have q7:Aj es (.string k)=some o:=qg.trans hgx;have hc:Ak f (eR (.string k) es)<=Ak f es:=BF f (fun p=>!p.1.sameKey (.string k)) es;obtain⟨n1,_⟩:=Dn (n1:=.map (eR (.string k) es)) hD hf hq qd ((q0.mdel _).gd hlv) (c:=0) (by rw[q4,q4];omega) (by have:=hD.sz;omega);refine⟨eR (.string k) es,fJ.one (o:=(1,s++[k],.nil)) (Xa hf hq q7) n1,q0.mdel _,by omega,fun j=>?_⟩;exact Un q0.skey k j
   | some y=>
    have hgy:=(q8.2 _ (Ch q8.skey hgb)).2;have qw:Ut k:=by
     obtain⟨s',e,hu⟩:=(q8.2 _ (Ch q8.skey hgb)).1;injection e with e;rw[e];exact hu
    have qm:Bz f bs k=(Ag k).length+2+dT f y:=by unfold Bz;rw[hgb]
    have qh:fA d x f (1+q.length) (eE (.string k) y es):=q0.mput qw hgy;cases hgx:Aj xs (.string k) with
    | none=>
     have q7:Aj es (.string k)=none:=qg.trans hgx;have qk:Ak f (eR (.string k) es)<=Ak f es:=BF f (fun p=>!p.1.sameKey (.string k)) es;have hc:Ak f (eE (.string k) y es)<=Ak f es+Bz f bs k:=by rw[DH,qm];omega
     obtain⟨n1,_⟩:=Dn (n1:=.map (eE (.string k) y es)) hD hf hq qd (qh.gd hlv) (c:=Bz f bs k) (by rw[q4,q4];omega) (by omega);exact⟨eE (.string k) y es,fJ.one (o:=(0,s++[k],y)) (Xj hf hq q7) n1,qh,hc,fun j=>JZ q0.skey k j y⟩
    | some o=>
     have q7:Aj es (.string k)=some o:=qg.trans hgx;have qu:=Ch q0.skey q7;have qk:=Fx (f:=f) qu;have hc:Ak f (eE (.string k) y es)<=Ak f es+Bz f bs k:=by rw[DH,qm];omega
     obtain⟨i,hi,qn⟩:=Gq qe (IX q7);obtain⟨o',qp⟩:=Lx hi;have e1:(1:Int)+(q++[i]).length=1+q.length+1:=by simp;omega
     have h:=ih (s++[k]) D (q++[i]) o y hD (jL hf (IX q7)) (Iy hq q5 hi qn) (by simp;omega) (by rw[e1];exact hgy) (by omega);rw[Io q5 qn,LX _ q0.skey qp] at h;exact⟨eE (.string k) y es,h,qh,hc,fun j=>JZ q0.skey k j y⟩
  obtain⟨q6,hF,qt,qk,qq⟩:=key;obtain⟨n1,n2,n3,n4,n5⟩:=Dn (n1:=.map q6) hD hf hq qd (qt.gd hlv) (c:=Bz f bs k) (by rw[q4,q4];omega) (by omega);have qy:dT (f+1) (.map q6)<=dT (f+1) (.map es)+Bz f bs k:=by rw[q4,q4];omega
  obtain⟨es',qj,qo,qx⟩:=MY ih qd q8 ks _ q6 qi n1 n2 n3 (fun k' q9=>by
   have hne:¬ k'=k:=fun e=>by rw[e] at q9;exact qr q9
   rw[qq,if_neg hne];exact hk k' (A6 _ q9)) (fun k' q9=>hn k' (A6 _ q9)) (by omega)
  rw[DZ q _ _ n5] at qj;refine⟨es',by rw[AN];exact hF.append qj,qo,fun j=>?_⟩
  grind
theorem O8:∀f:Nat,Rh d x n f
 | 0=>fun _ _ _ _ _ _ _ _ _ h _=>h.elim
 | f+1=>fun s D q a b hD hf hq q5 hgb hs=>by
  obtain⟨q',f',qb,q9,q6,q7,qg,hlv,_⟩:=Co hD hf;obtain rfl:q=q':=by rw[hq] at q9;injection q9
  obtain rfl:f=f':=by omega
  have rep:fJ d D (if veq a b=true then [] else [((2,s,b):dX)]) (As q b D):=by
   split
   ·rename_i hv;unfold veq at hv;have e:=@of_decide_eq_true _ (Classical.propDecidable _) hv;subst e;rw[Di q q6];exact fJ.nil D
   ·obtain⟨n1,_⟩:=Dn (n1:=b) hD hf hq q5 hgb (c:=dT (f+1) b) (by omega) (by omega);exact fJ.one (o:=(2,s,b)) (Zd hD hf hq b) n1
  by_cases hm:fI a=true/\fI b=true
  ·obtain⟨h1,h2⟩:=hm;obtain⟨xs,rfl⟩:∃xs,a=.map xs:=by
    cases a<;>first|exact⟨_,rfl⟩|cases h1
   obtain⟨bs,rfl⟩:∃bs,b=.map bs:=by
    cases b<;>first|exact⟨_,rfl⟩|cases h2
   obtain⟨_,q4⟩:=Bt q7;obtain⟨_,q0⟩:=Bt hgb;have qf:=Hg f q0.skey (Gu q4.skey q0.skey);have hsb:dT (f+1) (.map bs)=2+Ak f bs:=CN f bs;obtain⟨es',hF,hg,hj⟩:=MY (O8 f) q5 q0 (BK xs bs) D xs (Gu q4.skey q0.skey) hD hf hq (fun k _=>rfl) (fun k hk hno q8=>by
    rcases (Cw q4.skey q0.skey).1 hk with⟨c,hc⟩|⟨c,hc⟩
    ·rw[BA q4.skey hc] at hno;cases hno
    ·rw[BA q0.skey hc] at q8;cases q8) (by omega)
   have e:es'=bs:=NZ (Bt hg).2.skey q0.skey fun j=>by
    rw[hj j];split
    ·rfl
    ·rename_i hno;have h1:Aj xs (.string j)=none:=by
      rcases CP xs j with⟨c,hc⟩|hn
      ·exact absurd ((Cw q4.skey q0.skey).2 (Or.inl ⟨c,hc⟩)) hno
      ·exact CQ hn
     have h2:Aj bs (.string j)=none:=by
      rcases CP bs j with⟨c,hc⟩|hn
      ·exact absurd ((Cw q4.skey q0.skey).2 (Or.inr ⟨c,hc⟩)) hno
      ·exact CQ hn
     rw[h1,h2]
   subst e;exact hF
  ·by_cases hsl:(∃xs z,a=.slice xs z) /\ ∃bs z,b=.slice bs z
   ·obtain⟨⟨xs,z,rfl⟩,bs,z',rfl⟩:=hsl;have hz:z=[]:=by
     rcases q7.2 with⟨k,hk,e⟩|⟨s,hs,e⟩|⟨m,h1,h2,h3,e⟩|⟨es',h,e⟩|⟨es',h1,h2,e⟩
     ·cases e
     ·cases e
     ·cases e
     ·injection e
     ·cases e
    have qe:z'=[]:=by
     rcases hgb.2 with⟨k,hk,e⟩|⟨s,hs,e⟩|⟨m,h1,h2,h3,e⟩|⟨es',h,e⟩|⟨es',h1,h2,e⟩
     ·cases e
     ·cases e
     ·cases e
     ·injection e
     ·cases e
    subst hz qe;have qd:=(EK.1 hgb).2;have hsb:dT (f+1) (.slice bs [])=2+ER f bs:=EE f bs;show fJ d D (if ((xs.length:Int)+1)*((bs.length:Int)+1)<=n then B6 s xs bs else if veq (.slice xs []) (.slice bs [])=true then [] else [(2,s,.slice bs [])]) _;split
    ·exact UW q5 qd hD hf hq (by omega)
    ·exact rep
   ·have e:A9 n (f+1) s a b=if veq a b=true then [] else [((2,s,b):dX)]:=by
     cases a<;>cases b<;>first|rfl|exact absurd ⟨rfl,rfl⟩ hm|exact absurd ⟨⟨_,_,rfl⟩,_,_,rfl⟩ hsl
    rw[e];exact rep
end
theorem WZ{c:Nat}(hc:Sc c):(AK (A1 (c:Int))).length<=6/\(128<=c->(AK (A1 (c:Int))).length<=4):=by
 by_cases h:c<128
 ·rw[Db c h];refine⟨?_,fun h2=>by omega⟩;have:=O0 (C1 c)
  grind [AK]
 ·have h4:=LI (c:Int);rw[MR _ (F4 c (by omega) hc []).1];omega
theorem So(n a b c d:Nat):(A2 n a b c d).1<128\/((A2 n a b c d).1=65533/\(A2 n a b c d).2<2)\/2<=(A2 n a b c d).2:=by
 grind [A2]
theorem U1(l:By)(h:l≠[])(h2:128<=(fG l).1)(h3:¬ ((fG l).1=65533/\(fG l).2<2)):2<=(fG l).2:=by
 rw[Eb l h] at h2 h3 |-;rcases So l.length (l.getD 0 0).toNat (l.getD 1 0).toNat (l.getD 2 0).toNat (l.getD 3 0).toNat with h4|h4|h4
 ·omega
 ·omega
 ·exact h4
theorem Xr{c:Nat}(h:fS l=some (c,r)):(AK (A1 (c:Int))).length+3*r.length<=3*l.length:=by
 have q0:=Vd h;have q4:=WZ q0;unfold fS at h;split at h
 ·rename_i k;have k1:=Bb k;unfold gZ at h;split at h
  ·rename_i k2;have k3:=Bb k2;have:=N3 _ _ _ h;omega
  ·have:=MS _ F0 (by decide) _ _ h;omega
 ·split at h
  ·cases h
  ·rename_i hn;injection h with h;injection h with h1 h2;subst h1 h2;have hne:l≠[]:=by
    rintro rfl;exact hn (Or.inr ⟨rfl,by decide⟩)
   have q5:=IR l;have hpos:=Q7 l hne;rw[CD];by_cases h8:(fG l).1<128
   ·have e:AK (A1 ((fG l).1:Int))=B1 (C1 (fG l).1):=by rw[Db _ h8];simp[AK]
    grind [CD,AK,UInt8.toNat_ofNat',fS,gZ,B1]
   ·have:=U1 l hne (by omega) (fun h=>hn (Or.inr h));omega
theorem M6:∀ (f:Nat) (l s r:By),C5 f l=some (s,r)->(AK s).length+3*r.length+3<=3*l.length
 | 0,_,_,_,h=>by cases h
 | f+1,l,s,r,h=>by
  unfold C5 at h;split at h
  ·rename_i k;have:=Bb k
   grind [AK,Hq,AI]
  ·split at h
   ·cases h
   ·rename_i c r1 hc;have h1:=Xr hc;split at h
    ·cases h
    ·rename_i s1 r2 hx;have h3:=M6 f _ _ _ hx
     grind [AK,Hq,AI]
theorem Ob{s:By}(h:gG l=some (s,r)):(Ag s).length+3*r.length<=3*l.length:=by
 unfold gG at h;split at h
 ·rename_i k;have k1:=Bb k;have:=M6 _ _ _ _ h
  grind [CH,AI,A5,gG,Ag]
 ·cases h
def iX(n:Nm):Nat:=if n.2.2=0 then (Cm n).length else n.2.1.length+6
theorem WN{f:By}(h:Dq l=some (f,r)):f.length+r.length<=l.length/\(f≠[]->f.length+1+r.length<=l.length):=by
 refine⟨FW h,fun hf=>?_⟩;unfold Dq at h;have b:=Cz l.tail;split at h
 ·rename_i k;have:=Bb k
  grind
 grind
theorem WS(h:Cb l=some (e,r)):r.length<=l.length/\(e≠0->r.length+1<=l.length):=by
 unfold Cb at h;have a:=Cz l.tail;have b:=Cz l.tail.tail;have c:=AT (l:=l);have d:=AT (l:=l.tail);split at h
 ·rename_i k;have hl:l.tail.length+1=l.length:=by
   simp only[Bool.or_eq_true] at k;rcases k with k|k<;>exact Bb k
  grind
 grind
theorem Mw{b:Bool}{n:Nm}(h:CC b l=some (n,r)):iX n+1+4*r.length<=4*l.length+(if b then 4 else 0):=by
 unfold CC at h;have a:=Cz l;split at h
 ·cases h
 ·rename_i hd;have q0:0<(dg l).length:=by grind
  split at h
  ·cases h
  ·rename_i f r1 h1;obtain⟨f1,f2⟩:=WN h1;split at h
   ·cases h
   ·rename_i e r2 h2;obtain⟨e1,e2⟩:=WS h2;injection h with h;injection h with h3 h4;subst h4 h3;have kN:=Ge (dg l++f) 48;have lE:=Gd (Bs (dg l++f) 48) 48;rw[AI] at kN;unfold C0;simp only;split
    ·grind [A5,AI,CC,C0,iX,Cm]
    ·rename_i hw;have q4:0<(CL (Bs (dg l++f) 48) 48).length:=List.length_pos_iff.2 hw;unfold iX;split
     ·grind [A5,AI,CC,C0,iX,Cm]
     ·rename_i h0;simp only at h0 |-;have hx:(CL (Bs (dg l++f) 48) 48).length+1+r2.length<=l.length:=by
       by_cases hf:f=[]
       ·grind
       grind
      omega
theorem V9{n:Nm}(h:gO l=some (n,r)):iX n+1+4*r.length<=4*l.length:=by
 unfold gO at h;split at h
 ·rename_i k;have k1:=Bb k;have:=Mw h
  grind
 ·have:=Mw h
  grind
def cm:Nat->To->Nat
 | 0,_=>0
 | f+1,d=>match d with
  | .slice es _=>2+(es.map fun e=>cm f e+1).sum
  | .map es=>2+(es.map fun p=>(Ag (strOf p.1)).length+2+cm f p.2).sum
  | .agg [.lit (.bool ng),.lit (.string ds),.lit (.int _ ex)]=>iX (ng,ds,ex)
  | d=>(dZ (f+1) d).length
theorem Z3(n:Int)(h0:-400<=n)(h1:n<=400):(Lib.itoa n).length<=4:=by
 have h:∀k:Fin 801,(Lib.itoa ((k.val:Int)-400)).length<=4:=by decide +kernel
 have:=h ⟨(n+400).toNat,by omega⟩
 grind
theorem Rl{d x:Int}(hx:x<=400):∀ {f:Nat} {dU:Int} {v:To},dY d x f dU v->dT f v<=cm f v
 | 0,_,_,h=>h.elim
 | f+1,dU,v,⟨h0,h⟩=>by
  rcases h with⟨k,hk,rfl⟩|⟨s,hs,rfl⟩|⟨n,h1,h2,h3,rfl⟩|⟨es,h,rfl⟩|⟨es,h1,h2,rfl⟩
  ·exact C2 _
  ·exact C2 _
  ·show (Cm n).length<=iX n;unfold iX;split
   ·omega
   ·rename_i hne;have h4:=Z3 n.2.2 (by omega) (by omega);unfold Cm;rw[if_neg hne];split
    ·simp
    ·simp only[AI,CH];split<;>simp<;>omega
  ·show 2+(es.map fun e=>dT f e+1).sum<=2+(es.map fun e=>cm f e+1).sum;have:∀l:List To,(∀e∈l,dY d x f (dU+1) e)->(l.map fun e=>dT f e+1).sum<=(l.map fun e=>cm f e+1).sum:=fun l hl=>by
    induction l with
    | nil=>grind
    | cons a l ih=>
     have h5:=Rl hx (hl a AS)
     grind
   grind
  ·show 2+(es.map fun p=>(Ag (strOf p.1)).length+2+dT f p.2).sum<=2+(es.map fun p=>(Ag (strOf p.1)).length+2+cm f p.2).sum;have:∀l:List (Lit×To),(∀p∈l,dY d x f (dU+1) p.2)->(l.map fun p=>(Ag (strOf p.1)).length+2+dT f p.2).sum<=(l.map fun p=>(Ag (strOf p.1)).length+2+cm f p.2).sum:=fun l hl=>by
    induction l with
    | nil=>grind
    | cons a l ih=>
     have h5:=Rl hx (hl a AS)
     grind
   grind
def Ew(g:Nat)(es:List (Lit×To)):Nat:=(es.map fun p=>(Ag (strOf p.1)).length+2+cm g p.2).sum
theorem Ph(g:Nat)(x:Lit×To)(l:List (Lit×To)):Ew g (BY x l)=(Ag (strOf x.1)).length+2+cm g x.2+Ew g l:=by
 induction l with
 | nil=>rfl
 | cons y r ih=>
  unfold BY;split
  ·rfl
  ·simp only[Ew,A3,A4] at ih |-; omega
theorem Pi(g:Nat)(c:Lit×To->Bool)(l:List (Lit×To)):Ew g (l.filter c)<=Ew g l:=by
 induction l with
 | nil=>simp
 | cons y r ih=>
  rw[List.filter_cons];split
  ·simp only[Ew,A3,A4] at ih |-; omega
  ·simp only[Ew,A3,A4] at ih |-; omega
theorem PA{k:Nat}(h:Cu l 0 gL=some (k,r)):r.length+4<=l.length:=by
 have hp:∀ (x:By),CR l x=true->x.length<=l.length:=fun x hx=>by
  unfold CR at hx
  grind
 unfold gL at h;simp only[Cu] at h
 grind
theorem VC(f:Nat):∀ (lv:Int) (l:By) (fl:Fl) (v:To) (r:By) (fl':Fl),eN f lv l fl=some (v,r,fl') -> ∀g,cm g v+1+4*r.length<=4*l.length:=by
 induction f with
 | zero=>intro lv l fl v r fl' h;cases h
 | succ f ih=>
  intro lv l fl v r fl' h g;have q6:=EC _ _ _ _ _ _ _ h;cases g with
  | zero=>simp[cm];omega
  | succ g=>
   unfold eN at h;split at h
   ·split at h
    ·cases h
    ·rename_i h1;have hI:=DC (σ:=To×Fl) (fun m s=>∃es,s.1=.map es/\Ew g es+4*m.length<=4*l.tail.length) (by grind) (by
      rintro a s a' s' ⟨es,e1,e4⟩ hm;unfold Cr at hm;split at hm
      ·cases hm
      ·rename_i k l1 hq;have q1:=Ob hq;have b:=AY l1;split at hm
       ·rename_i htk;have ht:=Bb htk;have c:=AY (eF l1).tail;split at hm
        ·cases hm
        ·rename_i d r2 q5 hv;have hc:=ih _ _ _ _ _ _ hv g;injection hm with hm;injection hm with h1 h2;subst h1;subst h2;refine⟨BY (.string k,d) (es.filter fun p=>!p.1.sameKey (.string k)),by rw[e1];rfl,?_⟩;rw[Ph];have h4:=Pi g (fun p=>!p.1.sameKey (.string k)) es;show (Ag k).length+2+cm g d+Ew g (es.filter fun p=>!p.1.sameKey (.string k))+4*r2.length<=_;omega
       ·cases hm) ⟨[],rfl,by simp[Ew]⟩ h1
     obtain⟨⟨es,e1,e4⟩,hpos⟩:=hI;injection h with h;injection h with h2 h3;injection h3 with h3 h4;subst h2;subst h3;simp only at e1;subst e1;have:=AT (l:=l);show 2+Ew g es+1+4*_<=_;omega
   ·split at h
    ·split at h
     ·cases h
     ·rename_i h1;have hI:=DC (σ:=List To×Fl) (fun m s=>(s.1.map fun v=>cm g v+1).sum+4*m.length<=4*l.tail.length) (by omega) (by
       rintro a s a' s' ho hm;unfold CI at hm;split at hm
       ·cases hm
       ·rename_i d r2 q5 hv;have hc:=ih _ _ _ _ _ _ hv g
        grind) (by simp) h1
      obtain⟨e4,hpos⟩:=hI;injection h with h;injection h with h2 h3;injection h3 with h3 h4;subst h2;subst h3;rename_i q4 _;have:=AT (l:=l);simp only at e4;show 2+(q4.map fun e=>cm g e+1).sum+1+4*_<=_;omega
    ·split at h
     ·split at h
      ·cases h
      ·rename_i s r1 h1;have q1:=Ob h1;have q0:=GJ h1;injection h with h;injection h with h2 h3;injection h3 with h3 h4;subst h2;subst h3;show (Ag s).length+1+4*_<=_;omega
     ·split at h
      ·split at h
       ·cases h
       ·rename_i n r1 h1;have q1:=V9 h1;injection h with h;injection h with h2 h3;injection h3 with h3 h4;subst h2;subst h3;exact q1
      ·split at h
       ·cases h
       ·rename_i k r1 h1;have q1:=PA h1;injection h with h;injection h with h2 h3;injection h3 with h3 h4;subst h2;subst h3;have q2:=LW k;show (gL.getD k []).length+1+4*_<=_;omega
theorem Mf{t:By}{d x:Int}{v:To}(h:eH t d x=(0,some v))(hx:x<=400):dT top v<=8000:=by
 have hg:=Rl hx (Ej h);refine Nat.le_trans hg ?_;unfold eH at h;split at h
 ·grind
 ·rename_i hl;have hs:=AY t;split at h
  ·grind
  ·rename_i v2 r fl hv;have hb:=VC _ _ _ _ _ _ _ hv top
   grind
def kB:By:=[91,49,44,50,93]
def kC:By:=[91,123,34,111,112,34,58,34,97,100,100,34,44,34,112,97,116,104,34,58,34,47,49,34,44,34,118,97,108,117,101,34,58,57,125,93]
def kD:By:=[47,49]
def kE:By:=[91,49,44,57,44,50,93]
def jT:To:=Af [Bd (false,[49],0),Bd (false,[50],0)]
def jH:To:=Af [Bd (false,[49],0),Bd (false,[57],0),Bd (false,[50],0)]
def kP:To:=Af [Ap [(.string fF,Ao Kb),(.string AZ,Ao kD),(.string AU,Bd (false,[57],0))]]
def kF:List fO:=[(0,[[49]],[],Bd (false,[57],0))]
def jU:List dX:=[(1,[[49]],.nil)]
def eV:List St:=[(1,kB,[]),(5,kC,[]),(2,[],[]),(7,[],[]),(3,kD,[])]
theorem Ys:eH kB 3 9=(0,some jT):=by kernel_rfl
theorem Yr:eH kC 5 9=(0,some kP):=by kernel_rfl
theorem VX:DA kP=.ok kF:=by kernel_rfl
theorem cI:gW jT (0,[[49]],[],Bd (false,[57],0))=.ok (jH,jU):=by kernel_rfl
theorem dP:Fj 3 jH=0:=by kernel_rfl
theorem aS:dZ top jH=kE:=by kernel_rfl
theorem Z7:iS jH kD=(0,0,[57]):=by kernel_rfl
theorem Is{d n:Int}(hc:fH d e n=true)(v:To×eL)(s t:By):eM d e n (some v) (2,s,t)=((0,0,dZ top v.1),some v):=by
 unfold eM;rw[hc,if_pos rfl,if_neg (by simp),if_neg (by simp)];rfl
theorem VK{d n:Int}(hc:fH d e n=true)(v:To×eL)(s t:By):eM d e n (some v) (3,s,t)=(iS v.1 s,some v):=by
 unfold eM;rw[hc,if_pos rfl,if_neg (by simp),if_neg (by simp)];rfl
theorem Eh{d n:Int}(hc:fH d e n=true)(doc:gP)(s t:By):eM d e n doc (1,s,t)=gX (eH s d e) doc:=by
 unfold eM;grind
theorem Ko{d n:Int}(hc:fH d e n=true)(v:To×eL)(s t:By):eM d e n (some v) (5,s,t)=((iB d e v s).1,some (iB d e v s).2):=by
 unfold eM;rw[hc,if_pos rfl,if_neg (by simp),if_neg (by simp)];rfl
theorem Rn{d n:Int}(hc:fH d e n=true)(v:To×eL)(s t:By):eM d e n (some v) (6,s,t)=((iM d e v s).1,some (iM d e v s).2):=by
 unfold eM;rw[hc,if_pos rfl,if_neg (by simp),if_neg (by simp)];rfl
theorem PB{d n:Int}(hc:fH d e n=true)(v:To×eL)(s t:By):eM d e n (some v) (7,s,t)=(iR v,some v):=by
 unfold eM;rw[hc,if_pos rfl,if_neg (by simp),if_neg (by simp)];rfl
theorem Gf{d n:Int}(hc:fH d e n=true)(v:To×eL)(s t:By):eM d e n (some v) (8,s,t)=(iU d e n v s,some v):=by
 unfold eM;rw[hc,if_pos rfl,if_neg (by simp),if_neg (by simp)];rfl
theorem Ro{d n:Int}(hc:fH d e n=true)(v:To×eL)(s t:By):eM d e n (some v) (9,s,t)=(jI d e v s,some v):=by
 unfold eM;rw[hc,if_pos rfl,if_neg (by simp),if_neg (by simp)];rfl
theorem Te{d n:Int}(hc:fH d e n=true)(k:Int)(h1:1<k)(h9:k<=9)(s t:By):eM d e n none (k,s,t)=((3,0,[]),none):=by
 unfold eM;grind
theorem ZI:fU 3 9 100 none eV=[(0,0,[]),(0,0,[]),(0,0,kE),(0,0,Br jU.reverse),(0,0,[57])]:=by
 have hc:fH 3 9 100=true:=by decide
 have hd:Cc 3 0 jT [] kF=.ok (jH,jU):=by
  unfold kF Cc;rw[cI];rfl
 have h5:iB 3 9 (jT,none) kC=((0,0,[]),(jH,some jU.reverse)):=by
  unfold iB;rw[show (3:Int)+2=5 from rfl,Yr];simp only;rw[VX]
  grind
 simp only[eV,fU,Eh hc,Ys,gX,Ko hc,h5,Is hc,aS,PB hc,VK hc,Z7,iR]
theorem N7{t:By}{d x:Int}:(∃c,eH t d x=(c,none)/\0<c) \/ ∃v,eH t d x=(0,some v):=by
 unfold eH;split
 ·grind
 ·split
  ·grind
  ·rename_i v r fl hv;split
   ·split
    ·grind
    ·split
     ·grind
     ·split
      ·grind
      grind
   grind
end Go.Proofs.YtdpomdelmdofmaaGreatDoor
