import Derived.Test.YtdpomdelmdofmaaGreatDoorPfx31
import Derived.RangeFuncNested
import Derived.RangeFuncBound
import Derived.RangeFuncCalls
import Derived.RangeFuncLeaves
import Derived.Shelf.Abstract
import Derived.Shelf.RegionOpen
import Derived.OwnWalkIn
import Derived.TacticsInMore
import Derived.LoopNIn
import Derived.LoopIn
open Go.Proofs.Tryz renaming prog->AI
open List renaming dropLast_concat_getLast->AS,length_eq_zero_iff->A6,getElem_mem->C1
open Go.World renaming putObj_heap_other->AT,putObj_heap_same->A4,alloc_heap_new->CL
open Go.RowKit renaming Below->A1
open Go renaming World->A2,Calls->A3,Value->CH
open Array renaming getElem?_eq_some_iff->A5
open Go.RowKit.Below renaming heap_alloc->BY,refl->Dt
open Go.Fence renaming wide->CD
open Nat renaming lt_of_lt_of_le->CR,le_refl->Dp
open Go.IntKind renaming wrap_i64->C2
open Or renaming inr->DD,inl->D0
set_option maxHeartbeats 4000000
set_option maxRecDepth 100000
namespace Go.Proofs.YtdpomdelmdofmaaGreatDoor
open Go.Proofs.Tryz Go.RowKit Go.Maps
variable{f i c:Nat}{m:Zf}{p:List By}{w':A2}
theorem Q7{w:A2}{u:CH}{c:Zf}{t:By}{d x lv:Int}(hu:Ad (f+1) w u m)(hg:Zl d x (f+1) lv (Zi (f+1) m))(hp:aQ (Zi (f+1) m) t=some i)(hk:(AH m)[i]? = some c):AR m ((ZO t).getD 0) t c:=by
 obtain⟨b,g,xx,rfl,rfl,h⟩:=hu;rcases h with⟨k,_,_,rfl,_⟩|⟨n,_,rfl,_⟩|⟨s,_,rfl,_⟩|⟨al,sl,ps,rfl,h,ho,hs,ha⟩|⟨es,n,D,rfl,h,ho,q7⟩
 ·rw[EI] at hk;cases hk
 ·rw[Fo] at hk;cases hk
 ·rw[Fm] at hk;cases hk
 ·rw[BO] at hk;rw[Bn] at hp;unfold aQ Ap at hp;simp only at hp;cases hi:ZO t with
  | none=>rw[hi] at hp;cases hp
  | some j=>
   rw[hi] at hp;simp only at hp;split at hp
   ·injection hp with hp;subst hp;exact D0 ⟨b,g,al,rfl,hk⟩
   ·cases hp
 ·rw[Bx] at hk;rw[AZ] at hp hg;have q0:AL (es.map fun p=>(p.1,Zi f p.2)):=by
   obtain⟨_,hh⟩:=hg;rcases hh with⟨_,_,hh⟩|⟨_,_,hh⟩|⟨_,_,_,_,hh⟩|⟨_,_,hh⟩|⟨es',h1,h2,hh⟩
   ·cases hh
   ·cases hh
   ·cases hh
   ·cases hh
   ·injection hh with hh;subst hh;exact⟨h1,by grind⟩
  have q4:AL es:=by
   refine⟨?_,fun p hp=>q0.2 (p.1,Zi f p.2) (List.mem_map.2 ⟨p,hp,rfl⟩)⟩;have:=q0.1
   grind
  unfold aQ Ay at hp;simp only at hp;rw[List.findIdx?_map] at hp;obtain⟨hi,h1,_⟩:=List.findIdx?_eq_some_iff_getElem.1 hp;rw[List.getElem?_map,List.getElem?_eq_getElem hi] at hk;injection hk with hk;obtain⟨s,hs⟩:=q4.2 _ (C1 hi);have q5:(es[i].1).sameKey (.string t)=true:=h1;rw[hs] at q5;have q6:=CU.1 q5;subst q6;refine DD ⟨b,g,es,rfl,?_,q4⟩;have:=C1 hi;rw[show es[i]=(Lit.string s,c) from Prod.ext hs hk] at this;exact this
section
variable{w:A2}{D R:Nat}{wp:Option Addr}{jn iv:CH}{ch:Bool}{Tb T a:Zf}{Mb M:Nat->Prop}{wb:A2}{v xv:To}{js:List Zk}{y:Option Addr}{F:Nat->Prop}{d x:Int}{B:Nat}
theorem G9{pa:Option Addr}{pl pc:Nat}(h:JS w D R wp jn iv ch Tb Mb wb T a v M js)(hT:Af w)(hp:Au w (GA (top+1) Tb wb M) (.slice pa pl pc) p)(q9:Z2 p)(hf:Ak v p=.error c):
  ∀w1,A1 w.heap.size w w1->A3 AI 198 #[.pointer (some ⟨D,0,none⟩),.slice pa pl pc] w1 fun e w'=>e=.returned (.tuple #[plZ,.int .i64 c])/\A1 w1.heap.size w1 w':=by
 intro w1 hb1;have q6:p≠[]:=by rintro rfl;cases hf
 obtain⟨s,t,rfl⟩:∃s t,p=s++[t]:=⟨p.dropLast,p.getLast q6,(AS q6).symm⟩
 have p1:=q9.len;have p2:=q9.tok;have qd:∀u∈s,u.length<=1048576:=fun u hu=>by have:=p2 u (by simp[hu]);omega
 have qf:t.length<=1048576:=by have:=p2 t (by simp);omega
 have hsl:s.length<=1048576:=by simp at p1;omega
 rcases hp with⟨e,_⟩|⟨g,o,cap,e,h1,h2,h3,h4⟩
 ·exact absurd e q6
 ·injection e with ea eb ec;subst ea;subst eb;subst ec;have q5:(s++[t]).length=s.length+1:=by simp
  rw[q5] at h1 |-;have q0:=Cc hf;have qb:∀w2,A1 w1.heap.size w1 w2->CQ w2 g o (s++[t]):=fun w2 hb=>(h4.move (hb1.block g h4.1)).move (hb.block g (CR h4.1 hb1.size));have q8:=h.bel hb1;have q4:=hT.bel hb1;rw[Cs] at hf;cases hs:Ak v s with
  | error c'=>
   rw[hs] at hf;injection hf with hf;subst hf;exact Qs q0 fun w2 hb=>Jz (q8.bel hb) (q4.bel hb).rng (qb w2 hb) rfl h1 h2 qd hsl hs
  | ok nv=>
   rw[hs] at hf;have qe:=h.t.str;have hf2:=hs;rw[<- qe] at hf2;obtain⟨f,q,m,u,e1,e2,e3,e4,e5⟩:=Cy h.t.sub hf2;rw[qe] at e5;obtain⟨ub,rfl,_⟩:=e3.ptr;have q7:=e3.bel hb1;refine Qu (y:=none) q0 (fun w2 hb=>Hj (q8.bel hb) (q4.bel hb).rng (qb w2 hb) rfl h1 h2 qd hsl hs e2 (q7.bel hb) e5) fun w2 hb=>(I0 qf (q4.bel hb).rng (q7.bel hb)).mono ?_;rintro e w' ⟨hk,hb2⟩;unfold Dx at hk;rw[e4] at hk;simp only at hf;rw[hf] at hk;exact⟨hk,hb2⟩
theorem IP{ev:To}{pa:Option Addr}{pl pc:Nat}(h:JS w D R wp jn iv ch Tb Mb wb T a v M js)(hT:Af w)(hv:Zx d x B v)(hB:B<=900000000)(hp:Au w (GA (top+1) Tb wb M) (.slice pa pl pc) p)(qd:Z2 p)(hf:Ak v p=.ok ev):
  ∃f q m c i key qa ql qc,f+1+List.length q=top+1/\Zo q T=some m/\AR m i key c/\Zi f c=ev/\1000<=f/\f<=top/\B4 m key/\Au w (GA (top+1) Tb wb M) (.slice qa ql qc) p /\
   (p≠[] -> ∃g a1,Zs q (B6 i key m) T=Zj R g (.slice [a1] [])/\Ds v p=.ok (Zi top a1,[(0,p,ev)])) /\
   (∀xa,∃g a1,Zs q (Br i key xa m) T=Zj R g (.slice [a1] [])/\Fw v p (Zi f xa)=.ok (Zi top a1,[(2,p,ev)])) /\
   ∀w1,A1 w.heap.size w w1->A3 AI 198 #[.pointer (some ⟨D,0,none⟩),.slice pa pl pc] w1 fun e w'=>e=.returned (.tuple #[plV (.slice qa ql qc) (Zv m) key i,.int .i64 0])/\A1 w1.heap.size w1 w':=by
 obtain⟨gT,eT⟩:=h.t.one;have q9:=h.t.str;by_cases q4:p=[]
 ·subst q4;injection hf with hf;subst hf;have qf:pl=0:=by
   rcases hp with⟨_,a0,c0,e,_⟩|⟨g,o,cap,e,_⟩
   ·injection e
   ·injection e
  subst qf;refine⟨top,[],T,a,0,[],none,0,0,rfl,rfl,D0 ⟨R,gT,[a],eT,rfl⟩,q9,by have:=EA;omega,Dp _,by rw[eT];exact⟨by rw[BO];simp,by simp⟩,D0 ⟨rfl,none,0,rfl,by simp⟩,fun hh=>absurd rfl hh,fun xa=>⟨gT,xa,by rw[eT];rfl,rfl⟩,fun w1 hb1=>?_⟩;have q0:Zv T=R:=by rw[eT];rfl
  rw[q0];exact Qt (h.bel hb1).t.db
 ·obtain⟨s,t,rfl⟩:∃s t,p=s++[t]:=⟨p.dropLast,p.getLast q4,(AS q4).symm⟩
  have p1:=qd.len;have p2:=qd.tok;have qh:∀u∈s,u.length<=1048576:=fun u hu=>by have:=p2 u (by simp[hu]);omega
  have q8:t.length<=1048576:=by have:=p2 t (by simp);omega
  have hsl:s.length<=1048576:=by simp at p1;omega
  rw[Cs] at hf;cases hs:Ak v s with
  | error c'=>rw[hs] at hf;cases hf
  | ok nv=>
   rw[hs] at hf;simp only at hf;have hf2:=hs;rw[<- q9] at hf2;obtain⟨f,q,m,u,e1,e2,e3,e4,e5⟩:=Cy h.t.sub hf2;obtain⟨n1,n2,n3,n4,n5,n6,n7⟩:=h.node hv e1 e2 e3;rw[q9] at e5;rw[<- e4] at hf;obtain⟨i0,c,xk,k1,k2,k3,k4⟩:=JN e3 hf;have q7:=Q7 e3 n5 k1 k2;refine⟨f,0::q,m,c,(ZO t).getD 0,t,pa,pl,pc,n1,n2,q7,k3,n3,by omega,⟨by omega,q8⟩,hp,fun _=>?_,fun xa=>?_,fun w1 hb1=>?_⟩
   ·obtain⟨r1,r2⟩:=h.value (m':=B6 ((ZO t).getD 0) t m) eT e1 e2;rw[VL q7.box] at r2;refine⟨gT,_,r1,?_⟩;unfold Ds;rw[Dv];simp only[hs];rw[<- e4,hf];simp only;rw[r2,CZ e5]
   ·obtain⟨r1,r2⟩:=h.value (m':=Br ((ZO t).getD 0) t xa m) eT e1 e2;rw[OJ q7.box] at r2;refine⟨gT,_,r1,?_⟩;unfold Fw;rw[Dv];simp only[hs];rw[<- e4,hf];simp only;rw[r2,CZ e5]
   ·rcases hp with⟨e,_⟩|⟨g,o,cap,e,h1,h2,h3,h4⟩
    ·exact absurd e q4
    ·injection e with ea eb ec;subst ea;subst eb;subst ec;have q6:(s++[t]).length=s.length+1:=by simp
     rw[q6] at h1 |-;have qg:∀w2,A1 w1.heap.size w1 w2->CQ w2 g o (s++[t]):=fun w2 hb=>(h4.move (hb1.block g h4.1)).move (hb.block g (CR h4.1 hb1.size));have qe:=h.bel hb1;have q5:=hT.bel hb1;obtain⟨ub,rfl,_⟩:=e3.ptr;have q0:Zv m=ub:=by
      obtain⟨b',g',x',rfl,eu,_⟩:=e3;injection eu with eu;injection eu with eu;injection eu with eu _ _;exact eu.symm
     rw[q0];have qb:=e3.bel hb1;refine SN (b:=ub) (io:=ZO t) (fun w2 hb=>Hj (qe.bel hb) (q5.bel hb).rng (qg w2 hb) rfl h1 h2 qh hsl hs e2 (qb.bel hb) e5) (fun w2 hb=>(I0 q8 (q5.bel hb).rng (qb.bel hb)).mono ?_) (fun w2 hb=>FQ t w2 q8 (q5.bel hb).rng);rintro e w' ⟨hk,hb2⟩;unfold Dx at hk;rw[hf] at hk;obtain⟨i',c',x',_,_,_,rfl,qi⟩:=hk;obtain⟨xb,rfl,_⟩:=qi.ptr;exact⟨⟨_,rfl⟩,hb2⟩
theorem UL(q0:p≠[])(hf:Ak v p=.error c):Ds v p=.error c:=by
 obtain⟨s,t,rfl⟩:∃s t,p=s++[t]:=⟨p.dropLast,p.getLast q0,(AS q0).symm⟩
 rw[Cs] at hf;unfold Ds;rw[Dv];cases hs:Ak v s with
 | error c'=>
  rw[hs] at hf;injection hf with hf;subst hf;simp only;rw[hs]
 | ok nv=>rw[hs] at hf;simp only at hf |-; rw[hs];simp only;rw[hf]
theorem UJ(hf:Ak v p=.error c):Fw v p xv=.error c:=by
 have q0:p≠[]:=by rintro rfl;cases hf
 obtain⟨s,t,rfl⟩:∃s t,p=s++[t]:=⟨p.dropLast,p.getLast q0,(AS q0).symm⟩
 rw[Cs] at hf;unfold Fw;rw[Dv];cases hs:Ak v s with
 | error c'=>
  rw[hs] at hf;injection hf with hf;subst hf;simp only;rw[hs]
 | ok nv=>rw[hs] at hf;simp only at hf |-; rw[hs];simp only;rw[hf]
theorem KX{L:Nat}{p:List Nat}{rv:CH}{c:Zf}{key:By}{pa:Option Addr}{pl pc:Nat}{path:List By}(hL:f+1+p.length=L)(hJ:Bm L w D rv jn iv ch Tb Mb wb T M js)(hs:Zo p T=some m)(hf:AR m i key c)(hr:B4 m key)(hl:js.length<=1000000000)(hp:Au w (GA L Tb wb M) (.slice pa pl pc) path)(q0:f<=top):
  A3 AI 199 #[.pointer (some ⟨D,0,none⟩),plV (.slice pa pl pc) (Zv m) key i] w fun e w'=>e=.returned (.tuple #[]) /\
   BM L D rv iv ch Tb Mb wb (Zs p (B6 i key m) T) M (js++[(0,path,Zi f c)]) w w' /\ ∀y,Ad f w y c->Ad f w' y c:=by
 subst hL;exact Jt hJ hs hf hr hl hp q0
theorem VJ{L:Nat}{p:List Nat}{rv:CH}{c xa:Zf}{key:By}{pa px:Option Addr}{pl pc:Nat}{path:List By}(hL:f+1+p.length=L)(hJ:Bm L w D rv jn iv ch Tb Mb wb T M js)(hs:Zo p T=some m)(hf:AR m i key c)(hr:B4 m key)(hl:js.length<=1000000000)(hp:Au w (GA L Tb wb M) (.slice pa pl pc) path)(q0:f<=top)(hx:Ad f w (.pointer px) xa)(q5:(fp f xa).Nodup)(q4:∀k∈fp f xa,¬ M k/\k ∉ fp L T/\k≠D/\jn.ownBlock≠some k/\wb.heap.size<=k):
  A3 AI 200 #[.pointer (some ⟨D,0,none⟩),plV (.slice pa pl pc) (Zv m) key i,.pointer px] w fun e w'=>e=.returned (.tuple #[]) /\
   BM L D rv iv ch Tb Mb wb (Zs p (Br i key xa m) T) M (js++[(2,path,Zi f c)]) w w':=by
 subst hL;exact Ml hJ hs hf hr hl hp q0 hx q5 q4
end
section
variable{w:A2}{D R:Nat}{wp:Option Addr}{jn iv:CH}{ch:Bool}{Tb T a:Zf}{Mb M:Nat->Prop}{wb:A2}{v xv:To}{js:List Zk}{y:Option Addr}{F:Nat->Prop}{d x:Int}{B:Nat}
 {k:Nat} {pa fa:Option Addr} {pl pc fl fc:Nat} {p q:List By}
theorem Au.at{G:Nat->Prop}{v:CH}{l:List By}(h:Au w G v l)(hb:A1 w.heap.size w w'):Au w' G v l:=h.move fun k hk q0=>⟨hb.block k q0,hk⟩
theorem Tx{G:Nat->Prop}{l:List By}(h:Au w G (.slice pa pl pc) l):pl=l.length:=by
 rcases h with⟨rfl,a,c,e,_⟩|⟨g,o,cap,e,_⟩
 ·injection e with _ e _
 ·injection e with _ e _
theorem AM.form{r:Except Nat (To×List Zk)}{e:Ending}(h:AM D R iv ch Tb Mb wb M js w r e w'):∃c:Nat,e=.returned (.int .i64 c)/\Hid (AM D R iv ch Tb Mb wb M js w r (.returned (.int .i64 c)) w'):=by
 cases r with
 | ok vj=>obtain⟨rfl,h⟩:=h;exact⟨0,rfl,rfl,h⟩
 | error c=>obtain⟨rfl,h⟩:=h;exact⟨c,rfl,rfl,h⟩
theorem SF(h:JS w D R wp jn iv ch Tb Mb wb T a v M js)(hT:Af w)(hv:Zx d x B v)(hx:Zx d x B xv)(hB:B<=900000000)(hl:js.length<=1000000000)(hy:Rep top F w (.pointer y) xv)(hp:Au w (GA (top+1) Tb wb M) (.slice pa pl pc) p)(q0:Z2 p):
  A3 AI 151 #[.pointer (some ⟨D,0,none⟩),opV k pa pl pc fa fl fc y] w fun e w'=>AM D R iv ch Tb Mb wb M js w (CP v p xv) e w':=by
 have hM:∀k,M k->k<w.heap.size:=fun k hk=>(h.j.low k hk).1;refine (SG (Q:=fun c w'=>AM D R iv ch Tb Mb wb M js w (CP v p xv) (.returned (.int .i64 c)) w') fun w1 hb1=>(KG (h.bel hb1) (hT.bel hb1) hv hx hB hl (hy.bel hb1) (hp.at hb1) q0).mono ?_).mono ?_
 ·rintro e w' he;obtain⟨c,rfl,h2⟩:=he.form;exact⟨c,rfl,AM.below hb1 hM (Aa h2)⟩
 ·rintro e w' ⟨c,rfl,h2⟩;exact h2
theorem Nu(h:JS w D R wp jn iv ch Tb Mb wb T a v M js)(hT:Af w)(hv:Zx d x B v)(hB:B<=900000000)(hl:js.length<=1000000000)(hp:Au w (GA (top+1) Tb wb M) (.slice pa pl pc) p)(q5:Z2 p):
  A3 AI 152 #[.pointer (some ⟨D,0,none⟩),opV k pa pl pc fa fl fc y] w fun e w'=>AM D R iv ch Tb Mb wb M js w (Ds v p) e w':=by
 have hM:∀k,M k->k<w.heap.size:=fun k hk=>(h.j.low k hk).1;have q4:=Tx hp;by_cases q0:p=[]
 ·subst q0;obtain rfl:pl=0:=q4;refine Ns.mono ?_;rintro e w' ⟨rfl,hb⟩;exact h.err hb
 ·have hl0:pl≠0:=by
   intro e0;rw[e0] at q4;exact q0 (A6.1 q4.symm)
  cases hf:Ak v p with
  | error c=>
   rw[UL q0 hf];refine (Nt hl0 (Cc hf) (G9 h hT hp q5 hf)).mono ?_;rintro e w' ⟨rfl,hb⟩;exact h.err hb
  | ok ev=>
   obtain⟨f,q,m,c,i,key,qa,ql,qc,t1,t2,t3,t4,t5,t6,t7,t8,t9,q7,q6⟩:=IP h hT hv hB hp q5 hf;obtain⟨g,a1,r1,r2⟩:=t9 q0;rw[r2];refine (Oo (Q:=fun w'=>AM D R iv ch Tb Mb wb M js w (.ok (Zi top a1,[(0,p,ev)])) (.returned (.int .i64 0)) w') hl0 q6 fun w1 hb1=>(KX t1 (h.bel hb1).j t2 t3 t7 hl (t8.at hb1) t6).mono ?_).mono ?_
   ·rintro e w' ⟨rfl,he,_⟩;rw[t4] at he;exact⟨rfl,AM.below hb1 hM (JS.ok he r1 rfl)⟩
   ·rintro e w' ⟨rfl,he⟩;exact he
theorem LQ(h:JS w D R wp jn iv ch Tb Mb wb T a v M js)(hT:Af w)(hv:Zx d x B v)(hx:Zx d x B xv)(hB:B<=900000000)(hl:js.length<=1000000000)(hy:Rep top F w (.pointer y) xv)(hp:Au w (GA (top+1) Tb wb M) (.slice pa pl pc) p)(q4:Z2 p):
  A3 AI 153 #[.pointer (some ⟨D,0,none⟩),opV k pa pl pc fa fl fc y] w fun e w'=>AM D R iv ch Tb Mb wb M js w (Fw v p xv) e w':=by
 have hM:∀k,M k->k<w.heap.size:=fun k hk=>(h.j.low k hk).1;cases hf:Ak v p with
 | error c=>
  rw[UJ hf];refine (LP (Cc hf) (G9 h hT hp q4 hf)).mono ?_;rintro e w' ⟨rfl,hb⟩;exact h.err hb
 | ok ev=>
  obtain⟨f,q,m,c,i,key,qa,ql,qc,t1,t2,t3,t4,t5,t6,t7,t8,t9,q7,q8⟩:=IP h hT hv hB hp q4 hf;refine (Nr (Q:=fun w'=>AM D R iv ch Tb Mb wb M js w (Fw v p xv) (.returned (.int .i64 0)) w') (Q1:=fun z w1=>∃w0,A1 w.heap.size w w0/\Frs w0 xv z w1) q8 (fun w1 hb1=>(Jh (hy.bel hb1) hx (by omega)).mono ?_) (fun z w1 w2 hq hb1 hb2=>?_)).mono ?_
  ·rintro e w' ⟨z,rfl,hq⟩;exact⟨z,rfl,(Aa hq).1,w1,hb1,Aa hq⟩
  ·obtain⟨w0,q5,q6⟩:=hq;obtain⟨ax,b1,b2,q9,b3,b4,b5⟩:=Frs.at (h.bel q5) q6 hx t5 t6;have q0:=hb1.trans (hb2.mono hb1.size);obtain⟨g,a1,r1,r2⟩:=q7 ax;rw[b2] at r2;rw[r2];refine (VJ t1 (h.bel q0).j t2 t3 t7 hl (t8.at q0) t6 (b1.bel hb2) b3 b5).mono ?_;rintro e w' ⟨rfl,he⟩;rw[t4] at he;exact⟨rfl,AM.below q0 hM (JS.ok he r1 rfl)⟩
  ·rintro e w' ⟨rfl,he⟩;exact he
theorem Qk(h:JS w D R wp jn iv ch Tb Mb wb T a v M js)(hT:Af w)(hy:Rep top F w (.pointer y) xv)(hp:Au w (GA (top+1) Tb wb M) (.slice pa pl pc) p)(q4:Z2 p):
  A3 AI 156 #[.pointer (some ⟨D,0,none⟩),opV k pa pl pc fa fl fc y] w fun e w'=>AM D R iv ch Tb Mb wb M js w (JY v p xv) e w':=by
 have p1:=q4.len;have p2:=q4.tok;have q5:=h.t.str;unfold JY;cases hf:Ak v p with
 | error c=>
  have hf2:=hf;rw[<- q5] at hf2;refine (Qj (wp:=wp) (Cc hf) (fun w1 hb1=>De (h.bel hb1).t) (fun w1 hb1=>Jl (fun t ht=>by have:=p2 t ht;omega) (by omega) (hT.bel hb1).rng (h.bel hb1).t.sub (hp.at hb1).toks hf2)).mono ?_;rintro e w' ⟨rfl,hb⟩;exact h.err hb
 | ok ev=>
  have hf2:=hf;rw[<- q5] at hf2;obtain⟨f,q,m,u,e1,e2,e3,e4,e5⟩:=Cy h.t.sub hf2;obtain⟨ub,rfl,_⟩:=e3.ptr;have q0:Rep top (fun _=>True) w (.pointer (some ⟨ub,0,none⟩)) ev:=by
   rw[<- e4,<- (e3.up (g:=top) (by omega)).2.2];exact (e3.up (g:=top) (by omega)).1.rep fun _ _=>trivial
  refine (SD (wp:=wp) (bo:=veq ev xv) (fun w1 hb1=>De (h.bel hb1).t) (fun w1 hb1=>KN (fun t ht=>by have:=p2 t ht;omega) (by omega) (hT.bel hb1).rng (h.bel hb1).t.sub (hp.at hb1).toks hf2 e2 (e3.bel hb1) e5) (fun w1 hb1=>Eq top _ _ w1 _ _ ev xv (q0.bel hb1) (hy.bel hb1))).mono ?_;rintro e w' ⟨rfl,hb⟩;simp only;by_cases hq:veq ev xv=true
  ·rw[if_pos hq,if_pos hq];exact⟨rfl,wp,jn,T,a,M,by simpa using h.bel hb,(h.j.bel hb).2⟩
  ·rw[if_neg hq,if_neg hq];exact h.err hb
theorem Nj(hv:Zx d x B v)(h:JS w D R wp jn iv ch Tb Mb wb T a v M js){ev:To}(hf:Ak v p=.ok ev):Zx d x B ev:=by
 have q0:=h.t.str;rw[<- q0] at hf;obtain⟨f,q,m,u,e1,e2,e3,e4,e5⟩:=Cy h.t.sub hf;obtain⟨n1,n2,n3,n4,n5,n6,n7⟩:=h.node hv e1 e2 e3;have hs:Zi top m=ev:=by rw[(e3.up (g:=top) (by omega)).2.2,e4]
 have g1:Zl d x (f+1) 1 (Zi (f+1) m):=by
  have h1:=Fp (s:=-(q.length:Int)) n5;rw[show (1:Int)+q.length + -(q.length:Int)=1 by omega] at h1;exact CE (by omega) h1
 have g2:=Co (f:=top) g1 (by have:=hv.dd;have:=EA;omega);rw[e4] at g2 n6;refine⟨g2,hv.dd,?_⟩;have:Zh top ev=Zh (f+1) ev:=by
  rw[e4] at g1;exact EZ g1 (by omega)
 omega
theorem Qp(h:JS w D R wp jn iv ch Tb Mb wb T a v M js)(hT:Af w)(hv:Zx d x B v)(hB:B<=900000000)(hl:js.length<=1000000000)(hp:Au w (GA (top+1) Tb wb M) (.slice pa pl pc) p)(q7:Z2 p)(hq:Au w (GA (top+1) Tb wb M) (.slice fa fl fc) q)(q4:Z2 q):
  A3 AI 155 #[.pointer (some ⟨D,0,none⟩),opV k pa pl pc fa fl fc y] w fun e w'=>AM D R iv ch Tb Mb wb M js w (J5 v q p) e w':=by
 have hM:∀k,M k->k<w.heap.size:=fun k hk=>(h.j.low k hk).1;have p1:=q4.len;have p2:=q4.tok;have q5:=h.t.str;unfold J5;cases hf:Ak v q with
 | error c=>
  have hf2:=hf;rw[<- q5] at hf2;refine (Qo (wp:=wp) (Cc hf) (fun w1 hb1=>De (h.bel hb1).t) (fun w1 hb1=>Jl (fun t ht=>by have:=p2 t ht;omega) (by omega) (hT.bel hb1).rng (h.bel hb1).t.sub (hq.at hb1).toks hf2)).mono ?_;rintro e w' ⟨rfl,hb⟩;exact h.err hb
 | ok ev=>
  have hf2:=hf;rw[<- q5] at hf2;obtain⟨f,q',m,u,e1,e2,e3,e4,e5⟩:=Cy h.t.sub hf2;obtain⟨ub,rfl,_⟩:=e3.ptr;have q0:Rep top (fun _=>True) w (.pointer (some ⟨ub,0,none⟩)) ev:=by
   rw[<- e4,<- (e3.up (g:=top) (by omega)).2.2];exact (e3.up (g:=top) (by omega)).1.rep fun _ _=>trivial
  have q6:=Nj hv h hf;simp only;refine (SE (wp:=wp) (Q:=fun c w'=>AM D R iv ch Tb Mb wb M js w (CP v p ev) (.returned (.int .i64 c)) w') (fun w1 hb1=>De (h.bel hb1).t) (fun w1 hb1=>KN (fun t ht=>by have:=p2 t ht;omega) (by omega) (hT.bel hb1).rng (h.bel hb1).t.sub (hq.at hb1).toks hf2 e2 (e3.bel hb1) e5) (fun w1 hb1=>(KG (h.bel hb1) (hT.bel hb1) hv q6 hB hl (q0.bel hb1) (hp.at hb1) q7).mono ?_)).mono ?_
  ·rintro e w' he;obtain⟨c,rfl,h2⟩:=he.form;exact⟨c,rfl,AM.below hb1 hM (Aa h2)⟩
  ·rintro e w' ⟨c,rfl,h2⟩;exact h2
theorem Af.jex{M':Nat->Prop}(h:Af w)(hM:∀k,k<NG->M k)(hX:JEx M M' w w'):Af w':=
 h.below ⟨hX.os,hX.tape,hX.output,hX.size,fun k hk=>(hX.kept k (hM k hk)).2⟩
theorem UK{j:List Zk}{v1:To}(hv:Zx d x B v)(h:JS w D R wp jn iv ch Tb Mb wb T a v M js)(hr:Ds v q=.ok (v1,j)):Zx d x B v1:=by
 unfold Ds at hr;split at hr
 ·cases hr
 ·rename_i s t hs;split at hr
  ·cases hr
  ·rename_i n hn;split at hr
   ·cases hr
   ·rename_i e he;injection hr with hr;injection hr with hr _;subst hr;have q0:=h.t.str;have hf2:=hn;rw[<- q0] at hf2;obtain⟨f,q',m,u,e1,e2,e3,e4,e5⟩:=Cy h.t.sub hf2;obtain⟨n1,n2,n3,n4,n5,n6,n7⟩:=h.node hv e1 e2 e3;rw[q0] at e5;rw[CZ e5];rw[e4] at n5 n6 n7;have hg:Zl d x (f+1+q'.length) 1 v:=by rw[e1];exact hv.gd
    have g1:=Nf hg n7 (Sb (i:=(ZO t).getD 0) (k:=t) n5);have g2:=Mj (n':=Kk ((ZO t).getD 0) t n) hg n7;rw[e1] at g1 g2;have g3:=QZ (f:=f) (i:=(ZO t).getD 0) (k:=t) (v:=n);have:=hv.sz;exact⟨g1,hv.dd,by omega⟩
theorem Qm(h:JS w D R wp jn iv ch Tb Mb wb T a v M js)(hT:Af w)(qn:∀k,k<NG->M k)(hv:Zx d x B v)(hB:B<=900000000)(hl:js.length<=900000000)(hp:Au w (GA (top+1) Tb wb M) (.slice pa pl pc) p)(qr:Z2 p)(hq:Au w (GA (top+1) Tb wb M) (.slice fa fl fc) q)(qj:Z2 q):
  A3 AI 154 #[.pointer (some ⟨D,0,none⟩),opV k pa pl pc fa fl fc y] w fun e w'=>AM D R iv ch Tb Mb wb M js w (J0 v q p) e w':=by
 have hM:∀k,M k->k<w.heap.size:=fun k hk=>(h.j.low k hk).1;unfold J0;cases hf:Ak v q with
 | error c=>
  refine (Ql (Cc hf) (G9 h hT hq qj hf)).mono ?_;rintro e w' ⟨rfl,hb⟩;exact h.err hb
 | ok ev=>
  obtain⟨f,qq,m,c,i,key,qa,ql,qc,t1,t2,t3,t4,t5,t6,t7,t8,t9,qx,qg⟩:=IP h hT hv hB hq qj hf;have q0:∀w1,A1 w.heap.size w w1->A3 AI 202 #[.slice fa fl fc,.slice pa pl pc] w1 fun e w'=>e=.returned (.bool (q==p))/\A1 w1.heap.size w1 w':=fun w1 hb1=>Iy (hq.at hb1).toks (hp.at hb1).toks;have q9:∀w1,A1 w.heap.size w w1->A3 AI 203 #[.slice pa pl pc,.slice fa fl fc] w1 fun e w'=>e=.returned (.bool (E2 p q))/\A1 w1.heap.size w1 w':=fun w1 hb1=>Qz (hp.at hb1).toks (hq.at hb1).toks;simp only;by_cases q7:q=p
  ·rw[if_pos q7];have e0:(q==p)=true:=by rw[q7];simp
   rw[e0] at q0;refine (Oq qg q0).mono ?_;rintro e w' ⟨rfl,hb⟩;exact⟨rfl,wp,jn,T,a,M,by simpa using h.bel hb,(h.j.bel hb).2⟩
  ·rw[if_neg q7];have e0:(q==p)=false:=by rw[beq_eq_false_iff_ne];exact q7
   rw[e0] at q0;by_cases q6:E2 p q=true
   ·rw[if_pos q6];rw[q6] at q9;refine (Nv qg q0 q9).mono ?_;rintro e w' ⟨rfl,hb⟩;exact h.err hb
   ·rw[if_neg q6];rw[Bool.eq_false_iff.2 q6] at q9;have qp:q≠[]:=by
     rintro rfl;refine q6 ?_;unfold E2;have:0<p.length:=by
      rcases Nat.eq_zero_or_pos p.length with h0|h0
      ·exact absurd (A6.1 h0).symm q7
      ·exact h0
     simp[this]
    obtain⟨g,a1,r1,r2⟩:=t9 qp;rw[r2];simp only;have q4:=UK hv h r2;have q5:=Nj hv h hf;obtain⟨um,qk⟩:=Ad.at (f:=f+1) (p:=qq) (by rw[t1];exact h.j.tr) t2;obtain⟨a1',a2',qw,qm⟩:=t3.apart (Bz (f:=f+1) t2 (by rw[t1];exact h.j.nd));obtain⟨yv,hc⟩:=qk.kidAt qm;obtain⟨yb,rfl,_⟩:=hc.ptr;refine (Qn (x:=some ⟨yb,0,none⟩) (Q1:=fun w1=>∃qd qb T' a' M',JS w1 D R qd qb iv ch Tb Mb wb T' a' (Zi top a1) M' (js++[(0,q,ev)])/\JEx M M' w w1/\Ad f w1 (.pointer (some ⟨yb,0,none⟩)) c)
     (Q:=fun cc w'=>AM D R iv ch Tb Mb wb M js w (match CP (Zi top a1) p ev with | .error c=>.error c | .ok (d2,j2)=>.ok (d2,[(0,q,ev)]++j2)) (.returned (.int .i64 cc)) w')
     qg q0 q9 (fun w1 hb1=>(DN (qk.bel hb1) t3 t7.2).mono ?_) (fun w1 hb1 qi=>?_) (fun w1 qt=>?_)).mono ?_
    ·rintro e w' ⟨⟨y',rfl,qu⟩,hb⟩;obtain rfl:=qu.uniq hc;exact⟨rfl,hb⟩
    ·obtain⟨hG,hE⟩:=h.grow hb1 (fun k=>k=w.heap.size) (fun k hk=>by subst hk;exact⟨Dp _,qi.lt⟩);refine (KX t1 hG.j t2 t3 t7 (by omega) ((t8.at hb1).move fun k hk _=>⟨rfl,D0 hk.1,hk.2⟩) t6).mono ?_;rintro e w' ⟨rfl,he,qo⟩;rw[t4] at he;obtain⟨qd,qb,T',a',M',s1,s2⟩:=JS.done he r1 rfl;exact⟨rfl,(s2.kept _ (DD rfl)).2.trans qi,qd,qb,T',a',M',s1,hE.trans s2,qo _ (hc.bel hb1)⟩
    ·obtain⟨qd,qb,T',a',M',s1,s2,s3⟩:=qt;have qe:Rep top (fun _=>True) w1 (.pointer (some ⟨yb,0,none⟩)) ev:=by
      rw[<- t4,<- (s3.up t6).2.2];exact (s3.up t6).1.rep fun _ _=>trivial
     refine (KG s1 (hT.jex qn s2) q4 q5 hB (by simp;omega) qe (hp.move fun k hk _=>⟨(s2.kept k hk.1).2,(s2.kept k hk.1).1,hk.2⟩) qr).mono ?_;rintro e w' he;obtain⟨cc,rfl,h2⟩:=he.form;refine⟨cc,rfl,?_⟩;have q8:=Aa h2;cases hr:CP (Zi top a1) p ev with
     | error c'=>
      rw[hr] at q8;obtain⟨e9,qh,qf,T2,a2,v2,M2,qv,u1,u2⟩:=q8;exact⟨e9,qh,qf,T2,a2,v2,M2,qv,u1,s2.trans u2⟩
     | ok vj=>
      rw[hr] at q8;obtain⟨v2,j2⟩:=vj;obtain⟨e9,qh,qf,T2,a2,M2,u1,u2⟩:=q8;rw[List.append_assoc] at u1;exact⟨e9,qh,qf,T2,a2,M2,u1,s2.trans u2⟩
    ·rintro e w' ⟨cc,rfl,h2⟩;exact h2
end
section
variable{w:A2}{D k:Nat}{pa fa y wp:Option Addr}{pl pc fl fc:Nat}
theorem Ow{s:By}(hs:s.length<=8796093022208)(hW:∀w1,A1 w.heap.size w w1->A3 AI 56 #[.pointer (some ⟨D,0,none⟩)] w1 fun x w'=>x=.returned (.pointer wp)/\A1 w1.heap.size w1 w')(hC:∀w1,A1 w.heap.size w w1->A3 AI 55 #[.pointer wp] w1 fun x w'=>x=.returned (.string ⟨s.toArray⟩)/\A1 w1.heap.size w1 w'):
  A3 AI 121 #[.pointer (some ⟨D,0,none⟩)] w fun e w'=>e=.returned (.bool (decide (20000<s.length)))/\A1 w.heap.size w w':=by
 have HW:=Ab hW;have HC:=Ab hC;obtain⟨n,hn⟩:∃n:Nat,n=s.length:=⟨_,rfl⟩
 have h1:decide ((20000:Int)<(n:Int))=decide (20000<n):=decide_eq_decide.2 (by omega);clear hW hC
 go_enter func121,ntmps121
 go_wp2_with (fail);refine (Aa HW w (Dt _ _)).mono ?_
 rintro e w1 ⟨rfl,hb1⟩;have q0:=Ab hb1;clear hb1
 go_wp2_with (fail);refine (Aa HC w1 (Aa q0)).mono ?_
 rintro e w2 ⟨rfl,hb2⟩;have q4:=Ab ((Aa q0).trans (hb2.mono (Aa q0).size));clear hb2
 go_wp2_with (fail)
 go_ret;refine⟨?_,Aa q4⟩
 simp;omega
theorem Ny{dp m:Int}{lo:Bool}(hW:∀w1,A1 w.heap.size w w1->A3 AI 56 #[.pointer (some ⟨D,0,none⟩)] w1 fun x w'=>x=.returned (.pointer wp)/\A1 w1.heap.size w1 w')(hD:∀w1,A1 w.heap.size w w1->A3 AI 157 #[.pointer wp] w1 fun x w'=>x=.returned (.int .i64 m)/\A1 w1.heap.size w1 w')(hL:∀w1,A1 w.heap.size w w1->A3 AI 121 #[.pointer (some ⟨D,0,none⟩)] w1 fun e w'=>e=.returned (.bool lo)/\A1 w1.heap.size w1 w'):
  A3 AI 117 #[.pointer (some ⟨D,0,none⟩),.int .i64 dp] w fun e w'=>e=.returned (.int .i64 (if dp<m then 7 else if lo=true then 4 else 0))/\A1 w.heap.size w w':=by
 have HW:=Ab hW;have HD:=Ab hD;have HL:=Ab hL;clear hW hD hL;by_cases q6:dp<m
 ·go_enter func117,ntmps117
  go_wp2_with (fail);refine (Aa HW w (Dt _ _)).mono ?_
  rintro e w1 ⟨rfl,hb1⟩;have q0:=Ab hb1;clear hb1
  go_wp2_with (fail);refine (Aa HD w1 (Aa q0)).mono ?_
  rintro e w2 ⟨rfl,hb2⟩;have q4:=Ab ((Aa q0).trans (hb2.mono (Aa q0).size));clear hb2
  go_wp2_with (fail)
  go_ret;exact⟨by simp,Aa q4⟩
 ·go_enter func117,ntmps117
  go_wp2_with (fail);refine (Aa HW w (Dt _ _)).mono ?_
  rintro e w1 ⟨rfl,hb1⟩;have q0:=Ab hb1;clear hb1
  go_wp2_with (fail);refine (Aa HD w1 (Aa q0)).mono ?_
  rintro e w2 ⟨rfl,hb2⟩;have q4:=Ab ((Aa q0).trans (hb2.mono (Aa q0).size));clear hb2
  go_wp2_with (fail);refine (Aa HL w2 (Aa q4)).mono ?_
  rintro e w3 ⟨rfl,hb3⟩;have q5:=Ab ((Aa q4).trans (hb3.mono (Aa q4).size));clear hb3;cases lo;all_goals (
   go_wp2_with (fail)
   go_ret;exact⟨by simp,Aa q5⟩)
end
section
variable{w:A2}{D R:Nat}{wp:Option Addr}{jn iv:CH}{ch:Bool}{Tb T a:Zf}{Mb M:Nat->Prop}{wb:A2}{v xv:To}{js:List Zk}{y:Option Addr}{F:Nat->Prop}{d x:Int}{B:Nat}
 {k:Nat} {pa fa:Option Addr} {pl pc fl fc:Nat} {p q:List By}
theorem JT(h:JS w D R wp jn iv ch Tb Mb wb T a v M js)(hT:Af w)(hv:Zx d x B v)(hB:B<=900000000):
  A3 AI 121 #[.pointer (some ⟨D,0,none⟩)] w fun e w'=>e=.returned (.bool (decide (20000<(Zm top v).length)))/\A1 w.heap.size w w':=by
 have hc:=(BX hv.gd).1;have hsz:=hv.sz;have q0:Rep top (fun _=>True) w (.pointer wp) v:=by
  rw[<- h.t.str];exact h.t.sub.rep fun _ _=>trivial
 exact Ow (by omega) (fun w1 hb1=>De (h.bel hb1).t) fun w1 hb1=>CT (q0.bel hb1) (hT.bel hb1) (by omega)
theorem Of{dp:Int}(h:JS w D R wp jn iv ch Tb Mb wb T a v M js)(hT:Af w)(hv:Zx d x B v)(hB:B<=900000000):
  A3 AI 117 #[.pointer (some ⟨D,0,none⟩),.int .i64 dp] w fun e w'=>e=.returned (.int .i64 (GG dp v))/\A1 w.heap.size w w':=by
 have q0:Rep top (fun _=>True) w (.pointer wp) v:=by
  rw[<- h.t.str];exact h.t.sub.rep fun _ _=>trivial
 refine (Ny (wp:=wp) (m:=ZC top v) (lo:=decide (20000<(Zm top v).length)) (fun w1 hb1=>De (h.bel hb1).t) (fun w1 hb1=>LI top (by have:=EA;omega) _ w1 _ v (q0.bel hb1)) (fun w1 hb1=>JT (h.bel hb1) (hT.bel hb1) hv hB)).mono ?_;rintro e w' ⟨rfl,hb⟩;refine⟨?_,hb⟩;unfold GG;by_cases h1:dp<ZC top v
 ·rw[if_pos h1,if_pos h1];rfl
 ·rw[if_neg h1,if_neg h1];by_cases h2:20000<(Zm top v).length
  ·rw[if_pos h2,if_pos (decide_eq_true h2)];rfl
  ·rw[if_neg h2,if_neg (by rw[decide_eq_false h2];decide)];rfl
end
def Two(B:Nat)(W W':A2):Prop:=W'.heap[B]? = W.heap[B]? /\ W'.heap[B+1]? = W.heap[B+1]?
def Dy(B:Nat)(I:A2->Prop):Prop:=∀W W':A2,I W->W'.os=W.os->W'.tape=W.tape->W'.output=W.output->W.heap.size<=W'.heap.size->(∀j,j<W.heap.size->j≠B->j≠B+1->W'.heap[j]? = W.heap[j]?)->I W'
theorem Dy.put{B l:Nat}{I:A2->Prop}(h:Dy B I){W:A2}(hi:I W)(hl:l=B\/l=B+1)(o:Obj):I (W.putObj l o):=
 h W _ hi rfl rfl rfl (by simp_all) fun j _ h1 h2=>AT (by omega)
theorem FU{P:Program}{g:Operand}{ps:Array Tmp}{assign body:Code}{Q:Exit->Act->A2->Prop}{a:Act}{w:A2}{gf:Nat}{lb:Array CH}(hg:a.eval g=.func (.func gf) #[] lb)(eg:∀args w,(callFunc gf args).run P w=.ok (.enter gf args) w)(N:Nat)(arg:Nat->Array CH)(qd:∀k,(arg k).size=ps.size)(I:Nat->A2->Prop)(A:Nat->Act->A2->Prop)(hI:∀k,Dy w.heap.size (I k))(hA:∀k a',Dy w.heap.size (A k a'))(h0:I 0 w)(hiter:∀ (l:Nat) (J:Nat->A2->Prop) (W:A2),(∀k W,J k W->I k W)->(∀k W,k<N->J k W->YieldAt CD 0 P l (arg k) W fun e W'=>e=.returned (.bool true)/\J (k+1) W')->J 0 W ->
   CallsIn CD 0 P gf (#[.func (.yield l) #[] #[]]++lb) W fun e W'=>(∃v,e=.returned v)/\J N W')(hassign:∀l k W,k<N->I k W->w.heap.size+1<W.heap.size->assign.wpIn (Fence.wide.inRound l) 0 P (fun e a' W'=>e=.normal/\Two w.heap.size W W'/\A k a' W') { tmps:=(ps.zip (arg k)).foldl (fun t (p,v)=>t.setIfInBounds p v) a.tmps,defers:=[] } W)(hbody:∀l k a' W,k<N->A k a' W->w.heap.size+1<W.heap.size->(l=w.heap.size+1 /\ ∃r,W.heap[l]? = some (.loop r))->body.wpIn (Fence.wide.inRound l) 0 P (fun e _ W'=>e=.normal/\Two w.heap.size W W'/\I (k+1) W') a' W)(hdone:∀W,I N W->W.heap[w.heap.size]? = some (.deferred (some []))->Q .normal { a with defers:={ target:=.collected w.heap.size,args:=#[] }::a.defers } W):
  (Code.rangeFunc g ps assign body).wpIn CD 0 P Q a w:=by
 refine wpIn_rangeFunc fun fn q9=>?_;obtain⟨B,hB⟩:∃B,B=w.heap.size:=⟨_,rfl⟩
 obtain⟨rc,q0⟩:∃rc:LoopState->Loop,rc=fun st=>{ state:=st,pending:=none,fn,tmps:=a.tmps,params:=ps,assign,body,defers:=B }:=⟨_,rfl⟩
 have two:∀o o':Obj,((w.alloc o).alloc o').heap[B]? = some o/\((w.alloc o).alloc o').heap[B+1]? = some o' /\ ∀j,j<B->((w.alloc o).alloc o').heap[j]? = w.heap[j]?:=fun o o'=>by
  have e1:=CL w o;have e2:=CL (w.alloc o) o';rw[World.size_alloc,<- hB] at e2;rw[<- hB] at e1;refine⟨(BY (w.alloc o) o' B (by simp;omega)).trans e1,e2,fun j hj=>?_⟩;exact (BY (w.alloc o) o' j (by simp;omega)).trans (BY w o j (by omega))
 obtain⟨W1,q4⟩:∃W1,W1=(w.alloc (.deferred (some []))).alloc (.loop (rc .ready)):=⟨_,rfl⟩
 have t1:W1.heap[B]? = some (.deferred (some []))/\W1.heap[B+1]? = some (.loop (rc .ready)):=by grind
 have i1:I 0 W1:=by
  refine hI 0 w W1 h0 (by rw[q4];rfl) (by simp_all) (by rw[q4];rfl) (by grind) fun j hj _ _=>?_
  grind
 rw[<- hB] at hI hA hassign hbody hdone;refine⟨B+1,[{ target:=.collected B,args:=#[] }],W1,{ target:=.fn (.func gf) lb,args:=#[.func (.yield (B+1)) #[] #[]] },W1,gf,#[.func (.yield (B+1)) #[] #[]]++lb,W1,?_,?_,?_,?_,?_,?_⟩
 ·rw[q4,q0,hB];exact run_enterLoop_outer _ _ _ _ _
 ·simp only[resolve,hg];simp[go_sem]
 ·intro f' _;exact trivial
 ·simp[invoke,go_sem,eg]
 ·intro h;cases h
 ·refine (hiter (B+1) (fun k W=>I k W/\W.heap[B]? = some (.deferred (some []))/\W.heap[B+1]? = some (.loop (rc .ready))) W1 (fun k W h=>h.1) ?_ ⟨i1,t1⟩).mono ?_
  ·rintro k W hk ⟨hi,hd,hl⟩;have hy:=run_yield (P:=P) (args:=arg k) hl (by grind);rw[q0] at hy;refine⟨fn,_,assign,body,hy,roundIn_of_wpIn q9 (wpIn_mono (hassign (B+1) k W hk hi (A5.1 hl).1) ?_)⟩;rintro e a' Wa ⟨rfl,q8,ha⟩;have q6:=q8.2.trans hl;have hlt:=(A5.1 q6).1;refine⟨_,run_beginRound q6 (by rw[q0]),wpIn_mono (hbody (B+1) k a' _ hk ((hA k a').put ha (DD rfl) _) (by simp_all) ⟨by omega,_,A4 hlt⟩) ?_⟩;rintro e a3 W3 ⟨rfl,q7,qb⟩;have l3:W3.heap[B+1]? = some (.loop { rc .ready with state:=.busy }):=q7.2.trans (A4 hlt);have d3:W3.heap[B]? = some (.deferred (some [])):=q7.1.trans ((AT (by omega)).trans (q8.1.trans hd));have hr:=run_endRound (P:=P) none l3;refine⟨_,_,hr,rfl,(hI (k+1)).put qb (DD rfl) _,(AT (by omega)).trans d3,?_⟩;refine (A4 (by grind)).trans ?_
   grind
  ·rintro e W2 ⟨⟨v,rfl⟩,hi,hd,hl⟩;have q5:=run_endLoop (P:=P) hl (by grind);refine⟨none,_,by rw[q5,q0],hdone _ ((hI N).put hi (DD rfl) _) ((AT (by omega)).trans hd)⟩
section
attribute [local go_sem] Oper.semAt_some
def GL(c:Nat->CH)(i:Nat):CH:=.agg #[c (i*5),c (i*5+1),c (i*5+2),c (i*5+3),c (i*5+4)]
theorem NI{l Bs g N cap:Nat}{ao:Option Addr}{c:Nat->CH}{J:Nat->A2->Prop}{W:A2}(hN:N<=maxLen)(q4:0<N->ao=some ⟨g,0,none⟩)(hJ:∀k W,J k W->W.cell? ⟨Bs,0,none⟩=some (.slice ao N cap) /\ ∀j,j<N*5->W.cell? ⟨g,j,none⟩=some (c j))(hY:∀k W,k<N->J k W->YieldAt CD 0 AI l #[.int .i64 ((N-1-k:Nat):Int),GL c (N-1-k)] W fun e W'=>e=.returned (.bool true)/\J (k+1) W')(h0:J 0 W):
  CallsIn CD 0 AI 204 (#[.func (.yield l) #[] #[]] ++ #[.pointer (some ⟨Bs,0,none⟩)]) W fun e W'=>(∃v,e=.returned v)/\J N W':=by
 have HJ:=Ab hJ;have HY:=Ab hY;have q5:=Ab q4;have q8:=(hJ 0 W h0).1;have H0:=Ab h0;unfold maxLen at hN;have w1:IntKind.i64.wrap ((N:Int)-1)=(N:Int)-1:=by rw[C2];omega
 clear hJ hY h0 q4;refine callsIn_of_wp func204 rfl trivial ?_ rfl;simp only[ntmps204,List.size_toArray,List.length_cons,List.length_nil,Nat.reduceAdd,Nat.reduceSub,Array.replicate_succ,Array.replicate_zero,List.push_toArray,List.append_toArray,List.nil_append,List.cons_append]
 gi_wp2
 gi_loopw [3] (fun i wr=>∃r:Nat,r<=N/\i=.int .i64 ((r:Int)-1)/\J (N-r) wr) (fun i _=>((intOf i)+1).toNat)
 case atStart=>exact⟨N,Dp _,rfl,by rw[Nat.sub_self];exact Aa H0⟩
 case round=>
  obtain⟨r,hr,rfl,hj⟩:=hrel;cases r with
  | zero=>
   have q6:=Ab hj;clear hj
   gi_wp2
   go_end0
   exact⟨⟨_,rfl⟩,Aa q6⟩
  | succ i=>
   obtain⟨hb,hc⟩:=Aa HJ _ _ hj;obtain rfl:=Aa q5 (by omega);have e1:(((i+1:Nat):Int)-1)=(i:Int):=by omega
   have hk:N-(i+1)<N:=by omega
   have e2:N-1-(N-(i+1))=i:=by omega
   have e3:N-(i+1)+1=N-i:=by omega
   have c0:=hc (i*5) (by omega);have c1:=hc (i*5+1) (by omega);have c2:=hc (i*5+2) (by omega);have c3:=hc (i*5+3) (by omega);have c4:=hc (i*5+4) (by omega);obtain⟨fn,tmps,assign,body,hy,hR⟩:=Aa HY _ _ hk hj;rw[e2,GL] at hy;rw[e3] at hR;have HR:=Ab hR;have hlt:(i:Int)<(N:Int):=by omega
   have q9:(0:Int)<=(i:Int):=by omega
   have w2:IntKind.i64.wrap ((i:Int)-1)=(i:Int)-1:=by rw[C2];omega
   rw[e1];clear hj hc hR e1 e2 e3
   gi_wp2
   refine⟨rfl,(Aa HR).mono ?_⟩;rintro e W3 ⟨rfl,q0⟩;have q7:=Ab q0;clear q0
   gi_wp2
   go_roundw
   case rel=>exact⟨i,by omega,rfl,Aa q7⟩
   case measure=>simp[intOf]
theorem LC{a:Option Addr}{n cap:Nat}{w:A2}:A3 AI 158 #[.slice a n cap] w fun e w'=>e=.returned (.func (.func 204) #[] #[.pointer (some ⟨w.heap.size,0,none⟩)])/\w'=w.alloc (.cells #[.slice a n cap] 112):=by
 go_enter func158,ntmps158
 go_wp2_with (fail)
 go_ret;exact⟨rfl,rfl⟩
end
end Go.Proofs.YtdpomdelmdofmaaGreatDoor
