import Derived.Test.YtdpomdelmdofmaaGreatDoorPfx42
open List renaming mem_cons_self->AI,mem_cons_of_mem->AS,mem_cons->AT,length_cons->A1,map_cons->A5,sum_cons->A6,lt_irrefl->Bs,pairwise_cons->CH,length_append->CL,mem_singleton->CR,mem_map->C1,foldl_cons->DD,length_nil->D0,length_map->D1,mem_append->D2
open Nat renaming zero_le->A2,succ_le_succ->A4,le_succ_of_le->C2,le_refl->Dt
open Go.Lit renaming string->A3
open Or renaming inl->BY,inr->CD
open Go.RowKit renaming Below->Dp
open List.Pairwise renaming and_mem->D3
set_option maxRecDepth 100000
set_option maxHeartbeats 4000000
namespace Go.Proofs.YtdpomdelmdofmaaGreatDoor
open Go.Proofs.Tryz Go.RowKit Go.Maps
variable{k:By}{xs bs:List (Lit×To)}{f:Nat}
theorem Ke.inv{j:List Zk}{w w':World}{e:Ending}(h:Ke j w e w')(hl:(Ck j).length<=8796093022208)(q0:∀o∈j,cB o):Dp w.heap.size w w' /\ ∃mv,e=.returned mv/\F4 w' (fun _=>True) mv (some j):=by
 obtain⟨h1,mv,xs,M,h2,h3,_,h5⟩:=h;exact⟨h1,mv,h2,⟨xs,h3,fun _ _=>trivial,h5.move fun k _ _=>⟨rfl,trivial⟩⟩,hl,q0⟩
theorem Rd{S:Nat}{d e n:Int}{p:Value}{v:To×ZG}{F:Nat->Prop}{p2:Option Addr}{w:World}{j:List Zk}(hS:SB w S d e n p)(hD:Bf w F p d e (some v))(hT:Af w)(hl:(Ck j).length<=8796093022208)(qh:∀o∈j,cB o)(hP:∀D R wp,p=.pointer (some ⟨D,0,none⟩)->DU w F D R wp d e v -> ∀w1,Dp w.heap.size w w1->Calls Tryz.prog 88 #[wp,.pointer p2,.int .i64 n] w1 (Ke j w1)):
  Calls Tryz.prog 62 #[.pointer (some ⟨S,0,none⟩),.pointer p2] w fun x w'=>x=.returned (Ai (0,0,Ck j))/\Dp w.heap.size w w':=by
 obtain⟨D,R,wp,rfl,qd⟩:=hD;obtain⟨T,a,iv,h1,h2,h3⟩:=qd.ex;obtain⟨W0,q5⟩:∃W0,W0=w.alloc (.cells #[.int .i64 0,.int .i64 0,.string ⟨#[]⟩] 46):=⟨_,rfl⟩
 have q0:Dp w.heap.size w W0:=by rw[q5];exact (Below.refl _ _).alloc (Dt _) _
 have qi:W0.heap.size=w.heap.size+1:=by rw[q5];simp
 have hab:AB W0 w.heap.size:=by rw[q5];exact AB.new w
 have q9:=hS.low q0;have c2:=q9.c2;have c3:=q9.c3;have q8:CJ W0 D R wp (.slice none 0 0) iv v.2.isSome T a v.1:=h1.move (q0.block D h1.db.lt) fun k hk=>q0.block k (h1.tr.lt k hk);obtain⟨b,rfl,_⟩:=q8.sub.ptr;have HW:=Ab (fun w1 (hb:Dp W0.heap.size W0 w1)=>De (q8.move (hb.block D q8.db.lt) fun k hk=>hb.block k (q8.tr.lt k hk)));have HP:=Ab (fun w1 (hb:Dp W0.heap.size W0 w1)=>hP D R _ rfl qd w1 (q0.trans (hb.mono q0.size)));have qf:=Ab (fun (w3:World) (mv:Value) (hb:Dp W0.heap.size W0 w3) (hi:F4 w3 (fun _=>True) mv (some j))=>Mg hi ((hT.below (q0.mono hT.ng)).below (hb.mono (Nat.le_trans hT.ng q0.size))));have q7:=Ab (And.intro hl qh);have qj:=Ab hab;have qe:=Ab q0;have qn:=Ab q9;have HZ:=Ab qi;have qg:=Ab q5;rw[q5] at c2 c3;obtain⟨A,hA⟩:∃A,A=Ck j:=⟨_,rfl⟩
 rw[<- hA] at qf |-;have hsl:=hS.lt;clear hS hT hl qh hP qd h1 h2 h3 q0 hab q9 q8 qi hA q5
 go_enter func62,ntmps62
 go_upto_region 1 with (fail)
 rw[<- Aa qg];rw[<- Aa qg] at c2 c3
 go_region_with (first
  | (go_at_call 56;refine (Aa HW _ ?_).mono ?_;exact⟨rfl,rfl,rfl,Dt _,fun _ _=>rfl⟩;rintro x w2 ⟨rfl,hb2⟩;replace hb2:Dp W0.heap.size W0 w2:=⟨hb2.os,hb2.tape,hb2.output,hb2.size,hb2.block⟩;have d2:=((Aa qn).low hb2).c2;have q4:=Ab hb2;clear hb2)
  | (go_at_call 88;refine (Aa HP _ ?_).mono ?_;exact⟨(Aa q4).os,(Aa q4).tape,(Aa q4).output,(Aa q4).size,(Aa q4).block⟩;rintro e w3 hx;obtain⟨hb3,mv,rfl,hi⟩:=hx.inv (Aa q7).1 (Aa q7).2;replace hb3:Dp W0.heap.size W0 w3:=(Aa q4).trans (Below.mono ⟨hb3.os,hb3.tape,hb3.output,hb3.size,hb3.block⟩ (Aa q4).size);have q6:=Ab hb3;have HI:=Ab hi;clear hb3 hi hx)
  | (go_at_call 87;refine (Aa qf _ _ ?_ (Aa HI)).mono ?_;exact Aa q6;rintro e w4 ⟨rfl,qb⟩;have a4:=(Aa qj).low (((Aa q6).trans (qb.mono (Aa q6).size)).mono (by have:=Aa HZ;omega));have g0:=a4.c0;have g1:=a4.c1;have g2:=a4.c2;have z:=a4.fz;have qk:=Ab qb;clear qb a4))
 all_goals (
  have qm:=Ab ((Aa qe).trans (((Aa q6).trans ((Aa qk).mono (Aa q6).size)).mono (Aa qe).size))
  go_wp2_with (fail);refine bodyPost_ret (v:=Ai (0,0,A)) (by simp[results,results62,go_sem,Ai,g0,g1,g2]) rfl ?_
  exact⟨rfl,(AE.of3 w.heap.size w4 _ _ _).below (Aa qm) (Dt _)⟩)
theorem MY{α:Type}{es:List (Lit×DataW α)}(hs:∀p∈es,∃s,p.1=.string s):k∈es.map (fun p=>ES p.1) <-> ∃c,(A3 k,c)∈es:=by
 rw[C1];constructor
 ·rintro⟨p,hp,e⟩;obtain⟨s,es'⟩:=hs p hp;obtain⟨Zt,pv⟩:=p;simp only at es' e;subst es';have e':s=k:=e;subst e';exact⟨pv,hp⟩
 ·rintro⟨c,hc⟩;exact⟨_,hc,rfl⟩
theorem Gt:∀ {bs xs:List (Lit×To)},AL xs->(∀q∈bs,∃s,q.1=.string s)->AL (bs.foldl (fun (l:List (Lit×To)) q=>Zr q.1 .nil l) xs)
 | [],_,h,_=>h
 | q::r,xs,h,hb=>by
  obtain⟨s,e⟩:=hb q AI;rw[DD,e];exact Gt (FF h) fun p hp=>hb p (AS _ hp)
theorem KO{k:By}:∀ {bs xs:List (Lit×To)},(∀q∈bs,∃s,q.1=.string s)->((∃c,(A3 k,c)∈bs.foldl (fun (l:List (Lit×To)) q=>Zr q.1 .nil l) xs)<->(∃c,(A3 k,c)∈xs) \/ ∃c,(A3 k,c)∈bs)
 | [],xs,_=>by simp
 | q::r,xs,hb=>by
  obtain⟨s,e⟩:=hb q AI;obtain⟨qk,qv⟩:=q;simp only at e;subst e;rw[DD,KO fun p hp=>hb p (AS _ hp)];constructor
  ·rintro (⟨c,h⟩|⟨c,h⟩)
   ·rcases DL.1 h with h|⟨h,_⟩
    ·injection h with h1 _;injection h1 with h1;subst h1;exact CD ⟨qv,AI⟩
    ·exact BY ⟨c,h⟩
   ·exact CD ⟨c,AS _ h⟩
  ·rintro (⟨c,h⟩|⟨c,h⟩)
   ·by_cases hk:k=s
    ·subst hk;exact BY ⟨.nil,DL.2 (BY rfl)⟩
    ·exact BY ⟨c,DL.2 (CD ⟨h,fun e=>hk (by injection e)⟩)⟩
   ·rcases AT.1 h with h|h
    ·injection h with h1 _;injection h1 with h1;subst h1;exact BY ⟨.nil,DL.2 (BY rfl)⟩
    ·exact CD ⟨c,h⟩
theorem FD(hx:AL xs)(hb:AL bs):k∈BS xs bs<->(∃c,(A3 k,c)∈xs) \/ ∃c,(A3 k,c)∈bs:=by
 unfold BS;rw[MY (Gt hx hb.2).2,KO hb.2]
theorem Jq(hx:AL xs)(hb:AL bs):(BS xs bs).Pairwise (fun a b=>a<b):=by
 unfold BS;have h:=Gt hx hb.2;rw[List.pairwise_map];refine (D3.1 h.1).imp ?_;rintro p q ⟨hp,hq,q0⟩;obtain⟨s,es⟩:=h.2 p hp;obtain⟨t,et⟩:=h.2 q hq;rw[es,et] at q0 |-;exact DY s t q0
theorem My:∀ {l m:List By},l.Pairwise (fun a b=>a<b)->m.Pairwise (fun a b=>a<b)->(∀k,k∈l<->k∈m)->l=m
 | [],[],_,_,_=>rfl
 | [],b::m,_,_,h=>by have:=(h b).2 AI;cases this
 | a::l,[],_,_,h=>by have:=(h a).1 AI;cases this
 | a::l,b::m,hl,hm,h=>by
  have h1:=CH.1 hl;have h2:=CH.1 hm;have hab:a=b:=by
   rcases AT.1 ((h a).1 AI) with e|e
   ·exact e
   ·rcases AT.1 ((h b).2 AI) with e2|e2
    ·exact e2.symm
    ·exact absurd (List.lt_trans (h2.1 a e) (h1.1 b e2)) (Bs b)
  subst hab;have:l=m:=My h1.2 h2.2 fun k=>by
   constructor
   ·intro hk;rcases AT.1 ((h k).1 (AS _ hk)) with e|e
    ·subst e;exact absurd (h1.1 k hk) (Bs k)
    ·exact e
   ·intro hk;rcases AT.1 ((h k).2 (AS _ hk)) with e|e
    ·subst e;exact absurd (h2.1 k hk) (Bs k)
    ·exact e
  rw[this]
def Cl(f:Nat)(xs:List (Lit×To))(k:By):Nat:=match As xs (.string k) with
 | some v=>(Ag k).length+2+Zh f v
 | none=>0
theorem Uv{j:By}(h:AL xs)(q0:j≠k):As (ZF (.string k) xs) (.string j)=As xs (.string j):=by
 rcases Ej xs j with⟨c,hc⟩|hno
 ·rw[DW h hc,DW (Lg h) (GF.2 ⟨hc,fun e=>q0 (by injection e)⟩)]
 ·rw[Gg hno,Gg fun p hp=>hno p (GF.1 hp).1]
theorem P5{j:By}(h:AL xs)(q0:j≠k):Cl f (ZF (.string k) xs) j=Cl f xs j:=by
 unfold Cl;rw[Uv h q0]
theorem IR(f:Nat):∀ {l:List By} {xs:List (Lit×To)},AL xs->l.Nodup->(l.map (Cl f xs)).sum<=Ah f xs
 | [],_,_,_=>A2 _
 | k::l,xs,h,hn=>by
  have h1:=List.nodup_cons.1 hn;have h2:=IR f (Lg (k:=.string k) h) h1.2;have h3:l.map (Cl f (ZF (.string k) xs))=l.map (Cl f xs):=List.map_congr_left fun j hj=>P5 h fun e=>h1.1 (e▸hj);rw[h3] at h2;rw[A5,A6];rcases Ej xs k with⟨c,hc⟩|hno
  ·have h4:=GN (f:=f) hc;have h5:Cl f xs k=(Ag k).length+2+Zh f c:=by unfold Cl;rw[DW h hc]
   omega
  ·have h5:Cl f xs k=0:=by unfold Cl;rw[Gg hno]
   have h6:Ah f (ZF (.string k) xs)<=Ah f xs:=BW f (fun p=>!p.1.sameKey (.string k)) xs;omega
theorem Lw{f:Nat}{m:List By->To->To->List Zk}{s:List By}{xs bs:List (Lit×To)}:∀ {l:List By},(∀k∈l,As xs (.string k)≠none\/As bs (.string k)≠none)->(∀k∈l,∀x y,As xs (.string k)=some x->As bs (.string k)=some y->(m (s++[k]) x y).length<=Zh f x+Zh f y) ->
  (AY m s xs bs l).length<=(l.map (Cl f xs)).sum+(l.map (Cl f bs)).sum
 | [],_,_=>A2 _
 | k::l,hk,hm=>by
  have ih:=Lw (l:=l) (fun j hj=>hk j (AS _ hj)) fun j hj=>hm j (AS _ hj);have h0:=hk k AI;have h1:=hm k AI;rw[AY,CL,A5,A5,A6,A6];cases hx:As xs (.string k) with
  | none=>
   cases hy:As bs (.string k) with
   | none=>rw[hx,hy] at h0;simp at h0
   | some y=>
    have e1:Cl f bs k=(Ag k).length+2+Zh f y:=by unfold Cl;rw[hy]
    simp only[A1,D0];omega
  | some x=>
   have e1:Cl f xs k=(Ag k).length+2+Zh f x:=by unfold Cl;rw[hx]
   cases hy:As bs (.string k) with
   | none=>
    simp only[A1,D0];omega
   | some y=>
    have e2:Cl f bs k=(Ag k).length+2+Zh f y:=by unfold Cl;rw[hy]
    have h2:=h1 x y hx hy;simp only;omega
theorem Dc:∀ (n:Nat) (a b:List To) (k j:Nat),(ZL n a b k j).1.length<=a.length/\(ZL n a b k j).2.length<=b.length
 | 0,_,_,_,_=>⟨A2 _,A2 _⟩
 | _+1,[],[],_,_=>⟨A2 _,A2 _⟩
 | n+1,x::a,[],k,j=>by
  have h:=Dc n a [] k j;rw[ZL];exact⟨A4 h.1,h.2⟩
 | n+1,[],y::b,k,j=>by
  have h:=Dc n [] b k (j+1);rw[ZL];exact⟨h.1,A4 h.2⟩
 | n+1,x::a,y::b,k,j=>by
  have h1:=Dc n a (y::b) k j;have h2:=Dc n (x::a) b k (j+1);have h3:=Dc n a b (k+1) (j+1);rw[ZL];split
  ·exact⟨A4 h1.1,h1.2⟩
  ·split
   ·exact⟨h2.1,A4 h2.2⟩
   ·exact⟨C2 h3.1,C2 h3.2⟩
theorem SI(s:List By)(a b:List To):(CX s a b).length<=a.length+b.length:=by
 have h:=Dc (a.length+b.length) a b 0 0;unfold CX;rw[CL,D1,D1];omega
theorem Dk(f:Nat)(es:List To)(y:List To):es.length<=Zh (f+1) (.slice es y):=by
 show es.length<=2+(es.map fun e=>Zh f e+1).sum;have h:∀l:List To,l.length<=(l.map fun e=>Zh f e+1).sum:=by
  intro l;induction l with
  | nil=>exact A2 _
  | cons a l ih=>rw[A5,A6,A1];omega
 have:=h es;omega
theorem Ek{x:To}(h:AL xs)(hg:As xs (.string k)=some x):(A3 k,x)∈xs:=by
 rcases Ej xs k with⟨c,hc⟩|hno
 ·rw[DW h hc] at hg;injection hg with hg;exact hg▸hc
 ·rw[Gg hno] at hg;cases hg
theorem NZ(hx:AL xs)(hb:AL bs):(BS xs bs).Nodup:=(Jq hx hb).imp fun h e=>by subst e;exact Bs _ h
theorem Jd{d x n:Int}:∀ {f:Nat} {Zg:Int} {s:List By} {a b:To},Zl d x f Zg a->Zl d x f Zg b->(BQ n f s a b).length<=Zh f a+Zh f b
 | 0,_,_,_,_,h,_=>h.elim
 | f+1,Zg,s,a,b,ha,hb=>by
  have p1:=Q0 ha;by_cases hob:ZQ a=true/\ZQ b=true
  ·obtain⟨h1,h2⟩:=hob;obtain⟨xs,rfl⟩:∃xs,a=.map xs:=by
    cases a with
    | map xs=>exact⟨xs,rfl⟩
    | _=>cases h1
   obtain⟨ys,rfl⟩:∃ys,b=.map ys:=by
    cases b with
    | map ys=>exact⟨ys,rfl⟩
    | _=>cases h2
   have m1:=(B8 ha).2;have m2:=(B8 hb).2;have hn:=NZ m1.skey m2.skey;have q1:=IR f m1.skey hn;have q2:=IR f m2.skey hn;have q3:=Lw (f:=f) (m:=BQ n f) (s:=s) (xs:=xs) (bs:=ys) (l:=BS xs ys) (fun k hk=>by
    rcases (FD m1.skey m2.skey).1 hk with⟨c,hc⟩|⟨c,hc⟩
    ·exact BY (by rw[DW m1.skey hc];simp)
    ·exact CD (by rw[DW m2.skey hc];simp)) fun k _ u v hu hv=>Jd (m1.2 _ (Ek m1.skey hu)).2 (m2.2 _ (Ek m2.skey hv)).2
   have e1:Zh (f+1) (.map xs)=2+Ah f xs:=CA f xs;have e2:Zh (f+1) (.map ys)=2+Ah f ys:=CA f ys;show (AY (BQ n f) s xs ys (BS xs ys)).length<=_;omega
  ·have q4:∀c:Bool,(if c=true then ([]:List Zk) else [(2,s,b)]).length<=1:=fun c=>by cases c<;>simp
   by_cases q0:∃xs y ys z,a=.slice xs y/\b=.slice ys z
   ·obtain⟨xs,y,ys,z,rfl,rfl⟩:=q0;have e1:=Dk f xs y;have e2:=Dk f ys z;have e3:=SI s xs ys;show (if ((xs.length:Int)+1)*((ys.length:Int)+1)<=n then CX s xs ys else if veq (.slice xs y) (.slice ys z)=true then [] else [(2,s,.slice ys z)]).length<=_;split
    ·omega
    ·have:=q4 (veq (.slice xs y) (.slice ys z));omega
   ·have e:BQ n (f+1) s a b=if veq a b=true then [] else [(2,s,b)]:=by
     cases a<;>cases b<;>first|rfl|exact absurd ⟨rfl,rfl⟩ hob|exact absurd ⟨_,_,_,_,rfl,rfl⟩ q0
    rw[e];have:=q4 (veq a b);omega
theorem DR:∀ (n:Nat) (a b:List To) (k j:Nat),(∀i∈(ZL n a b k j).1,i<=k+a.length) /\ ∀i∈(ZL n a b k j).2,i<j+b.length
 | 0,_,_,_,_=>⟨(fun i hi=>by cases hi),fun i hi=>by cases hi⟩
 | _+1,[],[],_,_=>⟨(fun i hi=>by cases hi),fun i hi=>by cases hi⟩
 | n+1,x::a,[],k,j=>by
  have h:=DR n a [] k j;rw[ZL];refine⟨fun i hi=>?_,h.2⟩;rcases AT.1 hi with rfl|hi
  ·omega
  ·have:=h.1 i hi;rw[A1];omega
 | n+1,[],y::b,k,j=>by
  have h:=DR n [] b k (j+1);rw[ZL];refine⟨h.1,fun i hi=>?_⟩;rw[A1];rcases AT.1 hi with rfl|hi
  ·omega
  ·have:=h.2 i hi;omega
 | n+1,x::a,y::b,k,j=>by
  have h1:=DR n a (y::b) k j;have h2:=DR n (x::a) b k (j+1);have h3:=DR n a b (k+1) (j+1);rw[ZL];simp only[A1] at h1 h2 h3 |-;split
  ·refine⟨fun i hi=>?_,h1.2⟩;rcases AT.1 hi with rfl|hi
   ·omega
   ·have:=h1.1 i hi;omega
  ·split
   ·refine⟨fun i hi=>by have:=h2.1 i hi;omega,fun i hi=>?_⟩;rcases AT.1 hi with rfl|hi
    ·omega
    ·have:=h2.2 i hi;omega
   ·exact⟨fun i hi=>by have:=h3.1 i hi;omega,fun i hi=>by have:=h3.2 i hi;omega⟩
def Gu(s:List By):Nat:=(s.map fun t=>t.length+1).sum
theorem KP(s:List By)(t:By):Gu (s++[t])=Gu s+(t.length+1):=Ef s t
section
variable{d x n:Int}{B:Nat}
theorem SH{P:Nat}{Zg:Int}{s:List By}{xs ys:List To}(hlv:1<=Zg)(hb:∀e∈ys,Zl d x f (Zg+1) e/\Zh f e<=B)(hx:xs.length<=1000000)(hy:ys.length<=1000000)(hP:Gu s+1001<=P):∀o∈CX s xs ys,aS d x B P o:=by
 have h:=DR (xs.length+ys.length) xs ys 0 0;have q0:∀i:Nat,i<=1000000->((Fj s i).map fun t=>t.length+1).sum<=P:=fun i hi=>by
  have h1:((Fj s i).map fun t=>t.length+1).sum=Gu s+((Lib.itoa (i:Int)).length+1):=KP s _;have h2:=JR i (by omega);omega
 intro o ho;unfold CX at ho;rcases D2.1 ho with ho|ho
 ·obtain⟨i,hi,rfl⟩:=C1.1 ho;exact⟨by show 1<3;decide,q0 i (by have:=h.1 i hi;omega),fun e=>absurd rfl e⟩
 ·obtain⟨i,hi,rfl⟩:=C1.1 ho;have q4:=h.2 i hi;rw[Nat.zero_add] at q4;refine⟨by show 0<3;decide,q0 i (by omega),fun _=>⟨f,Zg+1,by omega,?_⟩⟩;show Zl d x f (Zg+1) ((ys[i]?).getD .nil)/\Zh f ((ys[i]?).getD .nil)<=B;rw[List.getElem?_eq_getElem q4];exact hb _ (List.getElem_mem q4)
theorem X5{Zg:Int}{es y:List To}(h:Zl d x (f+1) Zg (.slice es y)):∀e∈es,Zl d x f (Zg+1) e:=by
 obtain⟨_,h⟩:=h;rcases h with⟨k,_,e⟩|⟨s,_,e⟩|⟨n,_,_,_,e⟩|⟨es',h,e⟩|⟨es',_,_,e⟩
 ·cases e
 ·cases e
 ·cases e
 ·injection e with e1 _;exact e1▸h
 ·cases e
theorem QF{es y:List To}{e:To}(h:e∈es):Zh f e<=Zh (f+1) (.slice es y):=by
 show Zh f e<=2+(es.map fun e=>Zh f e+1).sum;have:∀l:List To,e∈l->Zh f e<=(l.map fun e=>Zh f e+1).sum:=by
  intro l;induction l with
  | nil=>intro h;cases h
  | cons a l ih=>
   intro h;rw[A5,A6];rcases AT.1 h with rfl|h
   ·omega
   ·have:=ih h;omega
 have:=this es h;omega
theorem Lv{m:List By->To->To->List Zk}{s:List By}{xs bs:List (Lit×To)}{o:Zk}:∀ {l:List By},o∈AY m s xs bs l -> ∃k∈l,(As bs (.string k)=none/\o=(1,s++[k],.nil))\/(∃y,As bs (.string k)=some y/\o=(0,s++[k],y)) \/ ∃u y,As xs (.string k)=some u/\As bs (.string k)=some y/\o∈m (s++[k]) u y
 | [],h=>by cases h
 | k::l,h=>by
  rw[AY] at h;rcases D2.1 h with h|h
  ·refine⟨k,AI,?_⟩;cases hy:As bs (.string k) with
   | none=>
    rw[hy] at h;cases hx:As xs (.string k)<;>(rw[hx] at h;simp only[CR] at h;exact BY ⟨rfl,h⟩)
   | some y=>
    rw[hy] at h;cases hx:As xs (.string k) with
    | none=>
     rw[hx] at h;simp only[CR] at h;exact CD (BY ⟨y,rfl,h⟩)
    | some u=>
     rw[hx] at h;exact CD (CD ⟨u,y,rfl,rfl,h⟩)
  ·obtain⟨j,hj,hr⟩:=Lv h;exact⟨j,AS _ hj,hr⟩
end
end Go.Proofs.YtdpomdelmdofmaaGreatDoor
