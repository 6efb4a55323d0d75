import Derived.Test.YtdpomdelmdofmaaGreatDoorRea34
import Derived.Deep.CutBlock
open Go.Maps renaming has->AI,has_true_of_atKey->HI,size_eq->HX
open Go.Proofs.Tryz renaming prog->AS
open Go renaming DataW->AT,World->Bs,Value->CR,heap_alloc_new->C2,wpList_lookup_own_ok->D3,wpList_next_ranges->F5,bodyPost_ret->HA,wpList_range_own->HT
open Option.some renaming inj->A1
open Nat renaming le_refl->A2,le_trans->CL,zero_le->C1
open List renaming mem_cons_self->A3,mem_cons->Dp,mem_cons_of_mem->E0,pairwise_cons->F7,any_eq_true->HL
open Go.DataW renaming map->A4,held->HY
open Go.World renaming cell?_of_block->A5,block_lt_of_cell?->DD
open Go.RowKit.Below renaming refl->BY,heap_setCell->CD
open Go.RowKit renaming Below->CH
open Or renaming inr->D0,inl->D2
open Go.Lit renaming string->D1
open Go.WideAt renaming sameKey_self->Ft,atKey_mem->HN
open Option renaming isSome_none->FD,isSome_some->F1,getD_none->HJ,getD_some->HK
open Go.Instr renaming lookup->G3,mapUpdate->HU
open List.Pairwise renaming nil->HH
open And renaming intro->HW
set_option maxRecDepth 100000
set_option maxHeartbeats 8000000
namespace Go.Proofs.YtdpomdelmdofmaaGreatDoor
open Go.Proofs.Tryz Go.RowKit Go.Maps
variable{q N cnt:Nat}{F' F2:Nat->Prop}{a:To}{es bs xs:List (Lit×To)}{left:Lit->Bool}{kl:Lit}
section
variable{f:Nat}{F:Nat->Prop}{w:Bs}{v:CR}{o:Option To}
theorem Qr(h:Ia f F w v o)(hs:∀s,Cd o=some s->s.length<=1048576)(hT:Ai w):
  Calls AS 148 #[v] w fun e w'=>GK w.heap.size (BS o) e w'/\CH w.heap.size w w':=by
 have HC:=Ab (Qj h);obtain⟨p,rfl⟩:=h.ptr;unfold BS;clear h;cases hp:Cd o with
 | none=>
  rw[hp] at HC;clear hp hs hT
  go_enter func148,ntmps148
  go_wp2_with (fail);refine (Aa HC).mono ?_
  rintro e w' ⟨rfl,rfl⟩;unfold Rm;simp only[HJ,FD]
  go_wp2_with (fail)
  go_ret2
  exact⟨rfl,BY _ _⟩
 | some s=>
  rw[hp] at HC;have HR:=Ab (Mp (hs s hp) hT hT.pesc hT.mx);clear hp hs hT
  go_enter func148,ntmps148
  go_wp2_with (fail);refine (Aa HC).mono ?_
  rintro e w' ⟨rfl,rfl⟩;unfold Rm;simp only[HK,F1]
  go_wp2_with (fail);refine (Aa HR).mono ?_
  rintro e w2 ⟨hn,hb⟩;cases ht:fL s with
  | none=>
   rw[ht] at hn;obtain rfl:e=.returned (.tuple #[.slice none 0 0,.bool false]):=hn
   go_wp2_with (fail)
   go_ret2
   refine⟨?_,hb⟩;show GK _ (fL s) _ _;rw[ht];rfl
  | some ks=>
   rw[ht] at hn;obtain⟨u,rfl,h1,h2⟩:=hn;have H:=Ab (show GK _ (some ks) (.returned (.tuple #[u,.bool true])) w2/\_ from⟨⟨u,rfl,h1,h2⟩,hb⟩);have q0:=Ab ht;clear h1 h2 hb ht
   go_wp2_with (fail)
   go_ret2
   refine⟨?_,(Aa H).2⟩;show GK _ (fL s) _ _;rw[Aa q0];exact (Aa H).1
end
theorem BX{P:Program}{w:Bs}{ops:Array Oper}{rest:List Oper}{o:Oper}{a:Act}{Q:Exit->Act->Bs->Prop}(hg:o.guard=none)(m x:Operand)(t:TypeId)(c:Bool)(q5:o.op=Op.lookup t m x c)(mv key r:CR)(hm:a.eval m=mv)(hx:a.eval x=key)(q0:(G3 t mv key c).run P w=.ok r w)(hK:wpList P ops Q rest (a.put o.dst r) w):wpList P ops Q (o::rest) a w:=by
 refine wpList_plain hg fun K' q4=>?_;unfold Oper.wp;simp[execOp,q5,hm,hx,q0,Result.andThen];exact q4 _ _ hK
theorem Qd{w:Bs}{G:Nat->Prop}{v:CR}{l:List By}(h:CW w v l)(hg:∀g,v.ownBlock=some g->G g):Aw w G v l:=by
 rcases h with h|⟨g,o,cap,rfl,h2,h3,h4⟩
 ·exact D2 h
 ·exact D0 ⟨g,o,cap,rfl,h2,h3,hg g rfl,h4⟩
theorem Fq{w:Bs}{G:Nat->Prop}{v:CR}{l:List By}(h:Aw w G v l):∃a n c,v=.slice a n c:=by
 rcases h with⟨_,a,c,rfl,_⟩|⟨g,o,cap,rfl,_⟩
 ·grind
 grind
theorem OpB.fz{w:Bs}{k:Nat}{pa fa y:Option Addr}{pl pc fl fc:Nat}(h:OpB w q k pa pl pc fa fl fc y)(i:Nat):w.frozen? ⟨q,i,none⟩=false:=Lib.frozen_of_heap h i
def FF(F:Nat->Prop)(d:To)(w:Bs)(e:Ending)(w':Bs):Prop:=match CK d with
 | none=>e=.returned (.tuple #[opV 0 none 0 0 none 0 0 none,.bool false])
 | some o=>∃pa pl pc fa fl fc y,e=.returned (.tuple #[opV o.1 pa pl pc fa fl fc y,.bool true])/\H8 w' (fun k=>(F k/\k<w.heap.size)\/w.heap.size<k) o pa pl pc fa fl fc y
theorem PE{W:Bs}(a b c d:CR)(k:Nat)(hk:k≠q):((((W.setCell ⟨q,0,none⟩ a).setCell ⟨q,1,none⟩ b).setCell ⟨q,2,none⟩ c).setCell ⟨q,3,none⟩ d).heap[k]? = W.heap[k]? :=
 (CD _ _ _ _ hk).trans ((CD _ _ _ _ hk).trans ((CD _ _ _ _ hk).trans (CD _ _ _ _ hk)))
theorem Gv{B:Nat}{w W:Bs}(h:CH B w W)(hq:B<=q)(a b c d:CR):CH B w ((((W.setCell ⟨q,0,none⟩ a).setCell ⟨q,1,none⟩ b).setCell ⟨q,2,none⟩ c).setCell ⟨q,3,none⟩ d):=
 (((h.setCell (p:=⟨q,0,none⟩) hq _).setCell (p:=⟨q,1,none⟩) hq _).setCell (p:=⟨q,2,none⟩) hq _).setCell (p:=⟨q,3,none⟩) hq _
section
variable{f:Nat}{F:Nat->Prop}{w:Bs}{v:CR}{d:To}{m:Nat}
theorem WG(h:Rep (f+1) F w v d)(hf:f<=top)(hs:∀k s,Cd (AH d k)=some s->s.length<=1048576)(hm:w.ownsMap AS 219 KE m 6 (nD 6))(hT:Ai w):
  Calls AS 115 #[.map (some m),v] w fun e w'=>FF F d w e w'/\CH w.heap.size w w':=by
 obtain⟨b,n,x,s,sl,mv,rfl,hv,hk⟩:=N6 h;obtain⟨y1,r1,l1⟩:=hk AZ (by decide);obtain⟨y2,r2,l2⟩:=hk DG (by decide);obtain⟨y3,r3,l3⟩:=hk AU (by decide);obtain⟨y4,r4,l4⟩:=hk fF (by decide);have zk:=hv.lt;have zn:m<w.heap.size:=by obtain⟨es,zi,hb,_⟩:=hm;grind
 obtain⟨W0,qf⟩:∃W0,W0=w.alloc (.cells #[.int .i64 0,.slice none 0 0,.slice none 0 0,.pointer none] 178):=⟨_,rfl⟩
 have q5:CH w.heap.size w W0:=by rw[qf];exact (BY _ _).alloc (A2 _) _
 have qp:W0.heap.size=w.heap.size+1:=by simp_all
 have z1:OpB W0 w.heap.size 0 none 0 0 none 0 0 none:=by rw[qf];exact C2 w _
 obtain⟨q,hq⟩:∃q,q=w.heap.size:=⟨_,rfl⟩
 rw[<- hq] at q5 qp z1;have HV:=Ab hv;have z7:=Ab q5;have qj:=Ab qp;have zv:=Ab z1;have qu:=Ab (hT.below (q5.mono (by rw[hq];exact hT.ng)));have H1:=Ab (r1.bel (hq▸q5));have zt:=Ab (Qr (r1.bel (hq▸q5)) (by grind) (Aa qu));have R2:=Ab r2;have R3:=Ab r3;have R4:=Ab r4;have L1:=Ab (fun w' (hb:CH q w w')=>(l1 w' (hq▸hb)).2);have L2:=Ab (fun w' (hb:CH q w w')=>(l2 w' (hq▸hb)).2);have L3:=Ab (fun w' (hb:CH q w w')=>(l3 w' (hq▸hb)).1);have L4:=Ab (fun w' (hb:CH q w w')=>(l4 w' (hq▸hb)).2);have HM:=Ab hm;have zs:=Ab zn;have HQ:=Ab hq;have zg:=Ab qf;have zf:=Ab hs;have z8:=Ab zk;have qv:=(hv.kept (q5.block b (by omega))).c6;obtain⟨p1,rfl⟩:=r1.ptr;obtain⟨p2,rfl⟩:=r2.ptr;obtain⟨p3,rfl⟩:=r3.ptr;obtain⟨p4,rfl⟩:=r4.ptr;obtain⟨E,hE⟩:∃E,E=FF F d w:=⟨_,rfl⟩
 rw[<- hE];have HE:=Ab hE;clear hE;rw[<- Aa HQ];rw[qf] at qv;have c6:=qv;clear h hk hs hm hT r1 r2 r3 r4 l1 l2 l3 l4 hv zk zn q5 qp z1 hq qf qv
 go_enter func115,ntmps115
 go_wp2_with (first|(at_lookup;refine BX rfl _ _ 109 false rfl _ _ _ rfl rfl (Aa L1 _ (Aa zg▸Aa z7)) ?_))
 rw[<- Aa zg,<- Aa HQ];have qt:=Ab (show q<=W0.heap.size by have:=Aa qj;omega);refine (Aa zt).mono ?_;rintro e W1 ⟨qn,hb1⟩;have q8:=Ab ((Aa z7).trans (hb1.mono (Aa qt)));have q0:OpB W1 q 0 none 0 0 none 0 0 none:=(hb1.block q (by have:=Aa qj;omega)).trans (Aa zv);have qk:=Ab hb1.size;cases hpp:BS (AH d AZ) with
 | none=>
  rw[hpp] at qn;obtain rfl:e=.returned (.tuple #[.slice none 0 0,.bool false]):=qn;have g0:=q0.c0;have g1:=q0.c1;have g2:=q0.c2;have g3:=q0.c3;have z:=q0.fz;have qd:=Ab (show CK d=none by unfold CK;rw[hpp]);clear hb1 q0 hpp c6
  go_wp2_with (fail);refine HA (v:=.tuple #[opV 0 none 0 0 none 0 0 none,.bool false]) (by simp[results,results115,go_sem,g0,g1,g2,g3]) rfl ?_
  refine⟨?_,Gv (Aa q8) (A2 _) _ _ _ _⟩;rw[Aa HE,FF,Aa qd]
 | some p=>
  rw[hpp] at qn;obtain⟨u,rfl,zo,zm⟩:=qn;have qe:=Ab (Qd zo (G:=fun k=>W0.heap.size<=k) zm);obtain⟨pa,pl,pc,rfl⟩:=Fq (Aa qe);have zx:=((Aa HV).kept ((Aa q8).block b (by have:=Aa z8;have:=Aa HQ;omega))).c6;have qw:Ai W1:=(Aa qu).below (hb1.mono (Aa qu).ng);have y6:=Ab qw;have zw:=Ab q0;have zu:=Ab (Qr ((Aa R2).bel (Aa HQ▸Aa q8)) (fun s' zz=>Aa zf _ s' zz) qw);have zc:=Ab hpp;clear zo zm hpp c6 hb1 q0 qw
  go_wp2_with (first|(at_lookup;refine BX rfl _ _ 109 false rfl _ _ _ rfl rfl (Aa L2 _ (Aa q8)) ?_))
  refine (Aa zu).mono ?_;rintro e W2 ⟨qh,hb2⟩;obtain⟨fa,fl,fc,rfl,zl⟩:∃fa fl fc,e=.returned (.tuple #[.slice fa fl fc,.bool (BS (AH d DG)).isSome]) /\ ∀t,BS (AH d DG)=some t->Aw W2 (fun k=>W1.heap.size<=k) (.slice fa fl fc) t:=by
   cases hf2:BS (AH d DG) with
   | none=>
    rw[hf2] at qh;exact⟨none,0,0,qh,fun t h=>by cases h⟩
   | some t2=>
    rw[hf2] at qh;obtain⟨u,rfl,y5,zy⟩:=qh;have z6:=Qd y5 (G:=fun k=>W1.heap.size<=k) zy;obtain⟨fa,fl,fc,rfl⟩:=Fq z6
    grind
  have zq:=Ab zl;have qg:q<=W1.heap.size:=CL (Aa qt) (Aa qk);have q6:=Ab ((Aa q8).trans (hb2.mono qg));have q4:=Ab hb2;have y8:=((Aa HV).kept ((Aa q6).block b (by have:=Aa z8;have:=Aa HQ;omega))).c6;have za:=IO (Aa HM) ((Aa q6).block m (by have:=Aa zs;have:=Aa HQ;omega));have qb:=Ab (Qj ((Aa R4).bel (Aa HQ▸Aa q6)));have ze:=Ab (show OpB W2 q 0 none 0 0 none 0 0 none from (hb2.block q (by have:=Aa qk;have:=Aa qj;omega)).trans (Aa zw));obtain⟨bf,qx⟩:∃bf,bf=(BS (AH d DG)).isSome:=⟨_,rfl⟩
  obtain⟨bv,qy⟩:∃bv,bv=(AH d AU).isSome:=⟨_,rfl⟩
  obtain⟨nm,qo⟩:∃nm,nm=(Cd (AH d fF)).getD []:=⟨_,rfl⟩
  have hnl:nm.length<=1048576:=by
   rw[qo];cases h:Cd (AH d fF) with
   | none=>simp
   | some s'=>exact Aa zf _ s' h
  have HF:=Ab (WP za (x:=(nm,bv,bf)) hnl);rw[lD] at HF;unfold nv at HF;simp only at HF;unfold Rm at qb;rw[<- qo] at qb;obtain⟨b4,zj⟩:∃b4,b4=(Cd (AH d fF)).isSome:=⟨_,rfl⟩
  rw[<- zj] at qb;rw[<- qx];have zh:=Ab (Aa L3 _ (Aa q6));rw[<- qy] at zh;have qq:=Ab qx;have qr:=Ab qy;have zb:=Ab qo;clear qh zl hb2 qg za qx qy qo hnl zj zx
  go_wp2_with (first|(at_lookup;refine BX rfl _ _ 109 true rfl _ _ _ rfl rfl (Aa zh) ?_)|(at_lookup;refine BX rfl _ _ 109 false rfl _ _ _ rfl rfl (Aa L4 _ (Aa q6)) ?_))
  refine (Aa qb).mono ?_;rintro e y7 ⟨rfl,rfl⟩
  go_wp2_with (fail);refine (Aa HF).mono ?_
  rintro e W3 ⟨rfl,hb3⟩;have q7:OpB W3 q 0 none 0 0 none 0 0 none:=(hb3.block q (Aa ze).lt).trans (Aa ze);have qi:=Ab ((Aa q6).trans (hb3.mono (CL (CL (Aa qt) (Aa qk)) (Aa q4).size)));have q9:=Ab hb3;have g0:=q7.c0;have g1:=q7.c1;have g2:=q7.c2;have g3:=q7.c3;have z:=q7.fz;clear q7 hb3 HF qb;unfold NC;cases hkk:GP nm bv bf with
  | none=>
   simp only[HJ,FD];have qd:=Ab (show CK d=none by unfold CK;rw[Aa zc];simp only;rw[<- Aa qq,<- Aa qr,<- Aa zb,hkk]);clear hkk
   go_wp2_with (fail);refine HA (v:=.tuple #[opV 0 none 0 0 none 0 0 none,.bool false]) (by simp[results,results115,go_sem,g0,g1,g2,g3]) rfl ?_
   refine⟨?_,Gv (Aa qi) (A2 _) _ _ _ _⟩;rw[Aa HE,FF,Aa qd]
  | some k=>
   simp only[HK,F1];have qd:=Ab (show CK d=some (k,p,(BS (AH d DG)).getD [],(AH d AU).getD .nil) by unfold CK;rw[Aa zc];simp only;rw[<- Aa qq,<- Aa qr,<- Aa zb,hkk]);have zr:=Ab hkk;clear hkk
   go_wp2_with (fail);refine HA (v:=.tuple #[opV k pa pl pc fa fl fc p3,.bool true]) (by simp[results,results115,go_sem,g0,g1,g2,g3]) rfl ?_
   refine⟨?_,Gv (Aa qi) (A2 _) _ _ _ _⟩;rw[Aa HE,FF,Aa qd];obtain⟨k1,k2,k3⟩:=IP (Aa zr);have qp:=Aa qj;have y9:=Aa qk;have hs2:=(Aa q4).size;have hQ:=Aa HQ;have qz:∀j,j<W3.heap.size->j≠q -> ∀a b c d',(((((W3.setCell ⟨q,0,none⟩ a).setCell ⟨q,1,none⟩ b).setCell ⟨q,2,none⟩ c).setCell ⟨q,3,none⟩ d').heap[j]? = W3.heap[j]?):=fun j _ hj a b c d'=>PE a b c d' j hj;refine⟨pa,pl,pc,fa,fl,fc,p3,rfl,k1,?_,fun h3=>?_,fun h3=>?_⟩
   ·refine ((Aa qe).move (w':=W3) (G':=fun j=>W0.heap.size<=j) fun j hj qm=>⟨?_,hj⟩).move (by grind);exact ((Aa q9).block j (by omega)).trans ((Aa q4).block j qm)
   ·have h4:=k3 h3;cases hq:BS (AH d DG) with
    | none=>have h5:=Aa qq;grind
    | some t2=>
     refine ((Aa zq t2 hq).move (w':=W3) (G':=fun j=>W1.heap.size<=j) fun j hj qm=>⟨(Aa q9).block j qm,hj⟩).move (by grind)
   ·have h4:=k2 h3;cases hq:AH d AU with
    | none=>have h5:=Aa qr;grind
    | some y=>
     have h6:=Aa R3;rw[hq] at h6;have h7:Rep top F w (.pointer p3) y:=Rep.up h6 hf;exact h7.move fun j hj qm=>⟨(qz j (by have:=(Aa qi).size;omega) (by omega) _ _ _ _).trans ((Aa qi).block j (by omega)),D2 ⟨hj,by omega⟩⟩
end
def Ez(f:Nat)(F':Nat->Prop)(a b:To)(w:Bs)(e:Ending)(w':Bs):Prop:=CH w.heap.size w w'/\match fW f a b with
 | none=>e=.returned (.tuple #[.pointer none,.bool false])
 | some z=>∃p,e=.returned (.tuple #[.pointer (some p),.bool true])/\Rep f (fun k=>F' k\/w.heap.size<=k) w' (.pointer (some p)) z
def XO(d x:Int)(f:Nat):Prop:=∀ (g:Nat) (lv:Int) (F F':Nat->Prop) (w:Bs) (v v':CR) (a b:To),f=g+1->Src g F w v a->fA d x g lv (AD a)->Ak g (AD a)<=1000000->Rep f F' w v' b->(∀k,F' k->k<w.heap.size)->dY d x f lv b->dT f b<=1000000 ->
 Calls AS 89 #[v,v'] w (Ez f F' a b w)
section
variable{d x:Int}
theorem Wk{g:Nat}{F:Nat->Prop}{w:Bs}{v v':CR}{b:To}(hs:Src g F w v a)(h:Rep (g+1) F' w v' b)(hb:fI b=false):
  Calls AS 89 #[v,v'] w (Ez (g+1) F' a b w):=by
 obtain⟨ab,ax,an,q5,q4,q0,rfl,_⟩:=hs;obtain⟨tb,tx,tn,ts,q7,q6,rfl,ht,_,e6⟩:=Dk h;rw[hb] at e6;have e1:(tx != 6)=true:=e6;have c0:=ht.c0;have HR:=Ab h;have HE:=Ab (show fW (g+1) a b=some b by cases b<;>first|rfl|cases hb);obtain⟨Q,hQ⟩:∃Q,Q=Ez (g+1) F' a b w:=⟨_,rfl⟩
 rw[<- hQ];have HQ:=Ab hQ;clear h hb e6 ht hQ
 go_enter func89,ntmps89
 go_wp2_with (fail);show Q (.returned (.tuple #[.pointer (some ⟨tb,0,none⟩),.bool true])) _
 rw[Aa HQ];refine⟨BY _ _,?_⟩;rw[Aa HE];exact⟨_,rfl,(Aa HR).move fun k hk _=>⟨rfl,D2 hk⟩⟩
noncomputable def CT(f:Nat)(xs bs:List (Lit×To))(k:Lit):Option (Option To):=gQ (fW f) xs k ((A4 bs).atKey k .nil)
noncomputable def B4(f:Nat)(xs bs:List (Lit×To))(left:Lit->Bool)(k:Lit):Bool:=if AI (.map bs:AT Unit) k=true then (!left k && (match CT f xs bs k with|some (some _)=>true|_=>false)) else AI (.map xs:AT Unit) k
noncomputable def DW(f:Nat)(xs bs:List (Lit×To))(k:Lit):To:=if AI (.map bs:AT Unit) k=true then (match CT f xs bs k with|some (some z)=>z|_=>AF 0) else AF 0
theorem FL{k:Lit}(h:Az es)(hh:AI (.map es:AT Unit) k=true):∃s c,k=.string s/\(D1 s,c)∈es/\(A4 es).atKey k .nil=c:=by
 obtain⟨p,hp,hs⟩:=HL.1 (show (es.any fun p=>p.1.sameKey k)=true from hh);obtain⟨s,e⟩:=h.2 p hp;have ek:p.1=k:=WideAt.sameKey_eq hs;obtain⟨pk,pv⟩:=p;simp only at e ek;subst e;subst ek;exact⟨s,pv,rfl,hp,HN .nil (by exact trivial) (apart_of_rising h.1) hp⟩
theorem QC{s:By}{c:To}(h:Az es)(hm:(D1 s,c)∈es):AI (.map es:AT Unit) (.string s)=true/\(A4 es).atKey (.string s) .nil=c:=
 ⟨HL.2 ⟨_,hm,Da.2 rfl⟩,HN .nil (by exact trivial) (apart_of_rising h.1) hm⟩
theorem T6{f:Nat}(hb:Az bs){k:Lit}(hh:AI (.map bs:AT Unit) k=true)(hn:CT f (AD a) bs k=none):fW (f+1) a (.map bs)=none:=by
 obtain⟨s,c,rfl,hm,e⟩:=FL hb hh;unfold CT at hn;rw[e] at hn;show (D9 (fW f) (AD a) bs (Do (AD a) bs)).map A4=none;rw[IJ ⟨_,hm,hn⟩];rfl
theorem Wl{f:Nat}{w wr w2:Bs}(hM:Cs f N w F2 (B4 f (AD a) bs left) (DW f (AD a) bs) cnt wr)(hl:∀k,left k=false)(q6:∀k,AI (.map bs:AT Unit) k=true->left k=false->CT f (AD a) bs k≠none)(q5:Az (AD a))(hsb:Az bs)(hb:CH wr.heap.size wr w2)(hvb:VB w2 wr.heap.size 6 n0 [] (.slice none 0 0) (.map (some w.heap.size)))(q8:∀k,F2 k->F' k\/w.heap.size<=k):
  ∃z,fW (f+1) a (.map bs)=some z/\Rep (f+1) (fun k=>F' k\/w.heap.size<=k) w2 (.pointer (some ⟨wr.heap.size,0,none⟩)) z/\CH w.heap.size w w2:=by
 obtain⟨out,e,q7,hk⟩:=LE (m:=fW f) (xs:=AD a) hsb (Gm (bs:=bs) q5) (fun q hq=>by
  obtain⟨s,es⟩:=hsb.2 q hq;obtain⟨qk,qv⟩:=q;simp only at es;subst es;obtain⟨h1,h2⟩:=QC hsb hq;have:=q6 _ h1 (hl _);unfold CT at this;rw[h2] at this;exact this)
 obtain⟨n',D',es',g1,g2,g3,g4,g5⟩:=hM.el;have c':=g3.canon (g2.canon BE);have q0:∀k,AI (.map es':AT Unit) k=AI (.map out:AT Unit) k/\(AI (.map es':AT Unit) k=true->(A4 es').atKey k .nil=(A4 out).atKey k .nil):=by
  intro k;rw[g4];by_cases q4:∃s,k=.string s
  ·obtain⟨s,rfl⟩:=q4;rcases CP bs s with⟨c,hc⟩|hno
   ·obtain⟨h1,h2⟩:=QC hsb hc;have hf:CT f (AD a) bs (.string s)=gQ (fW f) (AD a) (.string s) c:=by unfold CT;rw[h2]
    have hz:=(hk s).1 c hc;rw[<- hf] at hz;have hne:=q6 _ h1 (hl _);have gh:=ON (bs:=bs) q5 (.string s);cases hfa:CT f (AD a) bs (.string s) with
    | none=>exact absurd hfa hne
    | some o=>
     cases o with
     | none=>
      have h3:=hz.1 hfa;have e1:B4 f (AD a) bs left (.string s)=false:=by unfold B4;rw[if_pos h1,hfa];simp
      have e2:AI (.map out:AT Unit) (.string s)=false:=by rw[h3.1,gh.1,h1];simp
      rw[e1,e2];exact⟨rfl,fun h=>by cases h⟩
     | some z=>
      have h3:=hz.2 z hfa;have e1:B4 f (AD a) bs left (.string s)=true:=by unfold B4;rw[if_pos h1,hfa,hl];rfl
      refine⟨e1.trans h3.1.symm,fun h=>?_⟩;rw[g5 _ h,h3.2];unfold DW;rw[if_pos h1,hfa]
   ·have h1:AI (.map bs:AT Unit) (.string s)=false:=by
     cases h:AI (.map bs:AT Unit) (.string s) with
     | false=>rfl
     | true=>
      obtain⟨s',c,e1,hm,_⟩:=FL hsb h;exact absurd e1.symm (hno _ hm)
    have h3:=(hk s).2 hno;have gh:=ON (bs:=bs) q5 (.string s);have e1:B4 f (AD a) bs left (.string s)=AI (.map (AD a):AT Unit) (.string s):=by unfold B4;rw[if_neg (by rw[h1];decide)]
    have e2:AI (.map out:AT Unit) (.string s)=AI (.map (AD a):AT Unit) (.string s):=by rw[h3.1,gh.1,h1];simp
    refine⟨e1.trans e2.symm,fun h=>?_⟩;rw[g5 _ h,h3.2,gh.2 (by rw[<- h3.1,e2,<- e1];exact h)];unfold DW;rw[if_neg (by rw[h1];decide)]
  ·have no:∀es:List (Lit×To),Az es->AI (.map es:AT Unit) k=false:=fun es h=>by
    cases hh:AI (.map es:AT Unit) k with
    | false=>rfl
    | true=>
     obtain⟨s,_,e1,_⟩:=FL h hh;exact absurd ⟨s,e1⟩ q4
   have e1:B4 f (AD a) bs left k=false:=by unfold B4;rw[if_neg (by rw[no bs hsb];decide),no _ q5]
   rw[e1,no out q7];exact⟨rfl,fun h=>by cases h⟩
 have q9:es'=out:=Om c' (Hc q7) (fun k=>(q0 k).1) (fun k hh=>(q0 k).2 hh);subst q9;refine⟨.map es',?_,⟨wr.heap.size,rfl,D0 (Nat.le_of_lt hM.sz),D0 (D0 (D0 (D0 ⟨es',w.heap.size,n',D',rfl,hvb,D0 (A2 _),An g2 (hb.block _ hM.sz),g3.mono fun _ _ hr=>hr.move fun k h1 h2=>⟨hb.block k h2,q8 k h1⟩⟩)))⟩,hM.bel.trans (hb.mono hM.bel.size)⟩;show (D9 (fW f) (AD a) bs (Do (AD a) bs)).map A4=some (.map es');rw[e];rfl
theorem Ux{f cnt1:Nat}{w w3:Bs}(h:Cs f N w F2 (B4 f xs bs left) (DW f xs bs) cnt w3)(hc:cnt1<cnt)(hb:AI (.map bs:AT Unit) kl=true)(hf:CT f xs bs kl=some none):
  Cs f N w F2 (B4 f xs bs (fun z=>left z && !z.sameKey kl)) (DW f xs bs) cnt1 w3:=by
 refine h.as (by omega) (fun k=>?_) (fun k _=>rfl);unfold B4;by_cases hkk:k=kl
 ·subst hkk;rw[if_pos hb,if_pos hb,hf];simp
 ·simp[Cn hkk]
theorem WQ{f cnt1:Nat}{w w3:Bs}{x:CR}{p:Addr}{z:To}(h:Cs f N w F2 (B4 f xs bs left) (DW f xs bs) cnt w3)(hc:cnt1<cnt)(hN:N<maxLen)(hF:∀k,F2 k->k≠w.heap.size)(q0:keyOf AS 9 x=some kl)(hkk:WideAt.IsKeyLit kl)(hb:AI (.map bs:AT Unit) kl=true)(hf:CT f xs bs kl=some (some z))(hv:Rep f F2 w3 (.pointer (some p)) z):
  ∃w4,(HU 109 (.map (some w.heap.size)) x (.pointer (some p))).run AS w3=.ok () w4/\Cs f N w F2 (B4 f xs bs (fun z=>left z && !z.sameKey kl)) (DW f xs bs) cnt1 w4/\w3.grownBy w4 (some w.heap.size):=by
 obtain⟨w4,q4,hM,hg⟩:=h.put hc hN hF q0 hkk hv;refine⟨w4,q4,hM.as (A2 _) (fun k=>?_) (fun k _=>?_),hg⟩
 ·unfold B4;by_cases hk:k=kl
  ·subst hk;rw[if_pos hb,if_pos hb,hf];simp[Ft hkk]
  ·simp[Cn hk]
 ·by_cases hk:k=kl
  ·subst hk;rw[if_pos (Ft hkk)];unfold DW;rw[if_pos hb,hf]
  ·rw[Cn hk,if_neg (by decide)]
theorem Uy{f:Nat}(hg:Aj xs kl=none):CT f xs bs kl=if fY ((A4 bs).atKey kl .nil)=true then none else (fW f (.map []) ((A4 bs).atKey kl .nil)).map some:=by
 unfold CT gQ;rw[hg]
theorem Uw{f:Nat}{y:To}(hg:Aj xs kl=some y):CT f xs bs kl=if veq y ((A4 bs).atKey kl .nil)=true then some none else if fY ((A4 bs).atKey kl .nil)=true then none else (fW f y ((A4 bs).atKey kl .nil)).map some:=by
 unfold CT gQ;rw[hg]
theorem Uo{y:To}(hs:Az xs)(hg:Aj xs kl=some y):∃s,(D1 s,y)∈xs:=by
 unfold Aj at hg;split at hg
 ·rename_i h;obtain⟨s,c,rfl,hm,e⟩:=FL hs h;injection hg with hg;exact⟨s,by rw[<- hg,e];exact hm⟩
 ·cases hg
theorem GN{g:Nat}{lv:Int}{v:To}(h:dY d x (g+1) lv v):fA d x g lv (AD v)/\Ak g (AD v)<=dT (g+1) v:=by
 cases v with
 | map es=>
  refine⟨(Bt h).2,?_⟩
  grind [AD,Ak,dT]
 | _=>exact⟨⟨HH,fun p hp=>by cases hp⟩,C1 _⟩
theorem YO{f:Nat}{lv:Int}{F:Nat->Prop}{w:Bs}{v:CR}{tb mt nt:Nat}{Dt:List (Lit×AT CR)}(hS:XO d x f)(ha:Src f F w v a)(y9:fA d x f lv (AD a))(y8:Ak f (AD a)<=1000000)(ht:VB w tb 6 n0 [] (.slice none 0 0) (.map (some mt)))(yg:w.ownsMap AS 9 RV mt nt (.map Dt))(jc:Pt (Rep f F' w) Dt bs)(j8:fA d x f lv bs)(j4:Ak f bs<=1000000)(yy:∀k,F' k->k<w.heap.size):
  Calls AS 89 #[v,.pointer (some ⟨tb,0,none⟩)] w (Ez (f+1) F' a (.map bs) w):=by
 have z1:=BE;have j9:=B3;have xb:=@run_makeMap AS;obtain⟨ab,ax,an,x8,x7,mv,rfl,y6,qx⟩:=ha;obtain⟨xs,yj⟩:∃xs,xs=AD a:=⟨_,rfl⟩
 rw[<- yj] at y9 y8 qx;have t0:=ht.c0;have t6:=ht.c6;have a6:=y6.c6;have hal:=y6.lt;have yf:=ht.lt;have zg:=Bg yg;obtain⟨W1,qy⟩:∃W1,W1=w.alloc (.map #[] 0):=⟨_,rfl⟩
 have ja:W1.heap.size=w.heap.size+1:=by rw[qy];simp
 have hb1:CH w.heap.size w W1:=by rw[qy];exact (BY _ _).alloc (A2 _) _
 have d6:W1.cell? ⟨ab,6,none⟩=some mv:=(A5 (w:=w) (a:=⟨ab,6,none⟩) (hb1.block ab hal)).trans a6;have u6:W1.cell? ⟨tb,6,none⟩=some (.map (some mt)):=(A5 (w:=w) (a:=⟨tb,6,none⟩) (hb1.block tb yf)).trans t6;have yz:Cs f (xs.length+bs.length) w (fun k=>(F' k\/w.heap.size<=k)/\k≠w.heap.size/\k≠w.heap.size+1) (fun _=>false) (fun _=>AF 0) (xs.length+bs.length) W1:=by
  have qp:=World.ownsMap_made w AS 9 RV;rw[<- qy] at qp;exact⟨hb1,by omega,0,[],[],by omega,qp,trivial,fun _=>rfl,fun k hk=>by cases hk⟩
 have yo:=Ab yz;have je:=Ab hb1;have zr:=Ab ja;have zb:=Ab qx;have yt:=Ab yg;have qu:=Ab jc;have zq:=Ab y9;have za:=Ab j8;have zx:=Ab y8;have zy:=Ab j4;have zn:=Ab yy;have HS:=Ab hS;have yw:=Ab yj;have yu:=Ab qy;have A6:=Ab (show mv=mv/\w.cell? ⟨ab,6,none⟩=some mv from⟨rfl,a6⟩);rw[qy] at d6 u6;obtain⟨Q,hQ⟩:∃Q,Q=Ez (f+1) F' a (.map bs) w:=⟨_,rfl⟩
 rw[<- hQ];have HQ:=Ab hQ;clear yz qx yg jc y9 j8 y8 j4 yy hS yj y6 ht hb1 ja qy a6 hQ
 go_enter func89,ntmps89
 go_upto_region 4 with (fail)
 rw[<- Aa yu]
 go_cut [27] (fun x2 wx=>x2=.pointer (some ⟨w.heap.size+1,0,none⟩)/\Hid (CH W1.heap.size W1 wx/\wx.heap.size=w.heap.size+2/\((mv=.map none/\xs=[]/\wx=W1.alloc (.mapIter none 0 #[] 0)) \/ ∃m n' D,mv=.map (some m)/\Pt (Rep f F w) D xs/\w.ownsMap AS 9 RV m n' (.map D)/\wx.ranges AS 9 RV m (w.heap.size+1) n' (.map D) (has (.map D:AT CR)) (Maps.size (.map D:AT CR)))))
 case first=>
  rw[<- Aa yu] at d6;rcases Aa zb with⟨rfl,yi⟩|⟨m,n',D,rfl,ho,hp⟩
  ·have qg:=run_range_nilMap (P:=AS) W1 109 9 80 underlying109
   go_wp2_with (fail)
   go_meet
   exact⟨by rw[Aa zr],(BY _ _).alloc (A2 _) _,by simp[Aa zr],D2 ⟨trivial,yi,rfl⟩⟩
  ·have ji:=Ab (An ho ((Aa je).block m (Bg ho)));have HO:=Ab ho;have HP:=Ab hp;clear ho hp
   go_wp2_with (first
    | (at_range;refine HT _ rfl _ 109 rfl 9 80 z1 underlying109 RV m n' _ rfl (Aa ji) ?_;intro w0 qj zc zw)
    | go_in)
   have e0:=Aa zr;have yq:=Ab qj;rw[e0] at yq zw;have HG:=Ab (BJ zc);clear qj zc;simp only[e0]
   go_wp2_with (fail)
   go_meet
   exact⟨rfl,Aa HG,zw,D0 ⟨m,n',D,rfl,Aa HP,Aa HO,Aa yq⟩⟩
 case rest=>
  obtain⟨rfl,HC⟩:=hcut
  go_upto_block 0 with fail
  go_cut [] (fun wx=>Hid (Cs f (xs.length+bs.length) w (fun k=>(F' k\/w.heap.size<=k)/\k≠w.heap.size/\k≠w.heap.size+1) (fun k=>AI (.map xs:AT Unit) k && !AI (.map bs:AT Unit) k) (fun _=>AF 0) bs.length wx))
  case first=>
   obtain⟨hb2,hs2,hc⟩:=Aa HC;rcases hc with⟨_,yi,rfl⟩|⟨m,n',D,_,hp,ho,qg⟩
   ·have jw:∀ty,(Instr.next (.pointer (some ⟨W1.heap.size,0,none⟩)) false ty).run AS (W1.alloc (.mapIter none 0 #[] 0))=_:=fun ty=>run_next_nilMap W1 ty 0 0 #[];rw[Aa zr] at jw;have z8:=Ab ((Aa yo).low hb2);clear hb2 hs2 HC
    go_wp2_with (fail);refine wp_loop_rounds 1 ?_
    rw[rounds_succ]
    go_wp2_with (fail)
    go_meet
    exact (Aa z8).as (by omega) (fun k=>by rw[yi];rfl) (fun k h=>by rfl)
   ·have z8:=Ab ((Aa yo).low hb2);have HP:=Ab hp;clear hb2 hp HC
    go_wp2_with (fail)
    go_loopw [] (fun wr=>∃ (left:Lit->Bool) (cnt:Nat),wr.ranges AS 9 RV m (w.heap.size+1) n' (.map D) left cnt/\Hid (Cs f (xs.length+bs.length) w (fun k=>(F' k\/w.heap.size<=k)/\k≠w.heap.size/\k≠w.heap.size+1) (fun k=>AI (.map xs:AT Unit) k && !left k && !AI (.map bs:AT Unit) k) (fun _=>AF 0) (cnt+bs.length) wr))
     (fun wr=>wr.rangeLeft m (w.heap.size+1))
    case atStart=>
     refine⟨_,_,qg,(Aa z8).as ?_ (fun k=>?_) (fun k _=>rfl)⟩
     ·have:=(Aa HP).size;rw[HX];omega
     ·rw[(Aa HP).has k]
      grind
    case round=>
     obtain⟨left,cnt,qg,G⟩:=hrel
     go_wp2_with (first
      | (at_next;refine F5 _ rfl _ rfl 9 z1 RV id id (fun key _ _=>⟨key,rfl⟩) (fun v _ _=>⟨v,rfl⟩) m (w.heap.size+1) n' _ _ _ rfl qg ?_ ?_)
      | go_in)
     ·intro _ hl0;have y3:=Ab ((Aa G).as (H':=fun k=>AI (.map xs:AT Unit) k && !AI (.map bs:AT Unit) k) (Z':=fun _=>AF 0) (cnt1:=bs.length) (by omega) (fun k=>by rw[hl0];simp) (fun k _=>rfl));clear qg
      go_wp2_with (fail)
      go_meet
      exact Aa y3
     ·intro x c kl yd yp w1 cnt1 q9 j7 hv qz q6 hlt zu qw jt;have zl:HY c=yd:=congrArg Prod.fst (A1 hv);subst zl;have q7:AI (.map D:AT CR) kl=true:=HI qz
      obtain⟨c',_,q5⟩:=(Aa HP).at kl q7;have qn:AI (.map xs:AT Unit) kl=true:=by rw[<- (Aa HP).has kl];exact q7
      obtain⟨g0,rfl⟩:∃g0,f=g0+1:=by
       cases f with
       | zero=>exact q5.elim
       | succ g0=>exact⟨g0,rfl⟩
      have G1:=Ab ((Aa G).grow zu (by simp) (fun i hi=>by have:=A1 hi;omega) (F2:=fun k=>(F' k\/w.heap.size<=k)/\k≠w.heap.size/\k≠w.heap.size+1) (fun k hk _=>⟨fun e=>hk.2.2 (A1 e),hk⟩));have xe:w1.cell? ⟨tb,6,none⟩=some (.map (some mt)):=(A5 (w:=w) (a:=⟨tb,6,none⟩) ((Aa G1).bel.block tb yf)).trans t6;have zk:=An (Aa yt) ((Aa G1).bel.block mt zg);have x5:=Ab qn;have zv:=(Aa qu).has kl;have hkk:=Jo (Hc (Aa zq).skey) qn;cases hh:AI (.map Dt:AT CR) kl with
      | true=>
       have hb2:AI (.map bs:AT Unit) kl=true:=by rw[<- zv,hh]
       have G2:=Ab ((Aa G1).as (H':=fun k=>AI (.map xs:AT Unit) k && !(left k && !k.sameKey kl) && !AI (.map bs:AT Unit) k) (Z':=fun _=>AF 0) (cnt1:=cnt1+bs.length) (by omega) (fun k=>by
        by_cases hkk:k=kl
        ·grind
        ·rw[Cn hkk];simp) (fun k _=>rfl))
       clear qz q5 qn q7 hv zv hb2 hkk
       go_wp2_with (first
        | (at_lookup;refine D3 _ rfl _ _ 109 rfl 9 80 z1 underlying109 RV (j9 _) (.held (.pointer none)) [] rfl mt nt (.map Dt) rfl zk _ kl rfl q9 ?_;intro v2 x1 zl;rw[hh];go_frame)
        | go_in)
       go_roundw
       case rel=>exact⟨_,cnt1,q6,G2⟩
       case measure=>rw[q6.left_eq,qg.left_eq];exact hlt
      | false=>
       have hb2:AI (.map bs:AT Unit) kl=false:=by rw[<- zv,hh]
       obtain⟨w2,yh⟩:∃w2,w2=w1.alloc (.cells #[.int .i64 0,.bool false,.string ⟨#[]⟩,.int .i64 0,.string ⟨#[]⟩,.slice none 0 0,.map none] 111):=⟨_,rfl⟩
       have y7:CH w1.heap.size w1 w2:=by rw[yh];exact (BY _ _).alloc (A2 _) _
       have hvb:VB w2 w1.heap.size 0 n0 [] (.slice none 0 0) (.map none):=by rw[yh];exact C2 w1 _
       have jx:=(Aa G1).sz;have jy:w.heap.size+1<w1.heap.size:=q6.lt;obtain⟨w3,qk,j3,j5⟩:=((Aa G1).low y7).put (cnt1:=cnt1+bs.length) (by omega) (by have:=Ds (g0+1) xs;have:=Ds (g0+1) bs;have:=Aa zx;have:=Aa zy;unfold maxLen;omega) (fun k hk=>hk.2.1) q9 hkk (p:=⟨w1.heap.size,0,none⟩) (d:=AF 0) ⟨w1.heap.size,rfl,by omega,D2 ⟨0,by omega,rfl,hvb⟩⟩;have jg:=Ab (j3.as (H':=fun k=>AI (.map xs:AT Unit) k && !(left k && !k.sameKey kl) && !AI (.map bs:AT Unit) k) (Z':=fun _=>AF 0) (cnt1:=cnt1+bs.length) (A2 _) (fun k=>by
        by_cases hkk:k=kl
        ·grind
        ·rw[Cn hkk];simp) (fun k _=>by split<;>rfl))
       have zi:=(q6.kept (Bh y7) (by simp) (by simp)).kept j5 (fun e=>by have:=A1 e;have:=Bg ho;omega) (fun e=>by have:=A1 e;omega);rw[yh,qw] at qk;clear qz q5 qn q7 hv zv hb2 hkk j3 hvb y7 j5
       go_wp2_with (first
        | (at_lookup;refine D3 _ rfl _ _ 109 rfl 9 80 z1 underlying109 RV (j9 _) (.held (.pointer none)) [] rfl mt nt (.map Dt) rfl zk _ kl rfl q9 ?_;intro v2 x1 zl;rw[hh];go_frame)
        | go_in)
       go_roundw
       case rel=>exact⟨_,cnt1,zi,jg⟩
       case measure=>rw[zi.left_eq,qg.left_eq];exact hlt
  case rest=>
   have hM:=Aa hcut;have x3:wc.cell? ⟨tb,6,none⟩=some (.map (some mt)):=(A5 (w:=w) (a:=⟨tb,6,none⟩) (hM.bel.block tb yf)).trans t6;have jm:=Ab (An (Aa yt) (hM.bel.block mt zg));have jh:=Ab hM;have jz:=hM.sz;clear hM hcut d6 u6
   go_wp2_with (first
    | (at_range;refine HT _ rfl _ 109 rfl 9 80 z1 underlying109 RV mt nt _ rfl (Aa jm) ?_;intro w0 qj zc zw)
    | go_in)
   have z8:=Ab (((Aa jh).grow (it:=none) zc (by simp) (fun i hi=>by cases hi) (F2:=fun k=>(F' k\/w.heap.size<=k)/\k≠w.heap.size/\k≠wc.heap.size) (by grind)).as (H':=B4 f xs bs (has (.map Dt:AT CR))) (Z':=DW f xs bs) (cnt1:=Maps.size (.map Dt:AT CR)) (by have:=(Aa qu).size;rw[HX];omega) (fun k=>by
     unfold B4;rw[(Aa qu).has k]
     grind) (fun k hk=>by
     unfold B4 at hk;rw[(Aa qu).has k] at hk;unfold DW
     grind))
   clear zc zw x3
   go_loopw [] (fun wr=>∃ (left:Lit->Bool) (cnt:Nat),wr.ranges AS 9 RV mt wc.heap.size nt (.map Dt) left cnt/\Hid (Cs f (xs.length+bs.length) w (fun k=>(F' k\/w.heap.size<=k)/\k≠w.heap.size/\k≠wc.heap.size) (B4 f xs bs left) (DW f xs bs) cnt wr /\ ∀k,AI (.map bs:AT Unit) k=true->left k=false->CT f xs bs k≠none))
    (fun wr=>wr.rangeLeft mt wc.heap.size)
   case atStart=>
    refine⟨_,_,qj,Aa z8,fun k h1 h2=>?_⟩;rw[(Aa qu).has k,h1] at h2;cases h2
   case round=>
    obtain⟨left,cnt,qg,G0⟩:=hrel
    go_wp2_with (first
     | (at_next;refine F5 _ rfl _ rfl 9 z1 RV id id (fun key _ _=>⟨key,rfl⟩) (fun v _ _=>⟨v,rfl⟩) mt wc.heap.size nt _ _ _ rfl qg ?_ ?_)
     | go_in)
    ·intro _ hl0;have hx:=Aa yw;have HD:=Ab (fun (w2:Bs) (hb:CH wr.heap.size wr w2) (hv:VB w2 wr.heap.size 6 n0 [] (.slice none 0 0) (.map (some w.heap.size)))=>Wl (F':=F') (F2:=fun k=>(F' k\/w.heap.size<=k)/\k≠w.heap.size/\k≠wc.heap.size) (a:=a) (by rw[<- hx];exact (Aa G0).1) hl0 (by rw[<- hx];exact (Aa G0).2) (by rw[<- hx];exact (Aa zq).skey) (Aa za).skey hb hv (fun k hk=>hk.1));clear qj qg hx
     go_wp2_with (fail);show Q (.returned (.tuple #[.pointer (some ⟨wr.heap.size,0,none⟩),.bool true])) _
     rw[Aa HQ];obtain⟨z,e1,e2,e3⟩:=Aa HD _ ((BY _ _).alloc (A2 _) _) (C2 wr _);refine⟨e3,?_⟩
     simp_all
    ·intro kx c kl yd yp w1 cnt1 q9 j7 hv qz q6 hlt zu qw jt;have zl:HY c=yd:=congrArg Prod.fst (A1 hv);subst zl;have q7:AI (.map Dt:AT CR) kl=true:=HI qz
     obtain⟨c',e1,q5⟩:=(Aa qu).at kl q7;have e2:c'=c:=by
      simp_all
     subst e2;have qd:AI (.map bs:AT Unit) kl=true:=by rw[<- (Aa qu).has kl];exact q7
     obtain⟨g0,qe⟩:∃g0,f=g0+1:=by
      cases f with
      | zero=>exact q5.elim
      | succ g0=>exact⟨g0,rfl⟩
     obtain⟨ks,yc,jv,yk,jd⟩:=FL (Aa za).skey qd;obtain⟨y,hy⟩:∃y,y=(A4 bs).atKey kl .nil:=⟨_,rfl⟩
     rw[<- hy] at q5 jd;subst jd;obtain⟨_,hgy⟩:=(Aa za).2 _ yk;have jb:dT f y<=1000000:=CL (Gi yk) (Aa zy);have hlv:=Fv hgy;have zt:=(Aa G0).1.grow zu (by simp;omega) (fun i hi=>by have:=A1 hi;omega) (F2:=fun k=>(F' k\/w.heap.size<=k)/\k≠w.heap.size/\k≠wc.heap.size) (fun k hk _=>⟨fun e=>hk.2.2 (A1 e),hk⟩);have ya:=(Aa G0).2;have x0:wc.heap.size<w1.heap.size:=q6.lt;have qh:=zt.bel;obtain⟨pb,pk,pn,xd,psl,pmv,jr,yb,qf,_⟩:=Dk q5;subst jr;have ck:w1.cell? ⟨pb,0,none⟩=some (.int .i64 pk):=(yb.kept (qh.block pb yb.lt)).c0;have x6:w1.cell? ⟨ab,6,none⟩=some mv:=(A5 (w:=w) (a:=⟨ab,6,none⟩) (qh.block ab hal)).trans (Aa A6).2;obtain⟨yv,qq,j6⟩:=VM (Aa zb) q9;have L1:=Ab (j6 w1 qh);have hkk:=Jo (Hc (Aa za).skey) qd
     -- what a call leaves,laid down
     have z7:=Ab (fun (A:To) (w2 w3:Bs) (p:Addr) (z:To) (zs:CH w1.heap.size w1 w2) (yx:CH w2.heap.size w2 w3) (hf:CT f xs bs kl=some (some z)) (hv:Rep f (fun k=>F' k\/w2.heap.size<=k) w3 (.pointer (some p)) z)=>(by
      obtain⟨w4,qk,qv,ju⟩:=WQ (cnt1:=cnt1) ((zt.low zs).low yx) hlt (by have:=Ds f xs;have:=Ds f bs;have:=Aa zx;have:=Aa zy;unfold maxLen;omega) (fun k hk=>hk.2.1) q9 hkk qd hf (hv.move fun k hk zf=>⟨rfl,by
       rcases hk with hk|hk
       ·have:=Aa zn k hk;exact⟨D2 hk,by omega,by omega⟩
       ·have:=zs.size;omega⟩)
      have qb:=(q6.kept (Bh (zs.trans (yx.mono zs.size))) (by simp) (by simp)).kept ju (fun e=>by have:=A1 e;omega) (fun e=>by have:=A1 e;omega);refine⟨w4,qk,qb,qv,fun k h1 h2=>?_⟩;by_cases zf:k=kl
      ·subst zf;rw[hf];simp
      ·refine ya k h1 ?_;rw[Cn zf] at h2;simpa using h2:∃w4,(HU 109 (.map (some w.heap.size)) kx (.pointer (some p))).run AS w3=.ok () w4/\w4.ranges AS 9 RV mt wc.heap.size nt (.map Dt) (fun z=>left z && !z.sameKey kl) cnt1/\Cs f (xs.length+bs.length) w (fun k=>(F' k\/w.heap.size<=k)/\k≠w.heap.size/\k≠wc.heap.size) (B4 f xs bs (fun z=>left z && !z.sameKey kl)) (DW f xs bs) cnt1 w4 /\ ∀k,AI (.map bs:AT Unit) k=true->(left k && !k.sameKey kl)=false->CT f xs bs k≠none))
     have jj:=Ab ya;have zz:=Ab zt;have qt:=Ab q5;have q0:=Ab qh;have jf:=Ab q9;have HB:=Ab qd;have ym:=Ab (show dY d x f (lv+1) y from hgy);have yr:=Ab jb;have y5:=Ab q6;have zo:=Ab hlt;have qm:=Ab (fun (h:CT f xs bs kl=none)=>show fW (f+1) a (.map bs)=none from T6 (k:=kl) (Aa za).skey qd (by rw[<- Aa yw];exact h));have jq:=Aa zn;clear ya zt q5 qh q7 qd qz e1 yk hgy jb hlv j6 hkk hv yb q6 hlt zu j7 jv jq;cases hgx:Aj xs kl with
     | none=>
      rw[hgx] at qq;obtain rfl:yv=.pointer none:=qq;have L2:=Ab (show (G3 109 mv kx true).run AS w1=.ok (.tuple #[.pointer none,.bool false]) w1 by have:=Aa L1;rw[hgx] at this;exact this);have hfa:=Uy (f:=f) (bs:=bs) hgx;rw[<- hy] at hfa;cases hn:fY y with
      | true=>
       rw[hn] at qf hfa;have ek:(pk==0)=true:=by simpa using qf
       have q8:=Ab (Aa qm (by rw[hfa];rfl));clear qf hfa hgx L1
       go_wp2_with (first|(at_lookup;refine BX rfl _ _ 109 true rfl _ _ _ rfl rfl (Aa L2) ?_)|fail)
       show Q (.returned (.tuple #[.pointer none,.bool false])) _;rw[Aa HQ];refine⟨Aa q0,?_⟩;rw[Aa q8]
      | false=>
       rw[hn] at qf hfa;have ek:(pk==0)=false:=by simpa using qf
       have qo:CH w1.heap.size w1 (w1.alloc (.cells #[.int .i64 6,.bool false,.string ⟨#[]⟩,.int .i64 0,.string ⟨#[]⟩,.slice none 0 0,.map none] 111)):=(BY _ _).alloc (A2 _) _;have hvb:VB (w1.alloc (.cells #[.int .i64 6,.bool false,.string ⟨#[]⟩,.int .i64 0,.string ⟨#[]⟩,.slice none 0 0,.map none] 111)) wr.heap.size 6 n0 [] (.slice none 0 0) (.map none):=by rw[<- qw];exact C2 w1 _
       have qr:=Ab qo;have HC:=Ab (Aa HS g0 (lv+1) F F' _ (.pointer (some ⟨wr.heap.size,0,none⟩)) _ (.map []) y qe ⟨wr.heap.size,6,_,_,_,_,rfl,hvb,D2 ⟨rfl,rfl⟩⟩ ⟨HH,fun p hp=>by cases hp⟩ (C1 _) (((Aa qt).bel (Aa q0)).bel qo) (fun k hk=>by have:=Aa zn k hk;have:=(Aa q0).size;have:=qo.size;omega) (Aa ym) (Aa yr));clear qf hgx L1 qo hvb
       go_wp2_with (first|(at_lookup;refine BX rfl _ _ 109 true rfl _ _ _ rfl rfl (Aa L2) ?_)|fail)
       refine (Aa HC).mono ?_;rintro e w3 ⟨hb3,he⟩;cases hm:fW f (.map []) y with
       | none=>
        rw[hm] at he hfa;obtain rfl:e=.returned (.tuple #[.pointer none,.bool false]):=he;have q8:=Ab (Aa qm (by rw[hfa];rfl));have z6:=Ab ((Aa q0).trans (((Aa qr).trans (hb3.mono (Aa qr).size)).mono (Aa q0).size));clear hfa hb3 HC
        go_wp2_with (fail);show Q (.returned (.tuple #[.pointer none,.bool false])) _
        rw[Aa HQ];refine⟨Aa z6,?_⟩;rw[Aa q8]
       | some z=>
        rw[hm] at he hfa;obtain⟨p,rfl,hz⟩:=he;obtain⟨w4,qk,qb,qv,qi⟩:=Aa z7 (.map []) _ w3 p z (Aa qr) hb3 (by rw[hfa];rfl) hz;have y4:=Ab (HW qv qi);clear hfa hb3 HC hz qv qi
        go_wp2_with (fail)
        go_roundw
        case rel=>exact⟨_,cnt1,qb,y4⟩
        case measure=>rw[qb.left_eq,qg.left_eq];exact Aa zo
     | some xv=>
      rw[hgx] at qq;have qq:Rep f F w yv xv:=qq;have L2:=Ab (show (G3 109 mv kx true).run AS w1=.ok (.tuple #[yv,.bool true]) w1 by have:=Aa L1;rw[hgx] at this;exact this);have hfa:=Uw (f:=f) (bs:=bs) hgx;rw[<- hy] at hfa;have q4:=Ab (ES f F F' w1 yv _ xv y (qq.bel (Aa q0)) ((Aa qt).bel (Aa q0)));obtain⟨sx,ye⟩:=Uo (Aa zq).skey hgx;obtain⟨_,ze⟩:=(Aa zq).2 _ ye;have zj:dT f xv<=1000000:=CL (Gi ye) (Aa zx);have jo:=Ab qq;have yl:=Ab (show dY d x f (lv+1) xv from ze);have jk:=Ab zj;clear qq hgx L1 ye ze zj;cases hveq:veq xv y with
      | true=>
       rw[hveq] at q4 hfa;clear qf
       go_wp2_with (first|(at_lookup;refine BX rfl _ _ 109 true rfl _ _ _ rfl rfl (Aa L2) ?_)|fail)
       refine (Aa q4).mono ?_;rintro e w2 ⟨rfl,hb2⟩;have zh:=(Aa y5).kept (Bh hb2) (by simp) (by simp);have y3:=Ab (HW (Ux ((Aa zz).low hb2) (Aa zo) (Aa HB) (by rw[hfa];rfl)) (fun k (h1:AI (.map bs:AT Unit) k=true) (h2:(left k && !k.sameKey kl)=false)=>show CT f xs bs k≠none by
        by_cases zf:k=kl
        ·simp_all
        ·refine Aa jj k h1 ?_;rw[Cn zf] at h2;simpa using h2))
       clear hfa hb2 q4
       go_wp2_with (fail)
       go_roundw
       case rel=>exact⟨_,cnt1,zh,y3⟩
       case measure=>rw[zh.left_eq,qg.left_eq];exact Aa zo
      | false=>
       rw[hveq] at q4 hfa;cases hn:fY y with
       | true=>
        rw[hn] at qf hfa;have ek:(pk==0)=true:=by simpa using qf
        have q8:=Ab (Aa qm (by rw[hfa];rfl));clear qf hfa
        go_wp2_with (first|(at_lookup;refine BX rfl _ _ 109 true rfl _ _ _ rfl rfl (Aa L2) ?_)|fail)
        refine (Aa q4).mono ?_;rintro e w2 ⟨rfl,hb2⟩;have jp:w2.cell? ⟨pb,0,none⟩=some (.int .i64 pk):=(hb2.cell (p:=⟨pb,0,none⟩) (DD w1 _ ck)).trans ck;have z6:=Ab ((Aa q0).trans (hb2.mono (Aa q0).size));clear hb2 q4
        go_wp2_with (fail);show Q (.returned (.tuple #[.pointer none,.bool false])) _
        rw[Aa HQ];refine⟨Aa z6,?_⟩;rw[Aa q8]
       | false=>
        rw[hn] at qf hfa;have ek:(pk==0)=false:=by simpa using qf
        have HC:=Ab (fun (w2:Bs) (hb2:CH w1.heap.size w1 w2)=>Aa HS g0 (lv+1) F F' w2 yv _ xv y qe (Th (by rw[<- qe];exact ((Aa jo).bel (Aa q0)).bel hb2)) (GN (by rw[<- qe];exact Aa yl)).1 (CL (GN (by rw[<- qe];exact Aa yl)).2 (by rw[<- qe];exact Aa jk)) (((Aa qt).bel (Aa q0)).bel hb2) (fun k hk=>by have:=Aa zn k hk;have:=(Aa q0).size;have:=hb2.size;omega) (Aa ym) (Aa yr));clear qf
        go_wp2_with (first|(at_lookup;refine BX rfl _ _ 109 true rfl _ _ _ rfl rfl (Aa L2) ?_)|fail)
        refine (Aa q4).mono ?_;rintro e w2 ⟨rfl,hb2⟩;have jp:w2.cell? ⟨pb,0,none⟩=some (.int .i64 pk):=(hb2.cell (p:=⟨pb,0,none⟩) (DD w1 _ ck)).trans ck;have zm:=Ab hb2;clear hb2 q4
        go_wp2_with (fail);refine (Aa HC _ (Aa zm)).mono ?_
        rintro e w3 ⟨hb3,he⟩;cases hm:fW f xv y with
        | none=>
         rw[hm] at he hfa;obtain rfl:e=.returned (.tuple #[.pointer none,.bool false]):=he;have q8:=Ab (Aa qm (by rw[hfa];rfl));have z6:=Ab ((Aa q0).trans (((Aa zm).trans (hb3.mono (Aa zm).size)).mono (Aa q0).size));clear hfa hb3 HC
         go_wp2_with (fail);show Q (.returned (.tuple #[.pointer none,.bool false])) _
         rw[Aa HQ];refine⟨Aa z6,?_⟩;rw[Aa q8]
        | some z=>
         rw[hm] at he hfa;obtain⟨p,rfl,hz⟩:=he;obtain⟨w4,qk,qb,qv,qi⟩:=Aa z7 xv _ w3 p z (Aa zm) hb3 (by rw[hfa];rfl) hz;have y4:=Ab (HW qv qi);clear hfa hb3 HC hz qv qi
         go_wp2_with (fail)
         go_roundw
         case rel=>exact⟨_,cnt1,qb,y4⟩
         case measure=>rw[qb.left_eq,qg.left_eq];exact Aa zo
end
theorem Du:∀ (n:Nat) (a b:List To) (k j:Nat),(eJ n a b k j).1.length<=a.length/\(eJ n a b k j).2.length<=b.length
 | 0,_,_,_,_=>⟨C1 _,C1 _⟩
 | _+1,[],[],_,_=>⟨C1 _,C1 _⟩
 | n+1,x::a,[],k,j=>by
  have h:=Du n a [] k j
  grind [eJ]
 | n+1,[],y::b,k,j=>by
  have h:=Du n [] b k (j+1)
  grind [eJ]
 | n+1,x::a,y::b,k,j=>by
  have h1:=Du n a (y::b) k j;have h2:=Du n (x::a) b k (j+1);have h3:=Du n a b (k+1) (j+1)
  grind [eJ]
theorem UV(s:List By)(a b:List To):(B6 s a b).length<=a.length+b.length:=by
 have h:=Du (a.length+b.length) a b 0 0
 grind [List.length_map,List.length_append,B6]
theorem DJ(f:Nat)(es:List To)(y:List To):es.length<=dT (f+1) (.slice es y):=by
 show es.length<=2+(es.map fun e=>dT f e+1).sum;have h:∀l:List To,l.length<=(l.map fun e=>dT f e+1).sum:=by
  intro l;induction l with
  | nil=>grind
  | cons a l ih=>grind
 grind
theorem Ch{k:By}{x:To}(h:Az xs)(hg:Aj xs (.string k)=some x):(D1 k,x)∈xs:=by
 rcases CP xs k with⟨c,hc⟩|hno
 ·rw[BA h hc] at hg
  grind
 ·rw[CQ hno] at hg;cases hg
theorem Gu(hx:Az xs)(hb:Az bs):(BK xs bs).Nodup:=(Kl hx hb).imp fun h e=>by grind
theorem J5{d x n:Int}:∀ {f:Nat} {dU:Int} {s:List By} {a b:To},dY d x f dU a->dY d x f dU b->(A9 n f s a b).length<=dT f a+dT f b
 | 0,_,_,_,_,h,_=>h.elim
 | f+1,dU,s,a,b,ha,hb=>by
  have kB:=Ta ha;by_cases hob:fI a=true/\fI b=true
  ·obtain⟨h1,h2⟩:=hob;obtain⟨xs,rfl⟩:∃xs,a=.map xs:=by
    cases a with
    | map xs=>exact⟨xs,rfl⟩
    | _=>cases h1
   obtain⟨ys,rfl⟩:∃ys,b=.map ys:=by
    cases b with
    | map ys=>exact⟨ys,rfl⟩
    | _=>cases h2
   have iG:=(Bt ha).2;have gU:=(Bt hb).2;have hn:=Gu iG.skey gU.skey;have q1:=Hg f iG.skey hn;have q2:=Hg f gU.skey hn;have q3:=MX (f:=f) (m:=A9 n f) (s:=s) (xs:=xs) (bs:=ys) (l:=BK xs ys) (fun k hk=>by
    rcases (Cw iG.skey gU.skey).1 hk with⟨c,hc⟩|⟨c,hc⟩
    ·exact D2 (by rw[BA iG.skey hc];simp)
    ·exact D0 (by rw[BA gU.skey hc];simp)) fun k _ u v hu hv=>J5 (iG.2 _ (Ch iG.skey hu)).2 (gU.2 _ (Ch gU.skey hv)).2
   have e1:dT (f+1) (.map xs)=2+Ak f xs:=CN f xs;have e2:dT (f+1) (.map ys)=2+Ak f ys:=CN f ys;show (AN (A9 n f) s xs ys (BK xs ys)).length<=_;omega
  ·have q4:∀c:Bool,(if c=true then ([]:List dX) else [(2,s,b)]).length<=1:=fun c=>by cases c<;>simp
   by_cases q0:∃xs y ys z,a=.slice xs y/\b=.slice ys z
   ·obtain⟨xs,y,ys,z,rfl,rfl⟩:=q0;have e1:=DJ f xs y;have e2:=DJ f ys z;have e3:=UV s xs ys;show (if ((xs.length:Int)+1)*((ys.length:Int)+1)<=n then B6 s xs ys else if veq (.slice xs y) (.slice ys z)=true then [] else [(2,s,.slice ys z)]).length<=_
    grind
   ·have e:A9 n (f+1) s a b=if veq a b=true then [] else [(2,s,b)]:=by
     cases a<;>cases b<;>first|rfl|exact absurd ⟨rfl,rfl⟩ hob|exact absurd ⟨_,_,_,_,rfl,rfl⟩ q0
    rw[e];have:=q4 (veq a b);omega
theorem JZ(h:Az es)(k j:By)(c:To):Aj (eE (.string k) c es) (.string j)=if j=k then some c else Aj es (.string j):=by
 have hs:=Ek (c:=c) (k:=k) h;by_cases e:j=k
 ·subst e;rw[if_pos rfl,BA hs (CE.2 (D2 rfl))]
 ·rw[if_neg e];rcases CP es j with⟨c',hc⟩|hn
  ·rw[BA h hc,BA hs (CE.2 (D0 ⟨hc,fun e'=>e (by injection e')⟩))]
  ·rw[CQ hn,CQ fun p hp=>?_];rcases CE.1 hp with rfl|⟨hp,_⟩
   ·grind
   grind
theorem Un(h:Az es)(k j:By):Aj (eR (.string k) es) (.string j)=if j=k then none else Aj es (.string j):=by
 by_cases e:j=k
 ·subst e;rw[if_pos rfl,CQ fun p hp=>(FP.1 hp).2]
 ·rw[if_neg e,OO h e]
theorem NZ:∀ {xs ys:List (Lit×To)},Az xs->Az ys->(∀k:By,Aj xs (.string k)=Aj ys (.string k))->xs=ys:=by
 have q0:∀ {xs:List (Lit×To)},Az xs -> ∀ (k:By) (c:To),(D1 k,c)∈xs<->Aj xs (.string k)=some c:=fun h k c=>⟨BA h,Ch h⟩
 have q4:∀ {xs ys:List (Lit×To)},Az xs->Az ys->(∀p,p∈xs<->p∈ys)->xs=ys:=by
  intro xs;induction xs with
  | nil=>
   intro ys _ _ h;cases ys with
   | nil=>rfl
   | cons b ys=>have:=(h b).2 A3;cases this
  | cons a l ih=>
   intro ys hx hy h;cases ys with
   | nil=>have:=(h a).1 A3;cases this
   | cons b m=>
    have h1:=F7.1 hx.1;have h2:=F7.1 hy.1;obtain⟨ka,ea⟩:=hx.2 a A3;obtain⟨kb,eb⟩:=hy.2 b A3;have hab:a=b:=by
     rcases Dp.1 ((h a).1 A3) with e|e
     ·exact e
     ·rcases Dp.1 ((h b).2 A3) with e2|e2
      ·grind
      ·have q1:=h2.1 a e;have q2:=h1.1 b e2;rw[ea,eb] at q1 q2;rw[JH q1] at q2;cases q2
    subst hab;have:l=m:=ih ⟨h1.2,fun p hp=>hx.2 p (by grind)⟩ ⟨h2.2,fun p hp=>hy.2 p (by grind)⟩ fun p=>by
     constructor
     ·intro hp;rcases Dp.1 ((h p).1 (E0 _ hp)) with e|e
      ·subst e;have:=h1.1 p hp;rw[ea,C6] at this;cases this
      ·exact e
     ·intro hp;rcases Dp.1 ((h p).2 (E0 _ hp)) with e|e
      ·subst e;have:=h2.1 p hp;rw[ea,C6] at this;cases this
      ·exact e
    rw[this]
 intro xs ys hx hy h;refine q4 hx hy fun p=>?_;constructor
 ·intro hp;obtain⟨k,e⟩:=hx.2 p hp
  grind
 ·intro hp;obtain⟨k,e⟩:=hy.2 p hp
  grind
end Go.Proofs.YtdpomdelmdofmaaGreatDoor
