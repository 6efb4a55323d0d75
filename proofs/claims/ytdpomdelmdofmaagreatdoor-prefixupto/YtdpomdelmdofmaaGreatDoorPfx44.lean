import Derived.Test.YtdpomdelmdofmaaGreatDoorPfx43
import Derived.RangeFuncWrites
import Derived.RangeFuncMany
import Derived.Shelf.SlIter.Stops
import Derived.Lib.SlicesCompact
open List renaming getElem?_take_of_lt->AI,getElem?_eq_none->A1,length_map->CD,mem_append->CH,le_refl->C2
open Go.World renaming putObj_heap_other->AS,setCell->C1
open Array renaming getElem?_modify->AT
open Nat renaming le_refl->A2,lt_of_lt_of_le->A4,add_sub_cancel->A6,le_trans->Bs
open Go.Proofs.Tryz renaming prog->A3
open Go.RowKit.Below renaming heap_setCell->A5,heap_alloc->BY,refl->Dt
open Go.Fence renaming wide->CL
open Go renaming KeepsWalks->CR,undef->Dp
open List.Pairwise renaming nil->DD
set_option maxRecDepth 100000
set_option maxHeartbeats 4000000
namespace Go.Proofs.YtdpomdelmdofmaaGreatDoor
open Go.Proofs.Tryz Go.RowKit Go.Maps Go.Sort Go.Shelf Go.Lib
variable{P g:Nat}{w:World}{ss0:List By}{cur:Array Value}
section
variable{d x n:Int}{B:Nat}
theorem Nw:∀ {f P:Nat} {Zg:Int} {s:List By} {a b:To},1<=Zg->Zl d x f Zg a->Zl d x f Zg b->Zh f a<=1000000->Zh f b<=B->B<=1000000->Gu s+Zh f a+Zh f b+1001<=P -> ∀o∈BQ n f s a b,aS d x B P o
 | 0,_,_,_,_,_,_,h,_,_,_,_,_=>h.elim
 | f+1,P,Zg,s,a,b,hlv,ha,hb,hsa,hsb,hB,hP=>by
  by_cases hob:ZQ a=true/\ZQ b=true
  ·obtain⟨h1,h2⟩:=hob;obtain⟨xs,rfl⟩:∃xs,a=.map xs:=by
    cases a with
    | map xs=>exact⟨xs,rfl⟩
    | _=>cases h1
   obtain⟨ys,rfl⟩:∃ys,b=.map ys:=by
    cases b with
    | map ys=>exact⟨ys,rfl⟩
    | _=>cases h2
   have m1:=(B8 ha).2;have m2:=(B8 hb).2;intro o ho;have q9:o∈AY (BQ n f) s xs ys (BS xs ys):=ho;obtain⟨k,hk,hc⟩:=Lv q9;have q0:∀c,((Lit.string k,c)∈xs->k.length+1+Zh f c<=Zh (f+1) (.map xs))/\((Lit.string k,c)∈ys->k.length+1+Zh f c<=Zh (f+1) (.map ys)):=fun c=>by
    have hq:=E5 k;refine⟨fun hm=>?_,fun hm=>?_⟩
    ·have h3:(Ag k).length+2+Zh f c<=Zh (f+1) (.map xs):=EC (f:=f) hm;omega
    ·have h3:(Ag k).length+2+Zh f c<=Zh (f+1) (.map ys):=EC (f:=f) hm;omega
   have q8:k.length+1<=Zh (f+1) (.map xs)+Zh (f+1) (.map ys):=by
    rcases (FD m1.skey m2.skey).1 hk with⟨c,hm⟩|⟨c,hm⟩
    ·have:=(q0 c).1 hm;omega
    ·have:=(q0 c).2 hm;omega
   have qd:Gu (s++[k])=Gu s+(k.length+1):=KP s k;have qb:((s++[k]).map fun t=>t.length+1).sum=Gu (s++[k]):=rfl;rcases hc with⟨_,rfl⟩|⟨y,hy,rfl⟩|⟨u,y,hu,hy,hm⟩
   ·refine⟨by show 1<3;decide,?_,fun e=>absurd rfl e⟩;show ((s++[k]).map fun t=>t.length+1).sum<=P;omega
   ·have q5:=Ek m2.skey hy;refine⟨by show 0<3;decide,?_,fun _=>⟨f,Zg+1,by omega,(m2.2 _ q5).2,?_⟩⟩
    ·show ((s++[k]).map fun t=>t.length+1).sum<=P;omega
    ·show Zh f y<=B;have:=(q0 y).2 q5;omega
   ·have q7:=Ek m1.skey hu;have q5:=Ek m2.skey hy;have q1:=(q0 u).1 q7;have q2:=(q0 y).2 q5;exact Nw (P:=P) (Zg:=Zg+1) (s:=s++[k]) (a:=u) (b:=y) (by omega) (m1.2 _ q7).2 (m2.2 _ q5).2 (by omega) (by omega) hB (by omega) o hm
  ·have q6:∀c:Bool,∀o∈(if c=true then ([]:List Zk) else [(2,s,b)]),aS d x B P o:=fun c o ho=>by
    cases c with
    | true=>simp at ho
    | false=>
     have e:o=(2,s,b):=by simpa using ho
     subst e;refine⟨by show 2<3;decide,?_,fun _=>⟨f+1,Zg,hlv,hb,hsb⟩⟩;show Gu s<=P;omega
   by_cases q4:∃xs y ys z,a=.slice xs y/\b=.slice ys z
   ·obtain⟨xs,y,ys,z,rfl,rfl⟩:=q4;have e1:=Dk f xs y;have e2:=Dk f ys z;show ∀o∈(if ((xs.length:Int)+1)*((ys.length:Int)+1)<=n then CX s xs ys else if veq (.slice xs y) (.slice ys z)=true then [] else [(2,s,.slice ys z)]),aS d x B P o;split
    ·exact SH hlv (fun e he=>⟨X5 hb e he,by have h3:Zh f e<=Zh (f+1) (.slice ys z):=QF he;omega⟩) (by omega) (by omega) (by omega)
    ·exact q6 (veq (.slice xs y) (.slice ys z))
   ·have e:BQ n (f+1) s a b=if veq a b=true then [] else [(2,s,b)]:=by
     cases a<;>cases b<;>first|rfl|exact absurd ⟨rfl,rfl⟩ hob|exact absurd ⟨_,_,_,_,rfl,rfl⟩ q4
    rw[e];exact q6 (veq a b)
end
theorem O1{d x:Int}{B:Nat}{o:Zk}(h:aS d x B P o)(hd:d<=500)(h1:o.1≠1):Zx d x B o.2.2:=
 (RH (o:=(o.1,[],o.2.2)) (P:=0) ⟨h.1,A2 _,h.2.2⟩ hd (by omega)).2 h1
theorem Sz{d x:Int}{o:Zk}(h:aS d x 200000 P o)(hd:d<=500)(hP:P<=400000):(Zm (top-1) (B3 o)).length<=14500000:=by
 have h1:=h.2.1;have h3:=Gz o.2.1;have hq:=En (AV o.2.1);have e1:(Zm (top-2) (Aq (AV o.2.1))).length=(Ag (AV o.2.1)).length:=rfl;have hn:(AQ o.1).length<=7:=by
  unfold AQ
  repeat' split
  all_goals decide
 have q4:=En (AQ o.1);have e2:(Zm (top-2) (Aq (AQ o.1))).length=(Ag (AQ o.1)).length:=rfl;have q1:(Ag ZP).length=4:=rfl;have q2:(Ag Bc).length=6:=rfl;have q3:(Ag Ba).length=7:=rfl;unfold B3;split
 ·refine Bs (GC (f:=top-2) (m:=4800100) fun k hk=>?_) (by simp[ZJ]);have hk2:k=ZP\/k=Bc:=by simpa[ZJ] using hk
  rw[bD];rcases hk2 with rfl|rfl
  ·have e3:ZV [(.string ZP,Aq (AQ o.1)),(.string Bc,Aq (AV o.2.1))] ZP=Aq (AQ o.1):=rfl;rw[e3,q1];omega
  ·have e3:ZV [(.string ZP,Aq (AQ o.1)),(.string Bc,Aq (AV o.2.1))] Bc=Aq (AV o.2.1):=rfl;rw[e3,q2];omega
 ·rename_i q0;have h4:=Pg (O1 h hd q0);refine Bs (GC (f:=top-2) (m:=4800100) fun k hk=>?_) (by simp[ZJ]);have hk2:k=ZP\/k=Bc\/k=Ba:=by simpa[ZJ] using hk
  rw[bD];rcases hk2 with rfl|rfl|rfl
  ·have e3:ZV [(.string ZP,Aq (AQ o.1)),(.string Bc,Aq (AV o.2.1)),(.string Ba,o.2.2)] ZP=Aq (AQ o.1):=rfl;rw[e3,q1];omega
  ·have e3:ZV [(.string ZP,Aq (AQ o.1)),(.string Bc,Aq (AV o.2.1)),(.string Ba,o.2.2)] Bc=Aq (AV o.2.1):=rfl;rw[e3,q2];omega
  ·have e3:ZV [(.string ZP,Aq (AQ o.1)),(.string Bc,Aq (AV o.2.1)),(.string Ba,o.2.2)] Ba=o.2.2:=rfl;rw[e3,q3];omega
theorem PK{d x:Int}{j:List Zk}(h:∀o∈j,aS d x 200000 P o)(hd:d<=500)(hP:P<=400000)(hn:j.length<=400000):(Ck j).length<=8796093022208:=by
 have h1:=NK (f:=top-1) (m:=14500000) (es:=j.map B3) fun e he=>by
  obtain⟨o,ho,rfl⟩:=List.mem_map.1 he;exact Sz (h o ho) hd hP
 have h2:(Ck j).length<=2+(j.map B3).length*(14500000+1):=h1;rw[CD] at h2;have h3:j.length*(14500000+1)<=400000*14500001:=Nat.mul_le_mul_right _ hn;omega
theorem WN{d x n:Int}{a b:To}(hd:d<=500)(ha:Zl d x top 1 a)(hb:Zl d x top 1 b)(hsa:Zh top a<=160000)(hsb:Zh top b<=160000):(Ck (BQ n top [] a b)).length<=8796093022208 /\ ∀o∈BQ n top [] a b,cB o:=by
 have h1:=Jd (n:=n) (s:=[]) ha hb;have h2:=Nw (n:=n) (B:=200000) (P:=400000) (s:=[]) (by omega) ha hb (by omega) (by omega) (by omega) (by show 0+Zh top a+Zh top b+1001<=400000;omega);refine⟨PK h2 hd (A2 _) (by omega),fun o ho=>⟨by have:=(h2 o ho).2.1;omega,fun q0=>?_⟩⟩;have h3:=O1 (h2 o ho) hd q0;exact⟨d,x,h3.gd,h3.dd⟩
def NP:Prop:=∀ (d x n:Int) (F F':Nat->Prop) (w:World) (Mk:Nat) (M:Nat->Prop) (av bv:Value) (a b:To),n<=2000->Af w->(∀k,k<NG->M k)->MkD w Mk n M []->(∀k,F k->M k)->(∀k,F' k->M k)->Rep top F w av a->Rep top F' w bv b->Zl d x top 1 a->Zl d x top 1 b->d<=20->Zh top a<=160000->Zh top b<=160000 ->
 Calls A3 123 #[.pointer (some ⟨Mk,0,none⟩),.slice none 0 0,av,bv] w (Ct Mk n M [] (BQ n top [] a b) w)
theorem Qr(hV:NP):Kd:=by
 intro S lo d e n p v F s q p2 w hcfg hS hD hT hr hq;obtain⟨qg,q8,qb⟩:1<=d/\d<=20/\n<=2000:=by
  unfold aG aL at hcfg;simp at hcfg;omega
 obtain⟨q5,q9⟩:Zl d e top 1 v.1/\(Zm top v.1).length<=80000:=by
  obtain⟨D,R,wp,_,q0⟩:=hD;exact⟨q0.gd,q0.len⟩
 have q6:=F8 hr;have q7:Zh top v.1<=160000:=by have:=(BX q5).2;omega
 have hs2:Zh top q<=160000:=by have:=(BX q6).2;have:=F9 hr top;omega
 obtain⟨b1,b2⟩:=WN (n:=n) (by omega) q5 q6 q7 hs2;refine Rd hS hD hT b1 b2 fun D R wp _ q0 w1 hb=>LR ?_;obtain⟨T,a,iv,h1,_,_⟩:=q0.ex;have hn:Below w1.heap.size w1 (w1.alloc (.cells #[.int .i64 n,.slice none 0 0] 187)):=(Dt _ _).alloc (A2 _) _;have qd:Rep top (fun _=>True) w wp v.1:=by
  rw[<- h1.str];exact h1.sub.rep fun _ _=>trivial
 have qe:Rep top (fun k=>k<w1.heap.size) w1 wp v.1:=(qd.bel hb).move fun k _ hk=>⟨rfl,hk⟩
 have qf:Rep top (fun k=>k<w1.heap.size) w1 (.pointer p2) q:=(hq.rep.bel hb).move fun k _ hk=>⟨rfl,hk⟩
 have q4:Af w1:=hT.below (hb.mono hT.ng);exact hV d e n _ _ _ _ _ _ _ _ _ qb (q4.below (hn.mono q4.ng)) (fun k hk=>A4 hk q4.ng) (XC w1 n) (fun k hk=>hk) (fun k hk=>hk) (qe.bel hn) (qf.bel hn) q5 q6 q8 q7 hs2
section
attribute [local go_sem] Oper.semAt_some
structure ApI(w:World)(B:Nat)(ss0 ss:List By)(W:World):Prop where
 box:∃v,W.heap[w.heap.size]? = some (.cells #[v] 59 (0,0))/\W.ownsRow B 9 1 v (ss0++ss).length ((ss0++ss).map encStr)
 bel:Below B w W
 sz:w.heap.size<W.heap.size
theorem ApI.own{B:Nat}(hB:B<=w.heap.size):OwnFrom (w.heap.size+1) (ApI w B ss0):=by
 intro s X Y row h hg hr;obtain⟨v,hv,ho⟩:=h.box;have hsz:=h.sz;have q7:∀g,v.ownBlock=some g->some g≠row:=fun g q0 e=>by
  obtain⟨hb,o,q4,q5⟩:=hr g e.symm;rcases ho.2 with⟨e1,_⟩|⟨g',cap,cur,e1,_,q6,_⟩
  ·rw[e1] at q0;cases q0
  ·rw[e1] at q0;injection q0 with q0;subst q0;rw[q6] at q4;cases q4;cases q5
 exact⟨⟨v,(hg.block _ hsz (fun e=>by have:=(hr _ e.symm).1;omega)).trans hv,AD ho fun g q0=>hg.block g (AC ho g q0).1 (q7 g q0)⟩,h.bel.grown hg (by have:=h.bel.size;omega) (fun k e=>by have:=(hr k e).1;omega),A4 hsz hg.size⟩
theorem ApI.next{W w3:World}{B:Nat}{ss:List By}{x:By}{v v':Value}(hB:B<=w.heap.size)(h:ApI w B ss0 ss W)(hv:W.heap[w.heap.size]? = some (.cells #[v] 59 (0,0)))(ho:W.ownsRow B 9 1 v (ss0++ss).length ((ss0++ss).map encStr))(hg:(W.alloc (.cells #[encStr x] 9)).grownBy w3 v.ownBlock)(q6:w3.ownsRow B 9 1 v' ((ss0++ss).length+1) ((ss0++ss).map encStr++[encStr x])):
  w3.heap[w.heap.size]? = some (.cells #[v] 59 (0,0))/\KeepsOthers W (w3.setCell ⟨w.heap.size,0,none⟩ v')/\ApI w B ss0 (ss++[x]) (w3.setCell ⟨w.heap.size,0,none⟩ v'):=by
 have hsz:=h.sz;have q8:some w.heap.size≠v.ownBlock:=fun e=>by
  rcases ho.2 with⟨e1,_⟩|⟨g,cap,cur,e1,_,q0,_⟩
  ·rw[e1] at e;cases e
  ·rw[e1] at e;injection e with e;rw[show g=w.heap.size from e.symm,hv] at q0;injection q0 with q0;injection q0 with _ h2 _;exact absurd h2 (by decide)
 have h3:w3.heap[w.heap.size]? = some (.cells #[v] 59 (0,0)):=((hg.block _ (by simp;omega) q8).trans (BY _ _ _ hsz)).trans hv;have q4:some w.heap.size≠v'.ownBlock:=fun e=>by
  rcases q6.2 with⟨e1,_⟩|⟨g,cap,cur,e1,_,q0,_⟩
  ·rw[e1] at e;cases e
  ·rw[e1] at e;injection e with e;rw[show g=w.heap.size from e.symm,h3] at q0;injection q0 with q0;injection q0 with _ h2 _;exact absurd h2 (by decide)
 have q9:W.heap.size+1<=w3.heap.size:=by have:=hg.size;simpa using this
 refine⟨h3,((KeepsOthers.alloc W _).trans (KeepsOthers.of_grownBy hg fun j o hj q5=>?_)).trans (KeepsOthers.setCell _ _ _),⟨v',heap_setCell_box_a v' h3,?_⟩,?_,?_⟩
 ·rcases ho.2 with⟨e1,_⟩|⟨g,cap,cur,e1,_,q0,_⟩
  ·rw[e1] at hj;cases hj
  ·rw[e1] at hj;injection hj with hj;subst hj;rw[BY _ _ _ (Array.getElem?_eq_some_iff.1 q0).1,q0] at q5;cases q5;rfl
 ·have e1:(ss0++(ss++[x])).length=(ss0++ss).length+1:=by simp;omega
  have e2:(ss0++(ss++[x])).map encStr=(ss0++ss).map encStr++[encStr x]:=by simp
  rw[e1,e2];exact AD q6 fun g q7=>A5 _ _ _ _ (fun e=>q4 (by rw[q7];exact congrArg some e.symm))
 ·have hb1:Below B w (W.alloc (.cells #[encStr x] 9)):=h.bel.alloc (by have:=h.bel.size;omega) _;have hb3:=hb1.grown hg (by have:=h.bel.size;simp;omega) (fun k e=>(AC ho k e).2);exact⟨hb3.os,hb3.tape,hb3.output,by simpa[C1] using hb3.size,fun k hk=>(A5 _ _ _ _ (by show k≠w.heap.size;omega)).trans (hb3.block k hk)⟩
 ·simp[C1];omega
theorem S9{lb:Array Value}{S Sq:List By->Prop}{N B:Nat}{v0:Value}(q4:w.ownsRow B 9 1 v0 ss0.length (ss0.map encStr))(hB:B<=w.heap.size)(hN:ss0.length+N<=1000000)(eg:∀args w,(callFunc g args).run A3 w=.ok (.enter g args) w)(q7:SeqStops CL 4 A3 g lb encStr S Sq N w):
  CallsIn CL 5 A3 226 #[v0,.func (.func g) #[] lb] w fun e w'=>∃v ss,e=.returned v/\S ss/\w'.ownsRow B 9 1 v (ss0++ss).length ((ss0++ss).map encStr)/\Below B w w':=by
 obtain⟨i0,hi,h0⟩:=Option.map_eq_some_iff.1 PS;injection h0 with hz h0;injection h0 with hz2 hz3;obtain⟨z0,qk⟩:∃z0,z0=Value.string ⟨#[]⟩:=⟨_,rfl⟩
 rw[<- qk] at hz;have qr:z0.cells.size=1:=by rw[qk];rfl
 obtain⟨va,vn,vc,rfl⟩:∃a n c,v0=.slice a n c:=by
  rcases q4.2 with⟨e,_⟩|⟨_,_,_,e,_⟩
  ·exact⟨_,_,_,e⟩
  ·exact⟨_,_,_,e⟩
 obtain⟨w1,q8⟩:∃w1,w1=w.alloc (.cells #[.slice va vn vc] 59):=⟨_,rfl⟩
 have hb1:Below w.heap.size w w1:=by rw[q8];exact (Dt _ _).alloc (A2 _) _
 have qj:w1.heap.size=w.heap.size+1:=by rw[q8];simp
 have qh:ApI w B ss0 [] w1:=⟨⟨_,by rw[q8];exact heap_alloc_new w _,by simpa using AD q4 fun q hq=>hb1.block q (AC q4 q hq).1⟩,hb1.mono hB,by omega⟩
 have qo:=Ab qh;have qm:=Ab hb1;have qq:=Ab q8;have qp:=Ab (show SeqStopsK CL (5-1) A3 g lb (fun x=>#[encStr x]) CR S Sq N w from q7);have qn:=Ab eg;have qg:=Ab qj;clear qh hb1 q8 q7 eg qj q4;refine callsIn_of_wp_marks func226 rfl trivial ?_ rfl;simp only[ntmps226,List.size_toArray,List.length_cons,List.length_nil,Nat.reduceAdd,Nat.reduceSub,Array.replicate_succ,Array.replicate_zero,List.push_toArray,List.append_toArray,List.nil_append,List.cons_append]
 gi_wp2
 rw[<- Aa qq];refine wpIn_rangeFunc_ownG (encs:=fun x:By=>#[encStr x]) (Kp:=CR) (w0:=w) rfl (by omega) rfl trivial (Aa qn) (Aa qp) CR.trans (fun W l o o' _ h _ hw=>KeepsWalks.putObj o' h hw) (Aa qm) (fun _=>rfl)
  (ApI w B ss0) (fun _ _ _=>False) (by rw[Aa qg];exact ApI.own hB) (fun _ _ _ _ _ h _ _=>h) (Aa qo)
  (fun x=>{ tmps:=#[.slice va vn vc,.func (.func g) #[] lb,.pointer (some ⟨w.heap.size,0,none⟩),Dp,.slice none 0 0,encStr x,.func (.func g) #[] lb,encStr x,Dp,Dp,Dp,Dp,Dp],defers:=[] }) ?hassign ?hbody ?hdone ?hstop
 case hassign=>
  intro l x W K hK
  gi_wp2
  exact hK
 case hbody=>
  intro l q9 x W hI q6;obtain⟨v,hv,ho⟩:=hI.box;have hx:q9.length<N:=q6;have qu:(ss0++q9).length<1000000:=by simp;omega
  obtain⟨c0,f0⟩:=cell_of_box_a hv;obtain⟨ua,un,uc,rfl⟩:∃a n c,v=.slice a n c:=by
   rcases ho.2 with⟨e,_⟩|⟨_,_,_,e,_⟩
   ·exact⟨_,_,_,e⟩
   ·exact⟨_,_,_,e⟩
  have qb:=Ab hI;have HV:=Ab hv;have HO:=Ab ho;clear hI hv ho q6
  gi_wp2_with (gi_at_builtin;refine wpListIn_append_own _ rfl _ _ 59 rfl B 9 i0 z0 1 16 underlying59 hi hz hz2 hz3 qr (by decide) (.slice ua un uc) (ss0++q9).length ((ss0++q9).map encStr) rfl ((Aa HO).alloc _) ⟨W.heap.size,0,none⟩ 1 1 [encStr x] rfl rfl (cell_one_new _ _ _) (by simp[Value.oneCell',encStr]) (by unfold maxLen;omega) (by omega) (by have:=(Aa qb).bel.size;simp;omega) ?_;intro v' w3 q0 q5 qe;obtain⟨xa,xn,xc,rfl⟩:∃a n c,v'=.slice a n c:=(by rcases q0.2 with⟨e,_⟩|⟨_,_,_,e,_⟩<;>exact⟨_,_,_,e⟩);have qf:=ApI.next hB (Aa qb) (Aa HV) (Aa HO) q5 q0;obtain⟨d0,z9⟩:=cell_of_box_a qf.1;have qd:=Ab qf.2;clear qf q0 q5 qe)
  exact⟨(Aa qd).1.from _,(Aa qd).1.walks,(Aa qd).2⟩
 case hdone=>
  intro D xs W hD hS hI hK;obtain⟨v,hv,ho⟩:=hI.box;obtain⟨c0,f0⟩:=cell_of_box_a hv;have HV:=Ab ho;have qb:=Ab hI;clear hv ho hI
  gi_wp2
  refine⟨by simp,.inl ⟨_,_,rfl,run_takeDeferred hK,?_⟩⟩;have qt:w.heap.size+1<=D:=by have:=Aa qg;omega
  refine⟨_,results_tmp rfl _ _ _,v,xs,rfl,hS,AD (Aa HV) fun q hq=>AS (fun e=>?_),?_⟩
  ·rcases (Aa HV).2 with⟨e1,_⟩|⟨g',cap,cur,e1,_,qi,_⟩
   ·rw[e1] at hq;cases hq
   ·rw[e1] at hq;injection hq with hq;subst hq;subst e;rw[hK] at qi;cases qi
  ·have hb:=(Aa qb).bel;exact⟨hb.os,hb.tape,hb.output,by simpa[World.putObj] using hb.size,fun k hk=>(AS (by omega)).trans (hb.block k hk)⟩
 case hstop=>
  intro D c q9 W _ _ hf _;exact hf.elim
end
theorem UW(a b:By):(decide (a<=b) || decide (b<=a))=true:=by
 rcases List.le_total a b with h|h<;>simp[h]
theorem UV(a b c:By)(h1:decide (a<=b)=true)(h2:decide (b<=c)=true):decide (a<=c)=true:=by
 simp only[decide_eq_true_eq] at h1 h2 |-;exact List.le_trans h1 h2
theorem YP{a b:By}(h:a<=b)(q0:a≠b):a<b:=by
 rcases List.le_iff_lt_or_eq.1 h with h|h
 ·exact h
 ·exact absurd h q0
theorem IL{d:Array By}(hs:∀i j,i<=j->j<d.size->d[i]! <= d[j]!):∀m,m<=d.size->(compactUpTo d m).Pairwise (fun a b=>a<b)/\(∀k,k∈compactUpTo d m <-> ∃j,j<m/\d[j]! = k) /\ ∀k∈compactUpTo d m,k<=d[m-1]!
 | 0,_=>by
  have e:compactUpTo d 0=[]:=rfl;rw[e];exact⟨DD,fun k=>⟨fun h=>(by cases h),fun ⟨j,h,_⟩=>absurd h (by omega)⟩,fun k h=>(by cases h)⟩
 | m+1,hm=>by
  obtain⟨h1,h2,h3⟩:=IL hs m (by omega);rw[compactUpTo_succ];have q4:∀k,(∃j,j<m+1/\d[j]! = k)<->(∃j,j<m/\d[j]! = k)\/d[m]! = k:=fun k=>by
   constructor
   ·rintro⟨j,hj,e⟩;by_cases q8:j=m
    ·subst q8;exact Or.inr e
    ·exact Or.inl ⟨j,by omega,e⟩
   ·rintro (⟨j,hj,e⟩|e)
    ·exact⟨j,by omega,e⟩
    ·exact⟨m,by omega,e⟩
  have q6:∀k∈compactUpTo d m,k<=d[m]!:=fun k hk=>by
   obtain⟨j,hj,e⟩:=(h2 k).1 hk;rw[<- e];exact hs j m (by omega) (by omega)
  by_cases q0:keeps d m=true
  ·rw[if_pos q0];refine⟨List.pairwise_append.2 ⟨h1,by simp,fun a ha b hb=>?_⟩,fun k=>?_,fun k hk=>?_⟩
   ·obtain rfl:b=d[m]!:=by simpa using hb
    unfold keeps at q0;rcases of_decide_eq_true q0 with e|e
    ·subst e;obtain⟨j,hj,_⟩:=(h2 a).1 ha;omega
    ·have q9:0<m:=by
      obtain⟨j,hj,_⟩:=(h2 a).1 ha;omega
     refine List.lt_of_le_of_lt (h3 a ha) (YP (hs (m-1) m (by omega) (by omega)) (fun h=>e h.symm))
   ·rw[CH,h2,q4];simp[eq_comm]
   ·rw[A6];rcases CH.1 hk with hk|hk
    ·exact q6 k hk
    ·obtain rfl:k=d[m]!:=by simpa using hk
     exact C2 _
  ·have q5:keeps d m=false:=by simpa using q0
   rw[q5,if_neg (by decide),List.append_nil];have q9:0<m:=by
    rcases Nat.eq_zero_or_pos m with rfl|h
    ·exact absurd (show keeps d 0=true by simp[keeps]) q0
    ·exact h
   have q7:d[m]! = d[m-1]!:=by
    unfold keeps at q5;have:=of_decide_eq_false q5;exact Classical.byContradiction fun h=>this (Or.inr h)
   refine⟨h1,fun k=>?_,fun k hk=>by rw[A6];exact q6 k hk⟩;rw[h2,q4];refine⟨Or.inl,fun h=>h.elim id fun e=>⟨m-1,by omega,by rw[<- q7];exact e⟩⟩
theorem NE{l:List By}(hs:l.Pairwise (fun a b=>decide (a<=b)=true)):(compactUpTo l.toArray l.length).Pairwise (fun a b=>a<b)/\(∀k,k∈compactUpTo l.toArray l.length<->k∈l)/\(compactUpTo l.toArray l.length).length<=l.length:=by
 have hg:∀i (h:i<l.length),l.toArray[i]! = l[i]:=fun i h=>by rw[getElem!_pos _ i (by simpa using h)];simp
 obtain⟨h1,h2,_⟩:=IL (d:=l.toArray) (fun i j q4 hj=>by
  have q0:j<l.length:=by simpa using hj
  rw[hg i (by omega),hg j q0];by_cases e:i=j
  ·subst e;exact C2 _
  ·exact of_decide_eq_true (List.pairwise_iff_getElem.1 hs i j (by omega) q0 (by omega))) l.length (by simp)
 refine⟨h1,fun k=>?_,?_⟩
 ·rw[h2,List.mem_iff_getElem];constructor
  ·rintro⟨j,hj,e⟩;exact⟨j,hj,by rw[<- hg j hj];exact e⟩
  ·rintro⟨j,hj,e⟩;exact⟨j,hj,by rw[hg j hj];exact e⟩
 ·unfold compactUpTo;rw[CD];exact Bs (List.length_filter_le _ _) (by simp)
theorem KY{T:TypeId}{fr:Nat×Nat}(h:w.heap[g]? = some (.cells cur T fr))(d:Array By):
  (putRow encStr w g 0 d).heap[g]? = some (.cells (putCells encStr 0 d cur) T fr)/\(∀k,k≠g->(putRow encStr w g 0 d).heap[k]? = w.heap[k]?)/\(putRow encStr w g 0 d).heap.size=w.heap.size:=by
 refine⟨?_,fun k hk=>?_,by simp[putRow,mapBlock]⟩
 ·simp only[putRow,mapBlock,AT];rw[if_pos trivial,h];rfl
 ·simp only[putRow,mapBlock,AT];rw[if_neg (fun e=>hk e.symm)]
theorem GV{d:Array By}(h:d.size<=cur.size)(n:Nat)(hn:n<=d.size):(putCells encStr 0 d cur).toList.take n=(d.toList.map encStr).take n:=by
 apply List.ext_getElem?;intro i;by_cases hi:i<n
 ·rw[AI hi,AI hi];have h1:i<cur.size:=by omega
  have h2:i<d.size:=by omega
  simp[putCells,h1,h2,getElem!_pos]
 ·rw[A1 (by simp;omega),A1 (by simp;omega)]
theorem Lr{T:TypeId}{ss:List By}(h:w.heap[g]? = some (.cells cur T (0,0)))(ht:cur.toList.take ss.length=ss.map encStr):Holds encStr w g 0 ss.toArray:=by
 intro j hj;have q0:j<ss.length:=by simpa using hj
 rw[Nat.zero_add];refine⟨?_,by simp[World.frozen?,h]⟩;have e:(ss.map encStr)[j]? = some (encStr ss[j]):=by simp[q0]
 rw[<- ht,AI q0] at e;have e2:w.cell? ⟨g,j,none⟩=cur[j]?:=by simp[World.cell?,h]
 rw[e2,<- Array.getElem?_toList,e,getElem!_pos _ j (by simpa using q0)];simp
end Go.Proofs.YtdpomdelmdofmaaGreatDoor
