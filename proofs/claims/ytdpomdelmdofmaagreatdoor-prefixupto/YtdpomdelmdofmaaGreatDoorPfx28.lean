import Derived.Test.YtdpomdelmdofmaaGreatDoorPfx27
import Derived.RangeFuncOwn
open Go renaming World->AI,Value->A4,heap_alloc_new->A5,bodyPost_end->BY,results_none->CD,Calls->Dt
open List renaming mem_flatMap->AS,mem_cons->AT,mem_cons_of_mem->A1,mem_append_right->CH,flatMap_cons->DD,nodup_append->D0,mem_append->D1,mem_map->D3
open Go.RowKit.Below renaming heap_alloc->A2
open Go.Proofs.Tryz renaming prog->A3
open Nat renaming le_trans->A6,lt_of_lt_of_le->Dp,le_refl->E0
open Array renaming getElem?_eq_some_iff->Bs
open Go.Value renaming ownBlock->CL
open Go.World renaming cell?->CR
open Go.RowKit renaming Below->C1
open Or renaming inr->C2,inl->D2
open Prod renaming snd->Ft
set_option maxRecDepth 100000
set_option maxHeartbeats 4000000
namespace Go.Proofs.YtdpomdelmdofmaaGreatDoor
open Go.Proofs.Tryz Go.RowKit Go.Maps
variable{w:AI}{D f i:Nat}{rv jn iv u:A4}{ch:Bool}{xs:List A4}{T c m:Zf}{M:Nat->Prop}{key:By}
abbrev Clo:=Nat×Array A4
def Fx(c:Clo):A4:=.func (.func c.1) #[] c.2
theorem UU:(Tryz.prog.info? 230).map (fun i=>(i.zero.map (fun z=>z.cells.size),i.size,i.bytes))=some (some 5,5,72):=by kernel_rfl
theorem S4:∃i z,Tryz.prog.info? 230=some i/\i.zero=some z/\z.cells.size=5/\i.size=5/\i.bytes=72:=by
 obtain⟨i,hi,h⟩:=Option.map_eq_some_iff.1 UU
 simp_all
def EQ(D:Nat)(rv jn iv:A4)(ch:Bool)(n:Nat)(xs new:List A4)(w:AI)(e:Ending)(w':AI):Prop:=
 e=.returned (.tuple #[]) /\ ∃g cap,DB w' D rv (.slice (some ⟨g,0,none⟩) (n+1) cap) ch iv/\w'.ownsRow 0 230 5 (.slice (some ⟨g,0,none⟩) (n+1) cap) (n+1) (xs++new) /\
  (jn.ownBlock=some g\/w.heap.size<=g)/\Ao (fun k=>k=D\/jn.ownBlock=some k) w w'
theorem DB.set1(h:DB w D rv jn ch iv)(v:A4):DB (w.setCell ⟨D,1,none⟩ v) D rv v ch iv:=by
 grind [DB,World.setCell]
theorem EQ.of{wa w3:AI}{n g cap:Nat}{new:List A4}{o:Obj}(hB:C1 w.heap.size w wa)(hA:DB wa D rv jn ch iv)(hj:jn.ownBlock≠some D)(ho:w3.ownsRow 0 230 5 (.slice (some ⟨g,0,none⟩) (n+1) cap) (n+1) (xs++new))(hg:(wa.alloc o).drew.grownBy w3 jn.ownBlock)(q7:jn.ownBlock=some g\/g=wa.heap.size+1):
  EQ D rv jn iv ch n xs new w (.returned (.tuple #[])) (w3.setCell ⟨D,1,none⟩ (.slice (some ⟨g,0,none⟩) (n+1) cap)):=by
 have hs:(wa.alloc o).drew.heap.size=wa.heap.size+1:=by simp
 have q0:=hA.lt;have hold:∀k,k<wa.heap.size->jn.ownBlock≠some k->w3.heap[k]? = wa.heap[k]?:=fun k hk q4=>(hg.block k (by omega) (fun e=>q4 e.symm)).trans (A2 wa o k hk);have q5:DB w3 D rv jn ch iv:=hA.kept (hold D q0 hj);have q6:g≠D:=by grind
 have hsz:=hB.size;refine⟨rfl,g,cap,q5.set1 _,AD ho fun k hk2=>?_,by grind,?_⟩
 ·simp[CL] at hk2;exact Below.heap_setCell _ _ _ _ (by grind)
 ·have h3:Ao (fun k=>k=D\/jn.ownBlock=some k) w wa:=Ao.of_below hB;have h4:Ao (fun k=>k=D\/jn.ownBlock=some k) w w3:=h3.trans (F':=fun k=>jn.ownBlock=some k) ⟨hg.os,hg.tape,hg.output,by have:=hg.size;omega,by omega⟩ fun k _ h=>C2 h;exact h4.setCell (p:=⟨D,1,none⟩) (D2 (D2 rfl)) _
theorem Jg{c:Clo}{k:Int}{pa x:Option Addr}{pl pc n:Nat}(hD:DB w D rv jn ch iv)(hj:w.ownsRow 0 230 5 jn n xs)(hn:n<=1000000000)(q9:jn.ownBlock≠some D):
  Dt A3 247 #[.pointer (some ⟨D,0,none⟩),Fx c,.agg #[.int .i64 k,.slice pa pl pc,.slice none 0 0,.pointer x]] w (EQ D rv jn iv ch n xs [Fx c,.int .i64 k,.slice pa pl pc,.slice none 0 0,.pointer x] w):=by
 obtain⟨i0,z0,qg,hz0,qe,hz2,hz3⟩:=S4;have qd:=hD.lt;have HD:=Ab hD;have HJ:=Ab hj;have qb:=Ab q9;obtain⟨cf,cc⟩:=c;unfold Fx;clear hD hj q9
 go_enter func247,ntmps247
 go_wp2_with (fail);have q4:=A5 w (.cells #[.int .i64 k,.slice pa pl pc,.slice none 0 0,.pointer x] 178)
 have q8:=(Below.refl w.heap.size w).alloc (E0 _) (.cells #[.int .i64 k,.slice pa pl pc,.slice none 0 0,.pointer x] 178);generalize w.alloc (.cells #[.int .i64 k,.slice pa pl pc,.slice none 0 0,.pointer x] 178)=wa at *;have q6:=(Aa HD).kept (q8.block D qd);have d1:=q6.c1;have b0:wa.cell? ⟨w.heap.size,0,none⟩=some (.int .i64 k):=by simp[CR,q4]
 have b1:wa.cell? ⟨w.heap.size,1,none⟩=some (.slice pa pl pc):=by simp[CR,q4]
 have b2:wa.cell? ⟨w.heap.size,2,none⟩=some (.slice none 0 0):=by simp[CR,q4]
 have b3:wa.cell? ⟨w.heap.size,3,none⟩=some (.pointer x):=by simp[CR,q4]
 have qf:=AD (w':=wa) (Aa HJ) fun g hg=>q8.block g (AC (Aa HJ) g hg).1;have q5:D<wa.heap.size:=q6.lt;have z1:∀o,(wa.alloc o).frozen? ⟨D,1,none⟩=false:=fun o=>by rw[World.frozen?_of_block (w:=wa) (A2 wa o D q5)];simp[World.frozen?,show wa.heap[D]? = _ from q6]
 have y1:∀o,(wa.alloc o).cell? ⟨D,1,none⟩=some jn:=fun o=>by rw[World.cell?_of_block (w:=wa) (A2 wa o D q5)];exact d1
 have nD:some D≠jn.ownBlock:=fun e=>Aa qb e.symm;have HB:=Ab q8;have HA:=Ab q6;clear q8 q6;have qi:w.heap.size<wa.heap.size:=by grind
 clear q4
 go_region_law ((refine step_append_lies _ (by rfl) _ _ _ (by rfl) 0 230 i0 z0 5 72 underlying112 qg hz0 hz2 hz3 qe (by decide) jn n xs (by rfl) ((qf.alloc _).drew) ⟨wa.heap.size,0,none⟩ 1 1 [.func (.func cf) #[] cc,.int .i64 k,.slice pa pl pc,.slice none 0 0,.pointer x] (by rfl) (by rfl) (World.news_of_block (cs:=#[.func (.func cf) #[] cc,.int .i64 k,.slice pa pl pc,.slice none 0 0,.pointer x]) (t:=230) (fr:=(0,0)) (A5 wa _)) (by simp[Value.oneCell']) (by decide) (by unfold maxLen;omega) (by omega) (Nat.zero_le _) (wa.heap.size+1) (by simp) ?_;intro g cap w3 q7 q0 qh hlt;have zz:w3.frozen? ⟨D,1,none⟩=false:=(q0.frozen_far ⟨D,1,none⟩ (by simp;omega) nD).trans (z1 _);have yy:w3.cell? ⟨D,1,none⟩=some jn:=(q0.cell_far ⟨D,1,none⟩ (by simp;omega) nD).trans (y1 _)))
 all_goals exact BY (CD rfl _ _ _) rfl (EQ.of (Aa HB) (Aa HA) (Aa qb) q7 q0 qh)
abbrev plW(w:AI)(pa:Option Addr)(pl pc b:Nat)(key:By)(i:Nat):AI:=w.alloc (.cells #[.slice pa pl pc,.pointer (some ⟨b,0,none⟩),.string ⟨key.toArray⟩,.int .i64 i] 185)
abbrev xW(w:AI)(y:Option Addr):AI:=w.alloc (.cells #[.pointer y] 80)
section
variable{w:AI}{D b i n:Nat}{rv jn iv:A4}{ch:Bool}{key:By}{pa x y:Option Addr}{pl pc:Nat}{xs:List A4}
theorem Ox{Q:AI->Prop}(hn:n<=1000000000)(q4:jn.ownBlock≠some D)(hC:Dt A3 249 #[plV (.slice pa pl pc) b key i,.pointer x] (plW w pa pl pc b key i) fun e w'=>e=.returned (.tuple #[])/\Q w')(hQ:∀w2,Q w2->AJ w2 w.heap.size (.slice pa pl pc) b key i/\DB w2 D rv jn ch iv/\w2.ownsRow 0 230 5 jn n xs):
  Dt A3 205 #[.pointer (some ⟨D,0,none⟩),plV (.slice pa pl pc) b key i,.pointer x] w fun e w3=>
   ∃w2,Q w2/\EQ D rv jn iv ch n xs [Fx (252,#[.pointer (some ⟨w.heap.size,0,none⟩)]),.int .i64 1,.slice pa pl pc,.slice none 0 0,.pointer none] w2 e w3:=by
 have HC:=Ab hC;have HQ:=Ab hQ;have q5:=Ab q4;have q0:=A5 w (.cells #[.slice pa pl pc,.pointer (some ⟨b,0,none⟩),.string ⟨key.toArray⟩,.int .i64 i] 185);have HP:=Ab (show AJ (plW w pa pl pc b key i) w.heap.size (.slice pa pl pc) b key i from q0);clear hC hQ q4 q0
 go_enter func205,ntmps205
 go_wp2_with (fail);refine (Aa HC).mono ?_
 rintro e w2 ⟨rfl,hq⟩;obtain⟨g1,g2,g3⟩:=Aa HQ w2 hq;have e0:=g1.c0;have G2:=Ab g2;have G3:=Ab g3;have q6:=Ab hq;clear g1 g2 g3 hq
 go_wp2_with (fail);refine (Jg (c:=(252,#[.pointer (some ⟨w.heap.size,0,none⟩)])) (Aa G2) (Aa G3) hn (Aa q5)).mono ?_
 intro e w3 hL;obtain⟨rfl,q7⟩:=id hL;have HL:=Ab hL;clear hL q7
 go_wp2_with (fail);exact BY (CD rfl _ _ _) rfl ⟨w2,Aa q6,Aa HL⟩
theorem Ot{Q:AI->AI->Prop}(hn:n<=1000000000)(q6:jn.ownBlock≠some D)(hG:Dt A3 159 #[plV (.slice pa pl pc) b key i] (plW w pa pl pc b key i) fun e w'=>e=.returned (.pointer y)/\C1 (w.heap.size+1) (plW w pa pl pc b key i) w')(hC:∀w2,C1 (w.heap.size+1) (plW w pa pl pc b key i) w2->Dt A3 246 #[plV (.slice pa pl pc) b key i] (xW w2 y) fun e w'=>e=.returned (.tuple #[])/\Q w2 w')(hQ:∀w2 w3,C1 (w.heap.size+1) (plW w pa pl pc b key i) w2->Q w2 w3->AJ w3 w.heap.size (.slice pa pl pc) b key i/\FY w3 w2.heap.size y/\DB w3 D rv jn ch iv/\w3.ownsRow 0 230 5 jn n xs):
  Dt A3 199 #[.pointer (some ⟨D,0,none⟩),plV (.slice pa pl pc) b key i] w fun e w4=>
   ∃w2 w3,C1 (w.heap.size+1) (plW w pa pl pc b key i) w2/\Q w2 w3/\EQ D rv jn iv ch n xs [Fx (248,#[.pointer (some ⟨w.heap.size,0,none⟩),.pointer (some ⟨w2.heap.size,0,none⟩)]),.int .i64 0,.slice pa pl pc,.slice none 0 0,.pointer y] w3 e w4:=by
 have HG:=Ab hG;have HC:=Ab hC;have HQ:=Ab hQ;have q7:=Ab q6;have q5:=A5 w (.cells #[.slice pa pl pc,.pointer (some ⟨b,0,none⟩),.string ⟨key.toArray⟩,.int .i64 i] 185);have HP:=Ab (show AJ (plW w pa pl pc b key i) w.heap.size (.slice pa pl pc) b key i from q5);clear hG hC hQ q6 q5
 go_enter func199,ntmps199
 go_wp2_with (fail);refine (Aa HG).mono ?_
 rintro e w2 ⟨rfl,hb⟩;have q4:AJ w2 w.heap.size (.slice pa pl pc) b key i:=(hb.block _ (by omega)).trans (Aa HP);have hlt:w.heap.size<w2.heap.size:=(Bs.1 q4).1;have q0:AJ (xW w2 y) w.heap.size (.slice pa pl pc) b key i:=(A2 w2 _ _ hlt).trans q4;have e0:=q0.c0;have e1:=q0.c1;have e2:=q0.c2;have e3:=q0.c3;have HB:=Ab hb;clear hb q4 q0
 go_wp2_with (fail);refine (Aa HC w2 (Aa HB)).mono ?_
 rintro e w3 ⟨rfl,hq⟩;obtain⟨g0,g1,g2,g3⟩:=Aa HQ w2 w3 (Aa HB) hq;clear e0 e1 e2 e3;have e0:=g0.c0;have e4:=g1.c0;have G2:=Ab g2;have G3:=Ab g3;have q8:=Ab hq;clear g0 g1 g2 g3 hq
 go_wp2_with (fail);refine (Jg (c:=(248,#[.pointer (some ⟨w.heap.size,0,none⟩),.pointer (some ⟨w2.heap.size,0,none⟩)])) (Aa G2) (Aa G3) hn (Aa q7)).mono ?_
 intro e w4 hL;obtain⟨rfl,q9⟩:=id hL;have HL:=Ab hL;clear hL q9
 go_wp2_with (fail);exact BY (CD rfl _ _ _) rfl ⟨w2,w3,Aa HB,Aa q8,Aa HL⟩
theorem SO{Q:AI->AI->Prop}(hn:n<=1000000000)(q6:jn.ownBlock≠some D)(hG:Dt A3 159 #[plV (.slice pa pl pc) b key i] (plW w pa pl pc b key i) fun e w'=>e=.returned (.pointer y)/\C1 (w.heap.size+1) (plW w pa pl pc b key i) w')(hC:∀w2,C1 (w.heap.size+1) (plW w pa pl pc b key i) w2->Dt A3 250 #[plV (.slice pa pl pc) b key i,.pointer x] (xW w2 y) fun e w'=>e=.returned (.tuple #[])/\Q w2 w')(hQ:∀w2 w3,C1 (w.heap.size+1) (plW w pa pl pc b key i) w2->Q w2 w3->AJ w3 w.heap.size (.slice pa pl pc) b key i/\FY w3 w2.heap.size y/\DB w3 D rv jn ch iv/\w3.ownsRow 0 230 5 jn n xs):
  Dt A3 200 #[.pointer (some ⟨D,0,none⟩),plV (.slice pa pl pc) b key i,.pointer x] w fun e w4=>
   ∃w2 w3,C1 (w.heap.size+1) (plW w pa pl pc b key i) w2/\Q w2 w3/\EQ D rv jn iv ch n xs [Fx (251,#[.pointer (some ⟨w.heap.size,0,none⟩),.pointer (some ⟨w2.heap.size,0,none⟩)]),.int .i64 2,.slice pa pl pc,.slice none 0 0,.pointer y] w3 e w4:=by
 have HG:=Ab hG;have HC:=Ab hC;have HQ:=Ab hQ;have q7:=Ab q6;have q5:=A5 w (.cells #[.slice pa pl pc,.pointer (some ⟨b,0,none⟩),.string ⟨key.toArray⟩,.int .i64 i] 185);have HP:=Ab (show AJ (plW w pa pl pc b key i) w.heap.size (.slice pa pl pc) b key i from q5);clear hG hC hQ q6 q5
 go_enter func200,ntmps200
 go_wp2_with (fail);refine (Aa HG).mono ?_
 rintro e w2 ⟨rfl,hb⟩;have q4:AJ w2 w.heap.size (.slice pa pl pc) b key i:=(hb.block _ (by omega)).trans (Aa HP);have hlt:w.heap.size<w2.heap.size:=(Bs.1 q4).1;have q0:AJ (xW w2 y) w.heap.size (.slice pa pl pc) b key i:=(A2 w2 _ _ hlt).trans q4;have e0:=q0.c0;have e1:=q0.c1;have e2:=q0.c2;have e3:=q0.c3;have HB:=Ab hb;clear hb q4 q0
 go_wp2_with (fail);refine (Aa HC w2 (Aa HB)).mono ?_
 rintro e w3 ⟨rfl,hq⟩;obtain⟨g0,g1,g2,g3⟩:=Aa HQ w2 w3 (Aa HB) hq;clear e0 e1 e2 e3;have e0:=g0.c0;have e4:=g1.c0;have G2:=Ab g2;have G3:=Ab g3;have q8:=Ab hq;clear g0 g1 g2 g3 hq
 go_wp2_with (fail);refine (Jg (c:=(251,#[.pointer (some ⟨w.heap.size,0,none⟩),.pointer (some ⟨w2.heap.size,0,none⟩)])) (Aa G2) (Aa G3) hn (Aa q7)).mono ?_
 intro e w4 hL;obtain⟨rfl,q9⟩:=id hL;have HL:=Ab hL;clear hL q9
 go_wp2_with (fail);exact BY (CD rfl _ _ _) rfl ⟨w2,w3,Aa HB,Aa q8,Aa HL⟩
end
def bG:Nat->Zf->List Nat
 | 0,_=>[]
 | f+1,a=>match a with
  | .agg [.lit (.int _ _),.lit (.int _ g),x]=>(match x with
   | .slice al _=>al.flatMap (bG f)
   | .map es=>g.toNat::es.flatMap (fun p=>bG f p.2)
   | _=>[])
  | _=>[]
theorem Wk(f b g:Nat)(al:List Zf):bG (f+1) (Zj b g (.slice al []))=al.flatMap (bG f):=rfl
theorem Wj(f b g:Nat)(es:List (Lit×Zf)):bG (f+1) (Zj b g (.map es))=g::es.flatMap (fun p=>bG f p.2):=rfl
theorem Ad.maps{w:AI}:∀ {f:Nat} {v:A4} {a:Zf},Ad f w v a->(∀k∈bG f a,k∈fp f a) /\ ∀k∈fp f a,k∈bG f a \/ ∃o,w.heap[k]? = some o/\o.isCells=true
 | 0,_,_,h=>h.elim
 | f+1,v,a,h=>by
  obtain⟨b,g,x,rfl,hv,h⟩:=h;rcases h with⟨j,_,_,rfl,h⟩|⟨n,_,rfl,h,_⟩|⟨s,_,rfl,h⟩|⟨al,sl,ps,rfl,h,ho,hs,ha⟩|⟨es,n,D,rfl,h,ho,hp⟩
  ·refine⟨fun k hk=>(by cases hk),fun k hk=>C2 ?_⟩;rw[Em] at hk;obtain rfl:k=b:=by grind
   exact⟨_,h,rfl⟩
  ·refine⟨fun k hk=>(by cases hk),fun k hk=>C2 ?_⟩;rw[Fs] at hk;obtain rfl:k=b:=by grind
   exact⟨_,h,rfl⟩
  ·refine⟨fun k hk=>(by cases hk),fun k hk=>C2 ?_⟩;rw[Fq] at hk;obtain rfl:k=b:=by grind
   exact⟨_,h,rfl⟩
  ·rw[AN,Wk];refine⟨fun k hk=>?_,fun k hk=>?_⟩
   ·obtain⟨c,hc,q0⟩:=AS.1 hk;obtain⟨u,hu⟩:=ha.right hc;exact A1 _ (CH _ (AS.2 ⟨c,hc,(Ad.maps hu).1 k q0⟩))
   ·rcases AT.1 hk with rfl|hk
    ·exact C2 ⟨_,h,rfl⟩
    ·rcases D1.1 hk with hk|hk
     ·split at hk
      ·cases hk
      ·rename_i h0;obtain rfl:k=g:=by grind
       rw[if_neg h0] at hs;rcases ho.2 with⟨h1,_⟩|⟨g',cap,cur,h1,_,h3,_⟩
       ·rw[h1] at hs;cases hs
       ·rw[h1] at hs;injection hs with hs;subst hs;exact C2 ⟨_,h3,rfl⟩
     ·obtain⟨c,hc,q0⟩:=AS.1 hk;obtain⟨u,hu⟩:=ha.right hc;exact ((Ad.maps hu).2 k q0).imp (by grind) id
  ·rw[Bi,Wj];refine⟨fun k hk=>?_,fun k hk=>?_⟩
   ·rcases AT.1 hk with rfl|hk
    ·simp
    ·obtain⟨p,q4,q0⟩:=AS.1 hk;obtain⟨u,hu⟩:=hp.right q4;exact A1 _ (A1 _ (AS.2 ⟨p,q4,(Ad.maps hu).1 k q0⟩))
   ·rcases AT.1 hk with rfl|hk
    ·exact C2 ⟨_,h,rfl⟩
    ·rcases AT.1 hk with rfl|hk
     ·grind
     ·obtain⟨p,q4,q0⟩:=AS.1 hk;obtain⟨u,hu⟩:=hp.right q4;exact ((Ad.maps hu).2 k q0).imp (by grind) id
theorem BG.less{L:Nat}{v:A4}{M' N:Nat->Prop}{wk:AI}(h:BG L v T M' N wk w)(hM:∀k,M k->M' k):BG L v T M N wk w:=by
 obtain⟨T',e,h1,h2,h3⟩:=h.tree;exact⟨by grind,fun k hm=>h.held k (hM k hm),fun k hm=>h.low k (hM k hm)⟩
def Und(L:Nat)(B:Nat)(v:A4)(Tb:Zf)(Mb:Nat->Prop)(wb:AI):List Clo->Zf->(Nat->Prop)->AI->Prop
 | [],T,M,wk=>∀N w,BG L v T M N wk w->BG L v Tb Mb N wb w
 | c::r,T,M,wk=>∃T0 M0 wk0,Und L B v Tb Mb wb r T0 M0 wk0/\NW L v c.1 c.2 T0 T M0 M wk0 wk/\(∀k,M0 k->M k)/\(∀k∈bG L T0,k<B)/\Ent c.1
theorem Und.up{L B B':Nat}{v:A4}{Tb:Zf}{Mb:Nat->Prop}{wb:AI}(hB:B<=B'):∀ {cs:List Clo} {T:Zf} {M:Nat->Prop} {wk:AI},Und L B v Tb Mb wb cs T M wk->Und L B' v Tb Mb wb cs T M wk
 | [],_,_,_,h=>h
 | _::_,_,_,_,⟨T0,M0,wk0,h1,h2,h3,h4,h5⟩=>⟨T0,M0,wk0,Und.up hB h1,h2,h3,fun k hk=>Dp (h4 k hk) hB,h5⟩
theorem Und.shift{L B:Nat}{v:A4}{Tb T2:Zf}{Mb M2:Nat->Prop}{wb wk q0:AI}{cs:List Clo}(h:Und L B v Tb Mb wb cs T M wk)(hT:er L T2=er L T)(hM:∀k,M k->M2 k/\q0.heap[k]? = wk.heap[k]?):Und L B v Tb Mb wb cs T2 M2 q0:=by
 have key:∀N w,BG L v T2 M2 N q0 w->BG L v T M N wk w:=fun N w hA=>(hA.less fun k hk=>(hM k hk).1).shift hT.symm (by grind);cases cs with
 | nil=>exact fun N w hA=>h N w (key N w hA)
 | cons c r=>
  obtain⟨T0,M0,wk0,h1,h2,h3,h4,h5⟩:=h;exact⟨T0,M0,wk0,h1,fun N w hN hA=>h2 N w (by grind) (key N w hA),by grind,h4,h5⟩
def Jrn(w:AI)(G:Nat->Prop):List A4->List Clo->List Zk->Prop
 | [],[],[]=>True
 | cv::kv::pv::fv::vv::r,c::s,o::t=>cv=Fx c/\EW w G kv pv fv vv o/\Jrn w G r s t
 | _,_,_=>False
theorem Jrn.move{w w':AI}{G G':Nat->Prop}(hk:∀k,G k->k<w.heap.size->w'.heap[k]? = w.heap[k]? /\ G' k):∀ {xs:List A4} {cs:List Clo} {js:List Zk},Jrn w G xs cs js->Jrn w' G' xs cs js
 | [],[],[],_=>trivial
 | _::_::_::_::_::_,_::_,_::_,⟨e,a,b⟩=>⟨e,a.move hk,Jrn.move hk b⟩
theorem Jrn.snoc{w:AI}{G:Nat->Prop}{cv kv pv fv vv:A4}{c:Clo}{o:Zk}(hc:cv=Fx c)(ho:EW w G kv pv fv vv o):∀ {xs:List A4} {cs:List Clo} {js:List Zk},Jrn w G xs cs js->Jrn w G (xs++[cv,kv,pv,fv,vv]) (cs++[c]) (js++[o])
 | [],[],[],_=>⟨hc,ho,trivial⟩
 | _::_::_::_::_::_,_::_,_::_,⟨e,a,b⟩=>⟨e,a,Jrn.snoc hc ho b⟩
def GA(L:Nat)(Tb:Zf)(wb:AI)(M:Nat->Prop)(k:Nat):Prop:=M k/\(wb.heap.size<=k\/k∈fp L Tb)
structure Bm(L:Nat)(w:AI)(D:Nat)(rv jn iv:A4)(ch:Bool)(Tb:Zf)(Mb:Nat->Prop)(wb:AI)(T:Zf)(M:Nat->Prop)(js:List Zk):Prop where
 ex:∃xs cs,DB w D rv jn ch iv/\w.ownsRow 0 230 5 jn js.length xs/\Jrn w (GA L Tb wb M) xs cs js/\Und L w.heap.size rv Tb Mb wb cs.reverse T M w
 jD:jn.ownBlock≠some D
 jM:∀g,jn.ownBlock=some g -> ¬ M g/\g ∉ fp L T
 tr:Ad L w rv T
 nd:(fp L T).Nodup
 dD:D ∉ fp L T /\ ¬ M D
 low:∀k,M k->k<w.heap.size/\k ∉ fp L T
 up:wb.heap.size<=w.heap.size /\ ∀k∈fp L T,wb.heap.size<=k\/k∈fp L Tb
structure JEx(M M':Nat->Prop)(w w':AI):Prop where
 os:w'.os=w.os
 tape:w'.tape=w.tape
 output:w'.output=w.output
 size:w.heap.size<=w'.heap.size
 kept:∀k,M k->M' k/\w'.heap[k]? = w.heap[k]?
theorem JEx.refl(M:Nat->Prop)(w:AI):JEx M M w w:=⟨rfl,rfl,rfl,E0 _,fun _ h=>⟨h,rfl⟩⟩
theorem JEx.trans{M1 M2:Nat->Prop}{w1 w2:AI}(h:JEx M M1 w w1)(k:JEx M1 M2 w1 w2):JEx M M2 w w2:=
 ⟨k.os.trans h.os,k.tape.trans h.tape,k.output.trans h.output,A6 h.size k.size,fun j hj=>⟨(k.kept j (h.kept j hj).1).1,(k.kept j (h.kept j hj).1).2.trans (h.kept j hj).2⟩⟩
section
variable{L:Nat}{w:AI}{D:Nat}{rv jn iv:A4}{ch:Bool}{Tb T:Zf}{Mb M:Nat->Prop}{wb:AI}{js:List Zk}
theorem Bm.jlt(h:Bm L w D rv jn iv ch Tb Mb wb T M js):∀g,jn.ownBlock=some g->g<w.heap.size:=by
 obtain⟨xs,cs,_,h2,_⟩:=h.ex;exact fun g hg=>(AC h2 g hg).1
theorem Bm.dlt(h:Bm L w D rv jn iv ch Tb Mb wb T M js):D<w.heap.size:=by
 obtain⟨xs,cs,h1,_⟩:=h.ex;exact h1.lt
theorem Bm.grow{w':AI}(h:Bm L w D rv jn iv ch Tb Mb wb T M js)(hb:C1 w.heap.size w w')(X:Nat->Prop)(hX:∀k,X k->w.heap.size<=k/\k<w'.heap.size):
  Bm L w' D rv jn iv ch Tb Mb wb T (fun k=>M k\/X k) js/\JEx M (fun k=>M k\/X k) w w':=by
 obtain⟨xs,cs,h1,h2,h3,h4⟩:=h.ex;have q0:=h.jlt;have hlt:=h.tr.lt;have hM:∀k,M k->(M k\/X k)/\w'.heap[k]? = w.heap[k]?:=fun k hk=>⟨D2 hk,hb.block k (h.low k hk).1⟩
 refine⟨⟨⟨xs,cs,h1.kept (hb.block D h1.lt),AD h2 fun g hg=>hb.block g (q0 g hg),h3.move fun k hk hl=>⟨(hM k hk.1).2,(hM k hk.1).1,hk.2⟩,(h4.shift rfl hM).up hb.size⟩,h.jD,fun g hg=>⟨fun hm=>hm.elim (h.jM g hg).1 (by grind),(h.jM g hg).2⟩,h.tr.bel hb,h.nd,⟨h.dD.1,fun hm=>hm.elim h.dD.2 fun hx=>by have:=(hX D hx).1;have:=h1.lt;omega⟩,fun k hm=>?_,⟨A6 h.up.1 hb.size,h.up.2⟩⟩,⟨hb.os,hb.tape,hb.output,hb.size,hM⟩⟩;rcases hm with hm|hm
 ·exact⟨Dp (h.low k hm).1 hb.size,(h.low k hm).2⟩
 grind
theorem Bm.lay{w3 w4:AI}{T3 T1:Zf}{M':Nat->Prop}{cs:List Clo}{c:Clo}{kv pv fv vv:A4}{o:Zk}{e:Ending}(h:Bm L w D rv jn iv ch Tb Mb wb T M js)(hx:Jrn w (GA L Tb wb M) xs cs js)(hu:Und L w.heap.size rv Tb Mb wb cs.reverse T M w)(hk:Ao (fun k=>k∈fp L T) w w3)(ht:Ad L w3 rv T3)(hn:(fp L T3).Nodup)(qd:D ∉ fp L T3)(qe:∀g,jn.ownBlock=some g->g ∉ fp L T3)(hM:∀k,M k->M' k)(q7:∀k,M' k->k<w3.heap.size/\k ∉ fp L T3/\k≠D/\jn.ownBlock≠some k)(he:EQ D rv jn iv ch js.length xs [Fx c,kv,pv,fv,vv] w3 e w4)(ho:EW w3 (GA L Tb wb M') kv pv fv vv o)(hT:er L T3=er L T1)(hB:(∀k,M k->M' k/\w4.heap[k]? = w.heap[k]?)->(∀k,M' k->w4.heap[k]? = w3.heap[k]?)->NW L rv c.1 c.2 T T1 M M' w w4)(hin:Ent c.1)(qb:∀k∈fp L T3,wb.heap.size<=k\/k∈fp L Tb):
  e=.returned (.tuple #[]) /\ ∃q8,Bm L w4 D rv q8 iv ch Tb Mb wb T3 M' (js++[o])/\JEx M M' w w4:=by
 obtain⟨rfl,g,cap,g1,g2,g3,g4⟩:=he;have q4:=ht.lt;have q0:∀k,M' k->w4.heap[k]? = w3.heap[k]?:=fun k hm=>g4.block k (q7 k hm).1 (by grind);have q6:∀k,M k->M' k/\w4.heap[k]? = w.heap[k]?:=fun k hm=>⟨hM k hm,(q0 k (hM k hm)).trans (hk.block k (h.low k hm).1 (h.low k hm).2)⟩
 have hgx:¬ M' g/\g ∉ fp L T3:=by
  grind
 have q9:g≠D:=by
  rcases g3 with h'|h'
  ·exact fun e=>h.jD (by rw[h',e])
  ·have:=h.dlt;have:=hk.size;omega
 refine⟨rfl,_,⟨⟨xs++[Fx c,kv,pv,fv,vv],cs++[c],g1,by grind,Jrn.snoc rfl (ho.move fun k hm _=>⟨q0 k hm.1,hm⟩) (hx.move fun k hm _=>⟨(q6 k hm.1).2,hM k hm.1,hm.2⟩),?_⟩,?_,?_,ht.move fun k q5=>g4.block k (q4 k q5) (by grind),hn,by grind,by grind,⟨A6 h.up.1 (A6 hk.size g4.size),qb⟩⟩,⟨g4.os.trans hk.os,g4.tape.trans hk.tape,g4.output.trans hk.output,A6 hk.size g4.size,q6⟩⟩
 ·rw[List.reverse_append];exact Und.shift (T:=T1) (M:=M') (wk:=w4) (cs:=c::cs.reverse) ⟨T,M,w,hu.up (A6 hk.size g4.size),hB q6 q0,hM,fun k q5=>by have:=h.tr.lt k (h.tr.maps.1 k q5);have:=hk.size;have:=g4.size;omega,hin⟩ hT fun k hm=>⟨hm,rfl⟩
 ·simpa[CL] using q9
 grind [fp,CL,er]
end
theorem KT{c:Zf}{k:By}:∀ {es:List (Lit×Zf)},AL es->(Lit.string k,c)∈es->es.find? (fun p=>p.1.sameKey (.string k))=some (.string k,c)
 | [],_,h=>by cases h
 | y::r,⟨h1,h2⟩,h=>by
  obtain⟨h3,h4⟩:=List.pairwise_cons.1 h1;rcases AT.1 h with e|h
  ·subst e;exact GK (p:=fun p=>p.1.sameKey (.string k)) (WideAt.sameKey_self (show WideAt.IsKeyLit (Lit.string k,c).1 from trivial))
  ·have q0:y.1 ≠ .string k:=fun e=>by
    have hb:=h3 _ h;rw[e] at hb;have h9:bytesBefore k k=true:=hb;rw[WideAt.bytes_irrefl] at h9;cases h9
   rw[Iu (p:=fun p=>p.1.sameKey (.string k)) (by show ¬ (y.1.sameKey (.string k)=true);rw[sameKey_ne q0];decide)];exact KT ⟨h4,fun p hp=>h2 p (by simp[hp])⟩ h
theorem U2{b g:Nat}{al:List Zf}(h:Ad (f+1) w u (Zj b g (.slice al []))):∃sl ps,VB w b 5 n0 [] sl (.map none)/\w.ownsRow 0 80 1 sl ps.length ps/\Al (Ad f w) ps al:=by
 obtain⟨b2,g2,x2,e,hu,h⟩:=h;unfold Zj at e;injection e with e;injection e with e1 e;injection e with e2 e;injection e with e3 _;injection e1 with e1;injection e1 with _ e1;injection e2 with e2;injection e2 with _ e2;obtain rfl:b=b2:=by omega
 rcases h with⟨j,_,_,rfl,_⟩|⟨n,_,rfl,_⟩|⟨s,_,rfl,_⟩|⟨q0,sl,ps,rfl,hvb,ho,hs,ha⟩|⟨es,n,D,rfl,hvb,ho,hp⟩
 ·cases e3
 ·cases e3
 ·cases e3
 ·grind
 ·cases e3
theorem DN{pth:A4}{n:Zf}(h:Ad (f+1) w u n)(hf:AR n i key c)(hk:key.length<=1048576):
  Dt A3 159 #[plV pth (Zv n) key i] w fun e w'=>(∃y,e=.returned y/\Ad f w y c)/\C1 w.heap.size w w':=by
 rcases hf with⟨b,g,al,rfl,h1⟩|⟨b,g,es,rfl,h1,h2⟩
 ·obtain⟨sl,ps,hvb,ho,ha⟩:=U2 h;obtain⟨hi,e⟩:=List.getElem?_eq_some_iff.1 h1;have q0:i<ps.length:=by rw[ha.length];exact hi
  refine (WA (pth:=pth) (key:=key) hvb ho q0).mono ?_;rintro x w' ⟨rfl,hb⟩;exact⟨⟨_,rfl,e▸ha.get i q0 hi⟩,hb⟩
 ·obtain⟨_,D,hvb,ho,hp⟩:=DJ h;have hfd:=KT h2 h1;have hh:Maps.has (.map D) (.string key)=true:=by
   rw[Pt.has _ hp];exact List.any_eq_true.2 (by grind)
  obtain⟨j,k2,c2,x,_,_,e3,e4,e5⟩:=Pt.first (.string key) hp hh
  rw[hfd] at e3;obtain rfl:c=c2:=by grind
  refine (Pd (pth:=pth) (i:=i) hk hvb ho (e4 _)).mono ?_
  grind
theorem Uw{n:Zf}(h:Ad (f+1) w u n):∀k∈fp (f+1) n,k∈Z4 n \/ ∃d∈AH n,k∈fp f d:=by
 obtain⟨b,g,x,rfl,hv,h⟩:=h;rcases h with⟨j,_,_,rfl,h⟩|⟨n,_,rfl,h,q0⟩|⟨s,_,rfl,h⟩|⟨al,sl,ps,rfl,_⟩|⟨es,n,D,rfl,_⟩
 ·intro k hk;exact D2 hk
 ·intro k hk;exact D2 hk
 ·intro k hk;exact D2 hk
 ·grind [AN,E7,BO]
 ·intro k hk;rw[Bi] at hk;rw[E6,Bx]
  grind
theorem AR.apart(hf:AR m i key c)(hn:(fp (f+1) m).Nodup):(∀d∈AH (B6 i key m),∀k∈fp f d,k ∉ fp f c)/\(∀k∈fp f c,k∈fp (f+1) m)/\(fp f c).Nodup/\c∈AH m:=by
 rcases hf with⟨b,g,al,rfl,h⟩|⟨b,g,es,rfl,h,hs⟩
 ·obtain⟨p1,_⟩:=EO hn;have q:=EK (fp f) (FE h);rw[DD] at q;obtain⟨n1,_,n3⟩:=D0.1 (q.nodup_iff.1 p1);refine⟨fun d hd k hk q0=>n3 k q0 k (AS.2 ⟨d,hd,hk⟩) rfl,fun k hk=>?_,n1,?_⟩
  ·rw[AN];exact A1 _ (CH _ (q.mem_iff.2 (List.mem_append_left _ hk)))
  ·rw[BO];grind
 ·obtain⟨p1,_⟩:=Hn hn;have q:=(Ro hs h).flatMap_right (fun p=>fp f p.2);rw[DD] at q;obtain⟨n1,_,n3⟩:=D0.1 (q.nodup_iff.1 p1);refine⟨fun d hd k hk q0=>?_,fun k hk=>?_,n1,?_⟩
  ·obtain⟨p,hp,rfl⟩:=D3.1 (show d∈(ZF (.string key) es).map Ft from hd)
   grind
  ·rw[Bi]
   grind
  ·rw[Bx];grind
theorem AR.kids_set{x:Zf}(hf:AR m i key c):∀d∈AH (Br i key x m),d=x\/d∈AH (B6 i key m):=by
 intro d hd;rcases hf with⟨b,g,al,rfl,h⟩|⟨b,g,es,rfl,h,hs⟩
 ·have q0:d∈al.set i x:=hd;have:=(K8 x h).mem_iff.1 q0;exact (AT.1 this).imp id id
 ·obtain⟨p,hp,rfl⟩:=D3.1 (show d∈(Zr (.string key) x es).map Ft from hd);rcases AT.1 ((C4 (.string key) x es).mem_iff.1 hp) with rfl|hp
  ·grind
  ·exact C2 (show p.2∈(ZF (.string key) es).map Ft from (by grind))
theorem KZ{p:List Nat}{w':AI}{n2:Zf}(hs:Zo p T=some m)(hN:(fp (f+1+p.length) T).Nodup)(hm:Ad (f+1) w u m)(h2:Ad (f+1) w' u n2)(hc:c∈AH m)(q5:∀k∈fp f c,k∈fp (f+1) m)(ho:∀k∈Z4 n2,k∈Z4 m\/w.heap.size<=k)(hk:∀d∈AH n2,∀k∈fp f d,k ∉ fp f c):∀k∈fp (f+1+p.length) (Zs p n2 T),k ∉ fp f c:=by
 intro k q4 q0;obtain⟨rest,q1,q2⟩:=Gi (f:=f+1) hs;rcases D1.1 ((q2 n2).mem_iff.1 q4) with h|h
 ·grind
 ·rcases Uw h2 k h with h|⟨d,hd,h⟩
  ·rcases ho k h with h|h
   ·exact Kq hm (by grind) hc k h q0
   ·have:=hm.lt k (q5 k q0);omega
  grind
end Go.Proofs.YtdpomdelmdofmaaGreatDoor
