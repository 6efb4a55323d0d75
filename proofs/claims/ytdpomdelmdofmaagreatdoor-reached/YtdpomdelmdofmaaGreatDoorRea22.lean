import Derived.Test.YtdpomdelmdofmaaGreatDoorRea21
import Derived.RangeFuncOwn
open Go renaming heap_alloc_new->AI,World->AS,Value->BY,Calls->CR,bodyPost_end->Dp,results_none->Dt
open Or renaming inr->AT,inl->A4
open List renaming mem_flatMap->A1,mem_cons->A5,mem_cons_of_mem->A6,mem_append_right->CL,flatMap_cons->DD,nodup_append->D0,mem_append->D1,mem_map->E0
open Go.Proofs.Tryz renaming prog->A2
open Go.RowKit.Below renaming heap_alloc->A3,refl->D3
open Nat renaming le_trans->Bs,le_refl->C1,lt_of_lt_of_le->C2
open Go.RowKit renaming Below->CD
open Array renaming getElem?_eq_some_iff->CH
open Go.Value renaming ownBlock->D2
open Prod renaming snd->Ft
namespace Go.Proofs.YtdpomdelmdofmaaGreatDoor
open Go.Proofs.Tryz Go.RowKit Go.Maps
variable{u:BY}
abbrev plW(w:AS)(pa:Option Addr)(pl pc b:Nat)(key:By)(i:Nat):AS:=w.alloc (.cells #[.slice pa pl pc,.pointer (some ⟨b,0,none⟩),.string ⟨key.toArray⟩,.int .i64 i] 185)
abbrev xW(w:AS)(y:Option Addr):AS:=w.alloc (.cells #[.pointer y] 80)
section
variable{w:AS}{D b i n:Nat}{rv jn iv:BY}{ch:Bool}{key:By}{pa x y:Option Addr}{pl pc:Nat}{xs:List BY}
theorem P4{Q:AS->Prop}(hn:n<=1000000000)(q4:jn.ownBlock≠some D)(hC:CR A2 249 #[plV (.slice pa pl pc) b key i,.pointer x] (plW w pa pl pc b key i) fun e w'=>e=.returned (.tuple #[])/\Q w')(hQ:∀w2,Q w2->AL w2 w.heap.size (.slice pa pl pc) b key i/\DB w2 D rv jn ch iv/\w2.ownsRow 0 230 5 jn n xs):
  CR A2 205 #[.pointer (some ⟨D,0,none⟩),plV (.slice pa pl pc) b key i,.pointer x] w fun e w3=>
   ∃w2,Q w2/\Fh D rv jn iv ch n xs [F8 (252,#[.pointer (some ⟨w.heap.size,0,none⟩)]),.int .i64 1,.slice pa pl pc,.slice none 0 0,.pointer none] w2 e w3:=by
 have HC:=Ab hC;have HQ:=Ab hQ;have q5:=Ab q4;have q0:=AI w (.cells #[.slice pa pl pc,.pointer (some ⟨b,0,none⟩),.string ⟨key.toArray⟩,.int .i64 i] 185);have HP:=Ab (show AL (plW w pa pl pc b key i) w.heap.size (.slice pa pl pc) b key i from q0);clear hC hQ q4 q0
 go_enter func205,ntmps205
 go_wp2_with (fail);refine (Aa HC).mono ?_
 rintro e w2 ⟨rfl,hq⟩;obtain⟨g1,g2,g3⟩:=Aa HQ w2 hq;have e0:=g1.c0;have G2:=Ab g2;have G3:=Ab g3;have q6:=Ab hq;clear g1 g2 g3 hq
 go_wp2_with (fail);refine (J8 (c:=(252,#[.pointer (some ⟨w.heap.size,0,none⟩)])) (Aa G2) (Aa G3) hn (Aa q5)).mono ?_
 intro e w3 hL;obtain⟨rfl,q7⟩:=id hL;have HL:=Ab hL;clear hL q7
 go_wp2_with (fail);exact Dp (Dt rfl _ _ _) rfl ⟨w2,Aa q6,Aa HL⟩
theorem PX{Q:AS->AS->Prop}(hn:n<=1000000000)(q6:jn.ownBlock≠some D)(hG:CR A2 159 #[plV (.slice pa pl pc) b key i] (plW w pa pl pc b key i) fun e w'=>e=.returned (.pointer y)/\CD (w.heap.size+1) (plW w pa pl pc b key i) w')(hC:∀w2,CD (w.heap.size+1) (plW w pa pl pc b key i) w2->CR A2 246 #[plV (.slice pa pl pc) b key i] (xW w2 y) fun e w'=>e=.returned (.tuple #[])/\Q w2 w')(hQ:∀w2 w3,CD (w.heap.size+1) (plW w pa pl pc b key i) w2->Q w2 w3->AL w3 w.heap.size (.slice pa pl pc) b key i/\GB w3 w2.heap.size y/\DB w3 D rv jn ch iv/\w3.ownsRow 0 230 5 jn n xs):
  CR A2 199 #[.pointer (some ⟨D,0,none⟩),plV (.slice pa pl pc) b key i] w fun e w4=>
   ∃w2 w3,CD (w.heap.size+1) (plW w pa pl pc b key i) w2/\Q w2 w3/\Fh D rv jn iv ch n xs [F8 (248,#[.pointer (some ⟨w.heap.size,0,none⟩),.pointer (some ⟨w2.heap.size,0,none⟩)]),.int .i64 0,.slice pa pl pc,.slice none 0 0,.pointer y] w3 e w4:=by
 have HG:=Ab hG;have HC:=Ab hC;have HQ:=Ab hQ;have q7:=Ab q6;have q5:=AI w (.cells #[.slice pa pl pc,.pointer (some ⟨b,0,none⟩),.string ⟨key.toArray⟩,.int .i64 i] 185);have HP:=Ab (show AL (plW w pa pl pc b key i) w.heap.size (.slice pa pl pc) b key i from q5);clear hG hC hQ q6 q5
 go_enter func199,ntmps199
 go_wp2_with (fail);refine (Aa HG).mono ?_
 rintro e w2 ⟨rfl,hb⟩;have q4:AL w2 w.heap.size (.slice pa pl pc) b key i:=(hb.block _ (by omega)).trans (Aa HP);have hlt:w.heap.size<w2.heap.size:=(CH.1 q4).1;have q0:AL (xW w2 y) w.heap.size (.slice pa pl pc) b key i:=(A3 w2 _ _ hlt).trans q4;have e0:=q0.c0;have e1:=q0.c1;have e2:=q0.c2;have e3:=q0.c3;have HB:=Ab hb;clear hb q4 q0
 go_wp2_with (fail);refine (Aa HC w2 (Aa HB)).mono ?_
 rintro e w3 ⟨rfl,hq⟩;obtain⟨g0,g1,g2,g3⟩:=Aa HQ w2 w3 (Aa HB) hq;clear e0 e1 e2 e3;have e0:=g0.c0;have e4:=g1.c0;have G2:=Ab g2;have G3:=Ab g3;have q8:=Ab hq;clear g0 g1 g2 g3 hq
 go_wp2_with (fail);refine (J8 (c:=(248,#[.pointer (some ⟨w.heap.size,0,none⟩),.pointer (some ⟨w2.heap.size,0,none⟩)])) (Aa G2) (Aa G3) hn (Aa q7)).mono ?_
 intro e w4 hL;obtain⟨rfl,q9⟩:=id hL;have HL:=Ab hL;clear hL q9
 go_wp2_with (fail);exact Dp (Dt rfl _ _ _) rfl ⟨w2,w3,Aa HB,Aa q8,Aa HL⟩
theorem U4{Q:AS->AS->Prop}(hn:n<=1000000000)(q6:jn.ownBlock≠some D)(hG:CR A2 159 #[plV (.slice pa pl pc) b key i] (plW w pa pl pc b key i) fun e w'=>e=.returned (.pointer y)/\CD (w.heap.size+1) (plW w pa pl pc b key i) w')(hC:∀w2,CD (w.heap.size+1) (plW w pa pl pc b key i) w2->CR A2 250 #[plV (.slice pa pl pc) b key i,.pointer x] (xW w2 y) fun e w'=>e=.returned (.tuple #[])/\Q w2 w')(hQ:∀w2 w3,CD (w.heap.size+1) (plW w pa pl pc b key i) w2->Q w2 w3->AL w3 w.heap.size (.slice pa pl pc) b key i/\GB w3 w2.heap.size y/\DB w3 D rv jn ch iv/\w3.ownsRow 0 230 5 jn n xs):
  CR A2 200 #[.pointer (some ⟨D,0,none⟩),plV (.slice pa pl pc) b key i,.pointer x] w fun e w4=>
   ∃w2 w3,CD (w.heap.size+1) (plW w pa pl pc b key i) w2/\Q w2 w3/\Fh D rv jn iv ch n xs [F8 (251,#[.pointer (some ⟨w.heap.size,0,none⟩),.pointer (some ⟨w2.heap.size,0,none⟩)]),.int .i64 2,.slice pa pl pc,.slice none 0 0,.pointer y] w3 e w4:=by
 have HG:=Ab hG;have HC:=Ab hC;have HQ:=Ab hQ;have q7:=Ab q6;have q5:=AI w (.cells #[.slice pa pl pc,.pointer (some ⟨b,0,none⟩),.string ⟨key.toArray⟩,.int .i64 i] 185);have HP:=Ab (show AL (plW w pa pl pc b key i) w.heap.size (.slice pa pl pc) b key i from q5);clear hG hC hQ q6 q5
 go_enter func200,ntmps200
 go_wp2_with (fail);refine (Aa HG).mono ?_
 rintro e w2 ⟨rfl,hb⟩;have q4:AL w2 w.heap.size (.slice pa pl pc) b key i:=(hb.block _ (by omega)).trans (Aa HP);have hlt:w.heap.size<w2.heap.size:=(CH.1 q4).1;have q0:AL (xW w2 y) w.heap.size (.slice pa pl pc) b key i:=(A3 w2 _ _ hlt).trans q4;have e0:=q0.c0;have e1:=q0.c1;have e2:=q0.c2;have e3:=q0.c3;have HB:=Ab hb;clear hb q4 q0
 go_wp2_with (fail);refine (Aa HC w2 (Aa HB)).mono ?_
 rintro e w3 ⟨rfl,hq⟩;obtain⟨g0,g1,g2,g3⟩:=Aa HQ w2 w3 (Aa HB) hq;clear e0 e1 e2 e3;have e0:=g0.c0;have e4:=g1.c0;have G2:=Ab g2;have G3:=Ab g3;have q8:=Ab hq;clear g0 g1 g2 g3 hq
 go_wp2_with (fail);refine (J8 (c:=(251,#[.pointer (some ⟨w.heap.size,0,none⟩),.pointer (some ⟨w2.heap.size,0,none⟩)])) (Aa G2) (Aa G3) hn (Aa q7)).mono ?_
 intro e w4 hL;obtain⟨rfl,q9⟩:=id hL;have HL:=Ab hL;clear hL q9
 go_wp2_with (fail);exact Dp (Dt rfl _ _ _) rfl ⟨w2,w3,Aa HB,Aa q8,Aa HL⟩
end
def iT:Nat->dS->List Nat
 | 0,_=>[]
 | f+1,a=>match a with
  | .agg [.lit (.int _ _),.lit (.int _ g),x]=>(match x with
   | .slice al _=>al.flatMap (iT f)
   | .map es=>g.toNat::es.flatMap (fun p=>iT f p.2)
   | _=>[])
  | _=>[]
theorem YK(f b g:Nat)(al:List dS):iT (f+1) (dW b g (.slice al []))=al.flatMap (iT f):=rfl
theorem YJ(f b g:Nat)(es:List (Lit×dS)):iT (f+1) (dW b g (.map es))=g::es.flatMap (fun p=>iT f p.2):=rfl
theorem Ad.maps{w:AS}:∀ {f:Nat} {v:BY} {a:dS},Ad f w v a->(∀k∈iT f a,k∈fp f a) /\ ∀k∈fp f a,k∈iT f a \/ ∃o,w.heap[k]? = some o/\o.isCells=true
 | 0,_,_,h=>h.elim
 | f+1,v,a,h=>by
  obtain⟨b,g,x,rfl,hv,h⟩:=h;rcases h with⟨j,_,_,rfl,h⟩|⟨n,_,rfl,h,_⟩|⟨s,_,rfl,h⟩|⟨al,sl,ps,rfl,h,ho,hs,ha⟩|⟨es,n,D,rfl,h,ho,hp⟩
  ·refine⟨fun k hk=>(by cases hk),fun k hk=>AT ?_⟩;rw[EL] at hk;obtain rfl:k=b:=by grind
   exact⟨_,h,rfl⟩
  ·refine⟨fun k hk=>(by cases hk),fun k hk=>AT ?_⟩;rw[FY] at hk;obtain rfl:k=b:=by grind
   exact⟨_,h,rfl⟩
  ·refine⟨fun k hk=>(by cases hk),fun k hk=>AT ?_⟩;rw[FX] at hk;obtain rfl:k=b:=by grind
   exact⟨_,h,rfl⟩
  ·rw[AP,YK];refine⟨fun k hk=>?_,fun k hk=>?_⟩
   ·obtain⟨c,hc,q0⟩:=A1.1 hk;obtain⟨u,hu⟩:=ha.right hc;exact A6 _ (CL _ (A1.2 ⟨c,hc,(Ad.maps hu).1 k q0⟩))
   ·rcases A5.1 hk with rfl|hk
    ·exact AT ⟨_,h,rfl⟩
    ·rcases D1.1 hk with hk|hk
     ·split at hk
      ·cases hk
      ·rename_i h0;obtain rfl:k=g:=by grind
       rw[if_neg h0] at hs;rcases ho.2 with⟨h1,_⟩|⟨g',cap,cur,h1,_,h3,_⟩
       ·rw[h1] at hs;cases hs
       ·rw[h1] at hs;injection hs with hs;subst hs;exact AT ⟨_,h3,rfl⟩
     ·obtain⟨c,hc,q0⟩:=A1.1 hk;obtain⟨u,hu⟩:=ha.right hc;exact ((Ad.maps hu).2 k q0).imp (by grind) id
  ·rw[Bo,YJ];refine⟨fun k hk=>?_,fun k hk=>?_⟩
   ·rcases A5.1 hk with rfl|hk
    ·simp
    ·obtain⟨p,q4,q0⟩:=A1.1 hk;obtain⟨u,hu⟩:=hp.right q4;exact A6 _ (A6 _ (A1.2 ⟨p,q4,(Ad.maps hu).1 k q0⟩))
   ·rcases A5.1 hk with rfl|hk
    ·exact AT ⟨_,h,rfl⟩
    ·rcases A5.1 hk with rfl|hk
     ·grind
     ·obtain⟨p,q4,q0⟩:=A1.1 hk;obtain⟨u,hu⟩:=hp.right q4;exact ((Ad.maps hu).2 k q0).imp (by grind) id
theorem BP.less{L:Nat}{v:BY}{T:dS}{M M' N:Nat->Prop}{wk w:AS}(h:BP L v T M' N wk w)(hM:∀k,M k->M' k):BP L v T M N wk w:=by
 obtain⟨T',e,h1,h2,h3⟩:=h.tree;exact⟨by grind,fun k hm=>h.held k (hM k hm),fun k hm=>h.low k (hM k hm)⟩
def Und(L:Nat)(B:Nat)(v:BY)(Tb:dS)(Mb:Nat->Prop)(wb:AS):List Clo->dS->(Nat->Prop)->AS->Prop
 | [],T,M,wk=>∀N w,BP L v T M N wk w->BP L v Tb Mb N wb w
 | c::r,T,M,wk=>∃T0 M0 wk0,Und L B v Tb Mb wb r T0 M0 wk0/\Kg L v c.1 c.2 T0 T M0 M wk0 wk/\(∀k,M0 k->M k)/\(∀k∈iT L T0,k<B)/\Ent c.1
theorem Und.up{L B B':Nat}{v:BY}{Tb:dS}{Mb:Nat->Prop}{wb:AS}(hB:B<=B'):∀ {cs:List Clo} {T:dS} {M:Nat->Prop} {wk:AS},Und L B v Tb Mb wb cs T M wk->Und L B' v Tb Mb wb cs T M wk
 | [],_,_,_,h=>h
 | _::_,_,_,_,⟨T0,M0,wk0,h1,h2,h3,h4,h5⟩=>⟨T0,M0,wk0,Und.up hB h1,h2,h3,fun k hk=>C2 (h4 k hk) hB,h5⟩
theorem Und.shift{L B:Nat}{v:BY}{Tb T T2:dS}{Mb M M2:Nat->Prop}{wb wk q0:AS}{cs:List Clo}(h:Und L B v Tb Mb wb cs T M wk)(hT:er L T2=er L T)(hM:∀k,M k->M2 k/\q0.heap[k]? = wk.heap[k]?):Und L B v Tb Mb wb cs T2 M2 q0:=by
 have key:∀N w,BP L v T2 M2 N q0 w->BP L v T M N wk w:=fun N w hA=>(hA.less fun k hk=>(hM k hk).1).shift hT.symm (by grind);cases cs with
 | nil=>exact fun N w hA=>h N w (key N w hA)
 | cons c r=>
  obtain⟨T0,M0,wk0,h1,h2,h3,h4,h5⟩:=h;exact⟨T0,M0,wk0,h1,fun N w hN hA=>h2 N w (by grind) (key N w hA),by grind,h4,h5⟩
def Jrn(w:AS)(G:Nat->Prop):List BY->List Clo->List dX->Prop
 | [],[],[]=>True
 | cv::kv::pv::fv::vv::r,c::s,o::t=>cv=F8 c/\Fp w G kv pv fv vv o/\Jrn w G r s t
 | _,_,_=>False
theorem Jrn.move{w w':AS}{G G':Nat->Prop}(hk:∀k,G k->k<w.heap.size->w'.heap[k]? = w.heap[k]? /\ G' k):∀ {xs:List BY} {cs:List Clo} {js:List dX},Jrn w G xs cs js->Jrn w' G' xs cs js
 | [],[],[],_=>trivial
 | _::_::_::_::_::_,_::_,_::_,⟨e,a,b⟩=>⟨e,a.move hk,Jrn.move hk b⟩
theorem Jrn.snoc{w:AS}{G:Nat->Prop}{cv kv pv fv vv:BY}{c:Clo}{o:dX}(hc:cv=F8 c)(ho:Fp w G kv pv fv vv o):∀ {xs:List BY} {cs:List Clo} {js:List dX},Jrn w G xs cs js->Jrn w G (xs++[cv,kv,pv,fv,vv]) (cs++[c]) (js++[o])
 | [],[],[],_=>⟨hc,ho,trivial⟩
 | _::_::_::_::_::_,_::_,_::_,⟨e,a,b⟩=>⟨e,a,Jrn.snoc hc ho b⟩
def GA(L:Nat)(Tb:dS)(wb:AS)(M:Nat->Prop)(k:Nat):Prop:=M k/\(wb.heap.size<=k\/k∈fp L Tb)
structure Bv(L:Nat)(w:AS)(D:Nat)(rv jn iv:BY)(ch:Bool)(Tb:dS)(Mb:Nat->Prop)(wb:AS)(T:dS)(M:Nat->Prop)(js:List dX):Prop where
 ex:∃xs cs,DB w D rv jn ch iv/\w.ownsRow 0 230 5 jn js.length xs/\Jrn w (GA L Tb wb M) xs cs js/\Und L w.heap.size rv Tb Mb wb cs.reverse T M w
 jD:jn.ownBlock≠some D
 jM:∀g,jn.ownBlock=some g -> ¬ M g/\g ∉ fp L T
 tr:Ad L w rv T
 nd:(fp L T).Nodup
 dD:D ∉ fp L T /\ ¬ M D
 low:∀k,M k->k<w.heap.size/\k ∉ fp L T
 up:wb.heap.size<=w.heap.size /\ ∀k∈fp L T,wb.heap.size<=k\/k∈fp L Tb
structure JEx(M M':Nat->Prop)(w w':AS):Prop where
 os:w'.os=w.os
 tape:w'.tape=w.tape
 output:w'.output=w.output
 size:w.heap.size<=w'.heap.size
 kept:∀k,M k->M' k/\w'.heap[k]? = w.heap[k]?
theorem JEx.refl(M:Nat->Prop)(w:AS):JEx M M w w:=⟨rfl,rfl,rfl,C1 _,fun _ h=>⟨h,rfl⟩⟩
theorem JEx.trans{M M1 M2:Nat->Prop}{w w1 w2:AS}(h:JEx M M1 w w1)(k:JEx M1 M2 w1 w2):JEx M M2 w w2:=
 ⟨k.os.trans h.os,k.tape.trans h.tape,k.output.trans h.output,Bs h.size k.size,fun j hj=>⟨(k.kept j (h.kept j hj).1).1,(k.kept j (h.kept j hj).1).2.trans (h.kept j hj).2⟩⟩
section
variable{L:Nat}{w:AS}{D:Nat}{rv jn iv:BY}{ch:Bool}{Tb T:dS}{Mb M:Nat->Prop}{wb:AS}{js:List dX}
theorem Bv.jlt(h:Bv L w D rv jn iv ch Tb Mb wb T M js):∀g,jn.ownBlock=some g->g<w.heap.size:=by
 obtain⟨xs,cs,_,h2,_⟩:=h.ex;exact fun g hg=>(AA h2 g hg).1
theorem Bv.dlt(h:Bv L w D rv jn iv ch Tb Mb wb T M js):D<w.heap.size:=by
 obtain⟨xs,cs,h1,_⟩:=h.ex;exact h1.lt
theorem Bv.grow{w':AS}(h:Bv L w D rv jn iv ch Tb Mb wb T M js)(hb:CD w.heap.size w w')(X:Nat->Prop)(hX:∀k,X k->w.heap.size<=k/\k<w'.heap.size):
  Bv L w' D rv jn iv ch Tb Mb wb T (fun k=>M k\/X k) js/\JEx M (fun k=>M k\/X k) w w':=by
 obtain⟨xs,cs,h1,h2,h3,h4⟩:=h.ex;have q0:=h.jlt;have hlt:=h.tr.lt;have hM:∀k,M k->(M k\/X k)/\w'.heap[k]? = w.heap[k]?:=fun k hk=>⟨A4 hk,hb.block k (h.low k hk).1⟩
 refine⟨⟨⟨xs,cs,h1.kept (hb.block D h1.lt),AC h2 fun g hg=>hb.block g (q0 g hg),h3.move fun k hk hl=>⟨(hM k hk.1).2,(hM k hk.1).1,hk.2⟩,(h4.shift rfl hM).up hb.size⟩,h.jD,fun g hg=>⟨fun hm=>hm.elim (h.jM g hg).1 (by grind),(h.jM g hg).2⟩,h.tr.bel hb,h.nd,⟨h.dD.1,fun hm=>hm.elim h.dD.2 fun hx=>by have:=(hX D hx).1;have:=h1.lt;omega⟩,fun k hm=>?_,⟨Bs h.up.1 hb.size,h.up.2⟩⟩,⟨hb.os,hb.tape,hb.output,hb.size,hM⟩⟩;rcases hm with hm|hm
 ·exact⟨C2 (h.low k hm).1 hb.size,(h.low k hm).2⟩
 grind
theorem Bv.lay{w3 w4:AS}{T3 T1:dS}{M':Nat->Prop}{xs:List BY}{cs:List Clo}{c:Clo}{kv pv fv vv:BY}{o:dX}{e:Ending}(h:Bv L w D rv jn iv ch Tb Mb wb T M js)(hx:Jrn w (GA L Tb wb M) xs cs js)(hu:Und L w.heap.size rv Tb Mb wb cs.reverse T M w)(hk:Av (fun k=>k∈fp L T) w w3)(ht:Ad L w3 rv T3)(hn:(fp L T3).Nodup)(qd:D ∉ fp L T3)(qe:∀g,jn.ownBlock=some g->g ∉ fp L T3)(hM:∀k,M k->M' k)(q7:∀k,M' k->k<w3.heap.size/\k ∉ fp L T3/\k≠D/\jn.ownBlock≠some k)(he:Fh D rv jn iv ch js.length xs [F8 c,kv,pv,fv,vv] w3 e w4)(ho:Fp w3 (GA L Tb wb M') kv pv fv vv o)(hT:er L T3=er L T1)(hB:(∀k,M k->M' k/\w4.heap[k]? = w.heap[k]?)->(∀k,M' k->w4.heap[k]? = w3.heap[k]?)->Kg L rv c.1 c.2 T T1 M M' w w4)(hin:Ent c.1)(q9:∀k∈fp L T3,wb.heap.size<=k\/k∈fp L Tb):
  e=.returned (.tuple #[]) /\ ∃qb,Bv L w4 D rv qb iv ch Tb Mb wb T3 M' (js++[o])/\JEx M M' w w4:=by
 obtain⟨rfl,g,cap,g1,g2,g3,g4⟩:=he;have q6:=ht.lt;have q0:∀k,M' k->w4.heap[k]? = w3.heap[k]?:=fun k hm=>g4.block k (q7 k hm).1 (by grind);have q4:∀k,M k->M' k/\w4.heap[k]? = w.heap[k]?:=fun k hm=>⟨hM k hm,(q0 k (hM k hm)).trans (hk.block k (h.low k hm).1 (h.low k hm).2)⟩
 have hgx:¬ M' g/\g ∉ fp L T3:=by
  grind
 have q8:g≠D:=by
  rcases g3 with h'|h'
  ·exact fun e=>h.jD (by rw[h',e])
  ·have:=h.dlt;have:=hk.size;omega
 refine⟨rfl,_,⟨⟨xs++[F8 c,kv,pv,fv,vv],cs++[c],g1,by grind,Jrn.snoc rfl (ho.move fun k hm _=>⟨q0 k hm.1,hm⟩) (hx.move fun k hm _=>⟨(q4 k hm.1).2,hM k hm.1,hm.2⟩),?_⟩,?_,?_,ht.move fun k q5=>g4.block k (q6 k q5) (by grind),hn,by grind,by grind,⟨Bs h.up.1 (Bs hk.size g4.size),q9⟩⟩,⟨g4.os.trans hk.os,g4.tape.trans hk.tape,g4.output.trans hk.output,Bs hk.size g4.size,q4⟩⟩
 ·rw[List.reverse_append];exact Und.shift (T:=T1) (M:=M') (wk:=w4) (cs:=c::cs.reverse) ⟨T,M,w,hu.up (Bs hk.size g4.size),hB q4 q0,hM,fun k q5=>by have:=h.tr.lt k (h.tr.maps.1 k q5);have:=hk.size;have:=g4.size;omega,hin⟩ hT fun k hm=>⟨hm,rfl⟩
 ·simpa[D2] using q8
 grind [fp,D2,er]
end
theorem L8{c:dS}{k:By}:∀ {es:List (Lit×dS)},Az es->(Lit.string k,c)∈es->es.find? (fun p=>p.1.sameKey (.string k))=some (.string k,c)
 | [],_,h=>by cases h
 | y::r,⟨h1,h2⟩,h=>by
  obtain⟨h3,h4⟩:=List.pairwise_cons.1 h1;rcases A5.1 h with e|h
  ·subst e;exact Hp (p:=fun p=>p.1.sameKey (.string k)) (WideAt.sameKey_self (show WideAt.IsKeyLit (Lit.string k,c).1 from trivial))
  ·have hne:y.1 ≠ .string k:=fun e=>by
    have hb:=h3 _ h;rw[e] at hb;have h9:bytesBefore k k=true:=hb;rw[WideAt.bytes_irrefl] at h9;cases h9
   rw[Jq (p:=fun p=>p.1.sameKey (.string k)) (by show ¬ (y.1.sameKey (.string k)=true);rw[sameKey_ne hne];decide)];exact L8 ⟨h4,fun p hp=>h2 p (by simp[hp])⟩ h
theorem Xw{f b g:Nat}{w:AS}{al:List dS}(h:Ad (f+1) w u (dW b g (.slice al []))):∃sl ps,VB w b 5 n0 [] sl (.map none)/\w.ownsRow 0 80 1 sl ps.length ps/\Al (Ad f w) ps al:=by
 obtain⟨b2,g2,x2,e,hu,h⟩:=h;unfold dW at e;injection e with e;injection e with e1 e;injection e with e2 e;injection e with e3 _;injection e1 with e1;injection e1 with _ e1;injection e2 with e2;injection e2 with _ e2;obtain rfl:b=b2:=by omega
 rcases h with⟨j,_,_,rfl,_⟩|⟨n,_,rfl,_⟩|⟨s,_,rfl,_⟩|⟨q0,sl,ps,rfl,hvb,ho,hs,ha⟩|⟨es,n,D,rfl,hvb,ho,hp⟩
 ·cases e3
 ·cases e3
 ·cases e3
 ·grind
 ·cases e3
theorem Ea{f i:Nat}{w:AS}{pth:BY}{n c:dS}{key:By}(h:Ad (f+1) w u n)(hf:AV n i key c)(hk:key.length<=1048576):
  CR A2 159 #[plV pth (eK n) key i] w fun e w'=>(∃y,e=.returned y/\Ad f w y c)/\CD w.heap.size w w':=by
 rcases hf with⟨b,g,al,rfl,h1⟩|⟨b,g,es,rfl,h1,h2⟩
 ·obtain⟨sl,ps,hvb,ho,ha⟩:=Xw h;obtain⟨hi,e⟩:=List.getElem?_eq_some_iff.1 h1;have q0:i<ps.length:=by rw[ha.length];exact hi
  refine (Y3 (pth:=pth) (key:=key) hvb ho q0).mono ?_;rintro x w' ⟨rfl,hb⟩;exact⟨⟨_,rfl,e▸ha.get i q0 hi⟩,hb⟩
 ·obtain⟨_,D,hvb,ho,hp⟩:=D7 h;have hfd:=L8 h2 h1;have hh:Maps.has (.map D) (.string key)=true:=by
   rw[Pt.has _ hp];exact List.any_eq_true.2 (by grind)
  obtain⟨j,k2,c2,x,_,_,e3,e4,e5⟩:=Pt.first (.string key) hp hh
  rw[hfd] at e3;obtain rfl:c=c2:=by grind
  refine (QO (pth:=pth) (i:=i) hk hvb ho (e4 _)).mono ?_
  grind
theorem WO{f:Nat}{w:AS}{n:dS}(h:Ad (f+1) w u n):∀k∈fp (f+1) n,k∈gD n \/ ∃d∈AJ n,k∈fp f d:=by
 obtain⟨b,g,x,rfl,hv,h⟩:=h;rcases h with⟨j,_,_,rfl,h⟩|⟨n,_,rfl,h,q0⟩|⟨s,_,rfl,h⟩|⟨al,sl,ps,rfl,_⟩|⟨es,n,D,rfl,_⟩
 ·intro k hk;exact A4 hk
 ·intro k hk;exact A4 hk
 ·intro k hk;exact A4 hk
 ·grind [AP,FC,BW]
 ·intro k hk;rw[Bo] at hk;rw[FB,BH]
  grind
theorem AV.apart{f i:Nat}{m c:dS}{key:By}(hf:AV m i key c)(hn:(fp (f+1) m).Nodup):(∀d∈AJ (B9 i key m),∀k∈fp f d,k ∉ fp f c)/\(∀k∈fp f c,k∈fp (f+1) m)/\(fp f c).Nodup/\c∈AJ m:=by
 rcases hf with⟨b,g,al,rfl,h⟩|⟨b,g,es,rfl,h,hs⟩
 ·obtain⟨p1,_⟩:=Fg hn;have q:=Fb (fp f) (Gg h);rw[DD] at q;obtain⟨n1,_,n3⟩:=D0.1 (q.nodup_iff.1 p1);refine⟨fun d hd k hk q0=>n3 k q0 k (A1.2 ⟨d,hd,hk⟩) rfl,fun k hk=>?_,n1,?_⟩
  ·rw[AP];exact A6 _ (CL _ (q.mem_iff.2 (List.mem_append_left _ hk)))
  ·rw[BW];grind
 ·obtain⟨p1,_⟩:=IF hn;have q:=(TC hs h).flatMap_right (fun p=>fp f p.2);rw[DD] at q;obtain⟨n1,_,n3⟩:=D0.1 (q.nodup_iff.1 p1);refine⟨fun d hd k hk q0=>?_,fun k hk=>?_,n1,?_⟩
  ·obtain⟨p,hp,rfl⟩:=E0.1 (show d∈(eR (.string key) es).map Ft from hd)
   grind
  ·rw[Bo]
   grind
  ·rw[BH];grind
theorem AV.kids_set{i:Nat}{m c x:dS}{key:By}(hf:AV m i key c):∀d∈AJ (BM i key x m),d=x\/d∈AJ (B9 i key m):=by
 intro d hd;rcases hf with⟨b,g,al,rfl,h⟩|⟨b,g,es,rfl,h,hs⟩
 ·have q0:d∈al.set i x:=hd;have:=(Mn x h).mem_iff.1 q0;exact (A5.1 this).imp id id
 ·obtain⟨p,hp,rfl⟩:=E0.1 (show d∈(eE (.string key) x es).map Ft from hd);rcases A5.1 ((Dl (.string key) x es).mem_iff.1 hp) with rfl|hp
  ·grind
  ·exact AT (show p.2∈(eR (.string key) es).map Ft from (by grind))
theorem Mh{f:Nat}{p:List Nat}{w w':AS}{T m n2 c:dS}(hs:eD p T=some m)(hN:(fp (f+1+p.length) T).Nodup)(hm:Ad (f+1) w u m)(h2:Ad (f+1) w' u n2)(hc:c∈AJ m)(q4:∀k∈fp f c,k∈fp (f+1) m)(ho:∀k∈gD n2,k∈gD m\/w.heap.size<=k)(hk:∀d∈AJ n2,∀k∈fp f d,k ∉ fp f c):∀k∈fp (f+1+p.length) (eI p n2 T),k ∉ fp f c:=by
 intro k q5 q0;obtain⟨rest,q1,q2⟩:=GR (f:=f+1) hs;rcases D1.1 ((q2 n2).mem_iff.1 q5) with h|h
 ·grind
 ·rcases WO h2 k h with h|⟨d,hd,h⟩
  ·rcases ho k h with h|h
   ·exact LB hm (by grind) hc k h q0
   ·have:=hm.lt k (q4 k q0);omega
  grind
def BU(L:Nat)(D:Nat)(rv iv:BY)(ch:Bool)(Tb:dS)(Mb:Nat->Prop)(wb:AS)(T1:dS)(M:Nat->Prop)(js:List dX)(w w':AS):Prop:=
 ∃q0 T' M',er L T'=er L T1/\Bv L w' D rv q0 iv ch Tb Mb wb T' M' js/\JEx M M' w w'
theorem Ad.kidAt{f:Nat}{w:AS}{n c:dS}(h:Ad (f+1) w u n)(hc:c∈AJ n):∃y,Ad f w y c:=by
 obtain⟨j,hj,e⟩:=List.mem_iff_getElem.1 hc;exact Ad.at (f:=f) (p:=[j]) h (by rw[eD,List.getElem?_eq_getElem hj,e];rfl)
section
variable{f:Nat}{p:List Nat}{w:AS}{D i:Nat}{rv jn iv:BY}{ch:Bool}{Tb T m c x:dS}{Mb M:Nat->Prop}{wb:AS}{js:List dX}{key:By}{pa px py:Option Addr}{pl pc:Nat}{path:List By}
theorem KV(hJ:Bv (f+1+p.length) w D rv jn iv ch Tb Mb wb T M js)(hs:eD p T=some m)(hf:Ib m i key)(hr:B7 m key)(hl:js.length<=1000000000)(hp:Aw w (GA (f+1+p.length) Tb wb M) (.slice pa pl pc) path)(hc:Ad f w (.pointer px) c)(qd:(fp f c).Nodup)(q0:∀k∈fp f c,¬ M k/\k ∉ fp (f+1+p.length) T/\k≠D/\jn.ownBlock≠some k/\wb.heap.size<=k):
  CR A2 205 #[.pointer (some ⟨D,0,none⟩),plV (.slice pa pl pc) (eK m) key i,.pointer px] w fun e w'=>e=.returned (.tuple #[]) /\
   BU (f+1+p.length) D rv iv ch Tb Mb wb (eI p (B0 i key c m) T) M (js++[(1,path,.nil)]) w w':=by
 obtain⟨xs,cs,g1,g2,g3,g4⟩:=hJ.ex;obtain⟨u,hu⟩:=Ad.at (f:=f+1) hJ.tr hs;have q9:=g1.lt;have q5:=hJ.jlt;have q6:=hJ.tr.lt;have hcl:=hc.lt;have hb:CD w.heap.size w (plW w pa pl pc (eK m) key i):=(D3 _ _).alloc (C1 _) _;have qh:(plW w pa pl pc (eK m) key i).heap.size=w.heap.size+1:=by simp
 have q4:AL (plW w pa pl pc (eK m) key i) w.heap.size (.slice pa pl pc) (eK m) key i:=AI w _;have q7:∀k∈gD m,k∈fp (f+1+p.length) T:=fun k hk=>Dj hs k (ID hu k hk);have hZ:∀k∈fp f c,k<(plW w pa pl pc (eK m) key i).heap.size/\k ∉ fp (f+1+p.length) T:=fun k hk=>⟨by have:=hcl k hk;omega,(q0 k hk).2.1⟩
 refine (P4 (D:=D) (rv:=rv) (iv:=iv) (ch:=ch) (xs:=xs) (Q:=fun w2=>∃n2,(er (f+1) n2=er (f+1) (B0 i key c m)/\AJ n2=AJ (B0 i key c m) /\ ∀k∈gD n2,k∈gD m\/(plW w pa pl pc (eK m) key i).heap.size<=k)/\DM f (plW w pa pl pc (eK m) key i) w2 u m n2 (fun k=>k∈fp f c)) hl hJ.jD
  (JD (hu.bel hb) (BI (f:=f+1) hs hJ.nd) (hf.at (c:=c) hr).1 (hc.bel hb) qd (fun k hk hm=>(q0 k hk).2.1 (Dj hs k hm))) ?_).mono ?_
 ·rintro w2 ⟨n2,_,hE⟩;have hold:∀k,k<w.heap.size+1->k ∉ fp (f+1+p.length) T->w2.heap[k]? = (plW w pa pl pc (eK m) key i).heap[k]?:=fun k hk hn=>hE.kept.block k (by omega) (fun h=>hn (q7 k h));refine⟨(hold _ (by omega) (fun h=>by have:=q6 _ h;omega)).trans q4,g1.kept ((hold D (by omega) hJ.dD.1).trans (hb.block D q9)),AC g2 fun g hg=>(hold g (by have:=q5 g hg;omega) (hJ.jM g hg).2).trans (hb.block g (q5 g hg))⟩
 ·rintro e w4 ⟨w2,⟨n2,⟨e2,_,_⟩,hE⟩,hL⟩;obtain⟨t1,t2,t3,t4⟩:=KX (hJ.tr.bel hb) hs hJ.nd (hu.bel hb) hE hZ;have hsz:=t4.size;have q8:Av (fun k=>k∈fp (f+1+p.length) T) w w2:=(Av.of_below hb).trans (F':=fun k=>k∈fp (f+1+p.length) T) t4 fun k _ h=>h;have qf:AL w2 w.heap.size (.slice pa pl pc) (eK m) key i:=(t4.block _ (by omega) (fun h=>by have:=q6 _ h;omega)).trans q4;obtain⟨rfl,qg,qb,hX⟩:=hJ.lay (T1:=eI p (B0 i key c m) T) (M':=fun k=>M k\/k=w.heap.size) (o:=(1,path,.nil)) g3 g4 q8 t1 t2 (fun hm=>by
    rcases t3 D hm with h|h|h
    ·exact hJ.dD.1 h
    ·exact (q0 D h).2.2.1 rfl
    ·omega) (fun g hg hm=>by
    rcases t3 g hm with h|h|h
    ·exact (hJ.jM g hg).2 h
    ·exact (q0 g h).2.2.2.1 hg
    ·have:=q5 g hg;omega) (fun k hk=>A4 hk) (fun k hk=>by
    rcases hk with hk|rfl
    ·have h1:=hJ.low k hk;refine⟨by omega,fun hm=>?_,fun e=>hJ.dD.2 (e▸hk),fun e=>(hJ.jM k e).1 hk⟩;rcases t3 k hm with h|h|h
     ·exact h1.2 h
     ·exact (q0 k h).1 hk
     ·omega
    ·refine⟨by omega,fun hm=>?_,by omega,fun e=>by have:=q5 _ e;omega⟩;rcases t3 _ hm with h|h|h
     ·have:=q6 _ h;omega
     ·have:=hcl _ h;omega
     ·omega) hL ⟨rfl,show (1:Nat)<3 by decide,hp.move fun k hk qe=>⟨q8.block k qe (hJ.low k hk.1).2,A4 hk.1,hk.2⟩,rfl,A4 ⟨rfl,rfl⟩⟩ (by rw[BO p (f+1) n2 hs,e2,BO p (f+1) _ hs]) (fun h1 h2=>P6 hJ.tr hs hf hr ((h2 _ (AT rfl)).trans qf) (AT rfl) h1) Se (fun k hk=>by
    rcases t3 k hk with h|h|h
    ·exact hJ.up.2 k h
    ·exact A4 (q0 k h).2.2.2.2
    ·exact A4 (by have:=hJ.up.1;omega))
  exact⟨rfl,qg,_,_,by rw[BO p (f+1) n2 hs,e2,BO p (f+1) _ hs],qb,hX⟩
theorem Kr(hJ:Bv (f+1+p.length) w D rv jn iv ch Tb Mb wb T M js)(hs:eD p T=some m)(hf:AV m i key c)(hr:B7 m key)(hl:js.length<=1000000000)(hp:Aw w (GA (f+1+p.length) Tb wb M) (.slice pa pl pc) path)(qj:f<=top):
  CR A2 199 #[.pointer (some ⟨D,0,none⟩),plV (.slice pa pl pc) (eK m) key i] w fun e w'=>e=.returned (.tuple #[]) /\
   BU (f+1+p.length) D rv iv ch Tb Mb wb (eI p (B9 i key m) T) M (js++[(0,path,dV f c)]) w w' /\ ∀y,Ad f w y c->Ad f w' y c:=by
 obtain⟨xs,cs,g1,g2,g3,g4⟩:=hJ.ex;obtain⟨u,hu⟩:=Ad.at (f:=f+1) hJ.tr hs;obtain⟨a1,a2,a3,a4⟩:=hf.apart (BI (f:=f+1) hs hJ.nd);obtain⟨yv,hc⟩:=hu.kidAt a4;obtain⟨yb,rfl,_⟩:=hc.ptr;have qe:=g1.lt;have q5:=hJ.jlt;have q0:=hJ.tr.lt;have q4:∀k∈fp f c,k∈fp (f+1+p.length) T:=fun k hk=>Dj hs k (a2 k hk);have hb:CD w.heap.size w (plW w pa pl pc (eK m) key i):=(D3 _ _).alloc (C1 _) _;have qh:(plW w pa pl pc (eK m) key i).heap.size=w.heap.size+1:=by simp
 have q6:AL (plW w pa pl pc (eK m) key i) w.heap.size (.slice pa pl pc) (eK m) key i:=AI w _;have q9:∀k∈gD m,k∈fp (f+1+p.length) T:=fun k hk=>Dj hs k (ID hu k hk);have hV:∀w2,CD (w.heap.size+1) (plW w pa pl pc (eK m) key i) w2->CD w.heap.size w (xW w2 (some ⟨yb,0,none⟩)):=fun w2 h2=>by
  have h3:CD w.heap.size w w2:=⟨h2.os.trans hb.os,h2.tape.trans hb.tape,h2.output.trans hb.output,by have:=h2.size;omega,fun k hk=>(h2.block k (by omega)).trans (hb.block k hk)⟩
  exact h3.alloc (by have:=h2.size;omega) _
 have qb:∀w2,(xW w2 (some ⟨yb,0,none⟩)).heap.size=w2.heap.size+1:=fun w2=>by simp
 refine (PX (D:=D) (rv:=rv) (iv:=iv) (ch:=ch) (xs:=xs) (y:=some ⟨yb,0,none⟩) (Q:=fun w2 w3=>∃n2,(er (f+1) n2=er (f+1) (B9 i key m)/\AJ n2=AJ (B9 i key m) /\ ∀k∈gD n2,k∈gD m\/(xW w2 (some ⟨yb,0,none⟩)).heap.size<=k)/\DM f (xW w2 (some ⟨yb,0,none⟩)) w3 u m n2 (fun _=>False)) hl hJ.jD
  ((Ea (hu.bel hb) hf hr.2).mono ?_) (fun w2 hb2=>Jw (hu.bel (hV w2 hb2)) (BI (f:=f+1) hs hJ.nd) (hf.at hr).1) ?_).mono ?_
 ·rintro e w' ⟨⟨y,rfl,hy⟩,hb2⟩;obtain rfl:=hy.uniq hc;exact⟨rfl,qh▸hb2⟩
 ·rintro w2 w3 hb2 ⟨n2,_,hE⟩;have hs2:=hb2.size;have q7:=qb w2;have hold:∀k,k<w2.heap.size+1->k ∉ fp (f+1+p.length) T->w3.heap[k]? = (xW w2 (some ⟨yb,0,none⟩)).heap[k]?:=fun k hk hn=>hE.kept.block k (by omega) (fun h=>hn (q9 k h));refine⟨((hold _ (by omega) (fun h=>by have:=q0 _ h;omega)).trans (A3 w2 _ _ (by omega))).trans ((hb2.block _ (by omega)).trans q6),(hold _ (by omega) (fun h=>by have:=q0 _ h;omega)).trans (AI w2 _),g1.kept ((hold D (by omega) hJ.dD.1).trans ((hV w2 hb2).block D qe)),AC g2 fun g hg=>(hold g (by have:=q5 g hg;omega) (hJ.jM g hg).2).trans ((hV w2 hb2).block g (q5 g hg))⟩
 ·rintro e w4 ⟨w2,w3,hb2,⟨n2,⟨e2,e3,e4⟩,hE⟩,hL⟩;have hs2:=hb2.size;have q7:=qb w2;obtain⟨t1,t2,t3,t4⟩:=KX (hJ.tr.bel (hV w2 hb2)) hs hJ.nd (hu.bel (hV w2 hb2)) hE (fun k hk=>hk.elim);have hsz:=t4.size;have qd:Av (fun k=>k∈fp (f+1+p.length) T) w w3:=(Av.of_below (hV w2 hb2)).trans (F':=fun k=>k∈fp (f+1+p.length) T) t4 fun k _ h=>h;have qn:AL w3 w.heap.size (.slice pa pl pc) (eK m) key i:=((t4.block _ (by omega) (fun h=>by have:=q0 _ h;omega)).trans (A3 w2 _ _ (by omega))).trans ((hb2.block _ (by omega)).trans q6);have qo:GB w3 w2.heap.size (some ⟨yb,0,none⟩):=(t4.block _ (by omega) (fun h=>by have:=q0 _ h;omega)).trans (AI w2 _);have qg:∀k∈fp (f+1+p.length) (eI p n2 T),k ∉ fp f c:=Mh hs hJ.nd (hu.bel (hV w2 hb2)) hE.tr a4 a2 e4 (fun d hd k hk=>a1 d (e3▸hd) k hk);have q8:Ad f w3 (.pointer (some ⟨yb,0,none⟩)) c:=(hc.bel (hV w2 hb2)).move fun k hk=>hE.kept.block k (by have:=q0 k (q4 k hk);omega) (fun ho=>LB hu (BI (f:=f+1) hs hJ.nd) a4 k ho hk);obtain⟨r1,r2,r3⟩:=q8.up qj;obtain⟨_,_,_,_,_,_,qk⟩:=id hL;have qi:Ad f w4 (.pointer (some ⟨yb,0,none⟩)) c:=q8.move fun k hk=>qk.block k (by have:=q0 k (q4 k hk);omega) (fun h=>h.elim (fun e=>hJ.dD.1 (e▸q4 k hk)) fun e=>(hJ.jM k e).2 (q4 k hk));obtain⟨rfl,qp,qf,hX⟩:=hJ.lay (T1:=eI p (B9 i key m) T) (M':=fun k=>M k\/k=w.heap.size\/k=w2.heap.size\/k∈fp f c) (o:=(0,path,dV f c)) g3 g4 qd t1 t2 (fun hm=>by
    rcases t3 D hm with h|h|h
    ·exact hJ.dD.1 h
    ·exact h
    ·omega) (fun g hg hm=>by
    rcases t3 g hm with h|h|h
    ·exact (hJ.jM g hg).2 h
    ·exact h.elim
    ·have:=q5 g hg;omega) (fun k hk=>A4 hk) (fun k hk=>by
    rcases hk with hk|rfl|rfl|hk
    ·have h1:=hJ.low k hk;refine⟨by omega,fun hm=>?_,fun e=>hJ.dD.2 (e▸hk),fun e=>(hJ.jM k e).1 hk⟩;rcases t3 k hm with h|h|h
     ·exact h1.2 h
     ·exact h
     ·omega
    ·refine⟨by omega,fun hm=>?_,by omega,fun e=>by have:=q5 _ e;omega⟩;rcases t3 _ hm with h|h|h
     ·have:=q0 _ h;omega
     ·exact h.elim
     ·omega
    ·refine⟨by omega,fun hm=>?_,by omega,fun e=>by have:=q5 _ e;omega⟩;rcases t3 _ hm with h|h|h
     ·have:=q0 _ h;omega
     ·exact h.elim
     ·omega
    ·refine⟨by have:=q0 k (q4 k hk);omega,fun hm=>qg k hm hk,fun e=>hJ.dD.1 (e▸q4 k hk),fun e=>(hJ.jM k e).2 (q4 k hk)⟩) hL ⟨rfl,show (0:Nat)<3 by decide,hp.move fun k hk qm=>⟨qd.block k qm (hJ.low k hk.1).2,A4 hk.1,hk.2⟩,rfl,AT ⟨show (0:Nat)≠1 by decide,r3▸r1.rep fun k hk=>⟨AT (AT (AT (r2▸hk))),hJ.up.2 k (q4 k (r2▸hk))⟩⟩⟩ (by rw[BO p (f+1) n2 hs,e2,BO p (f+1) _ hs])
    (fun h1 h2=>P5 hJ.tr hs hf hr ((h2 _ (AT (A4 rfl))).trans qn) (AT (A4 rfl)) ((h2 _ (AT (AT (A4 rfl)))).trans qo) (AT (AT (A4 rfl))) (q8.move fun k hk=>h2 k (AT (AT (AT hk)))) a3 (fun k hk=>⟨AT (AT (AT hk)),fun hm=>(hJ.low k hm).2 (q4 k hk)⟩) h1) Sd (fun k hk=>by
    rcases t3 k hk with h|h|h
    ·exact hJ.up.2 k h
    ·exact h.elim
    ·exact A4 (by have:=hJ.up.1;omega))
  refine⟨rfl,⟨qp,_,_,by rw[BO p (f+1) n2 hs,e2,BO p (f+1) _ hs],qf,hX⟩,fun y hy=>?_⟩;obtain rfl:=hy.uniq hc;exact qi
theorem NR(hJ:Bv (f+1+p.length) w D rv jn iv ch Tb Mb wb T M js)(hs:eD p T=some m)(hf:AV m i key c)(hr:B7 m key)(hl:js.length<=1000000000)(hp:Aw w (GA (f+1+p.length) Tb wb M) (.slice pa pl pc) path)(qg:f<=top)(hx:Ad f w (.pointer px) x)(qm:(fp f x).Nodup)(q9:∀k∈fp f x,¬ M k/\k ∉ fp (f+1+p.length) T/\k≠D/\jn.ownBlock≠some k/\wb.heap.size<=k):
  CR A2 200 #[.pointer (some ⟨D,0,none⟩),plV (.slice pa pl pc) (eK m) key i,.pointer px] w fun e w'=>e=.returned (.tuple #[]) /\
   BU (f+1+p.length) D rv iv ch Tb Mb wb (eI p (BM i key x m) T) M (js++[(2,path,dV f c)]) w w':=by
 obtain⟨xs,cs,g1,g2,g3,g4⟩:=hJ.ex;obtain⟨u,hu⟩:=Ad.at (f:=f+1) hJ.tr hs;obtain⟨a1,a2,a3,a4⟩:=hf.apart (BI (f:=f+1) hs hJ.nd);obtain⟨yv,hc⟩:=hu.kidAt a4;obtain⟨yb,rfl,_⟩:=hc.ptr;have qd:=g1.lt;have qh:=hJ.jlt;have qo:=hJ.tr.lt;have q4:∀k∈fp f c,k∈fp (f+1+p.length) T:=fun k hk=>Dj hs k (a2 k hk);have hb:CD w.heap.size w (plW w pa pl pc (eK m) key i):=(D3 _ _).alloc (C1 _) _;have qp:(plW w pa pl pc (eK m) key i).heap.size=w.heap.size+1:=by simp
 have q0:AL (plW w pa pl pc (eK m) key i) w.heap.size (.slice pa pl pc) (eK m) key i:=AI w _;have q6:∀k∈gD m,k∈fp (f+1+p.length) T:=fun k hk=>Dj hs k (ID hu k hk);have hV:∀w2,CD (w.heap.size+1) (plW w pa pl pc (eK m) key i) w2->CD w.heap.size w (xW w2 (some ⟨yb,0,none⟩)):=fun w2 h2=>by
  have h3:CD w.heap.size w w2:=⟨h2.os.trans hb.os,h2.tape.trans hb.tape,h2.output.trans hb.output,by have:=h2.size;omega,fun k hk=>(h2.block k (by omega)).trans (hb.block k hk)⟩
  exact h3.alloc (by have:=h2.size;omega) _
 have q7:∀w2,(xW w2 (some ⟨yb,0,none⟩)).heap.size=w2.heap.size+1:=fun w2=>by simp
 refine (U4 (D:=D) (rv:=rv) (iv:=iv) (ch:=ch) (xs:=xs) (y:=some ⟨yb,0,none⟩) (Q:=fun w2 w3=>∃n2,(er (f+1) n2=er (f+1) (BM i key x m)/\AJ n2=AJ (BM i key x m) /\ ∀k∈gD n2,k∈gD m\/(xW w2 (some ⟨yb,0,none⟩)).heap.size<=k)/\DM f (xW w2 (some ⟨yb,0,none⟩)) w3 u m n2 (fun k=>k∈fp f x)) hl hJ.jD
  ((Ea (hu.bel hb) hf hr.2).mono ?_) (fun w2 hb2=>N0 (hu.bel (hV w2 hb2)) (BI (f:=f+1) hs hJ.nd) (hf.at hr).1 (hx.bel (hV w2 hb2)) qm (fun k hk hm=>(q9 k hk).2.1 (Dj hs k hm))) ?_).mono ?_
 ·rintro e w' ⟨⟨y,rfl,hy⟩,hb2⟩;obtain rfl:=hy.uniq hc
  grind
 ·rintro w2 w3 hb2 ⟨n2,_,hE⟩;have hs2:=hb2.size;have q5:=q7 w2;have hold:∀k,k<w2.heap.size+1->k ∉ fp (f+1+p.length) T->w3.heap[k]? = (xW w2 (some ⟨yb,0,none⟩)).heap[k]?:=fun k hk hn=>hE.kept.block k (by omega) (fun h=>hn (q6 k h));refine⟨((hold _ (by omega) (by grind)).trans (A3 w2 _ _ (by omega))).trans ((hb2.block _ (by omega)).trans q0),(hold _ (by omega) (by grind)).trans (AI w2 _),g1.kept ((hold D (by omega) hJ.dD.1).trans ((hV w2 hb2).block D qd)),AC g2 fun g hg=>(hold g (by grind) (hJ.jM g hg).2).trans ((hV w2 hb2).block g (qh g hg))⟩
 ·rintro e w4 ⟨w2,w3,hb2,⟨n2,⟨e2,e3,e4⟩,hE⟩,hL⟩;have hs2:=hb2.size;have q5:=q7 w2;obtain⟨t1,t2,t3,t4⟩:=KX (hJ.tr.bel (hV w2 hb2)) hs hJ.nd (hu.bel (hV w2 hb2)) hE (fun k hk=>⟨by have:=hx.lt k hk;omega,(q9 k hk).2.1⟩);have hsz:=t4.size;have qb:Av (fun k=>k∈fp (f+1+p.length) T) w w3:=(Av.of_below (hV w2 hb2)).trans (F':=fun k=>k∈fp (f+1+p.length) T) t4 fun k _ h=>h;have qj:AL w3 w.heap.size (.slice pa pl pc) (eK m) key i:=((t4.block _ (by omega) (by grind)).trans (A3 w2 _ _ (by omega))).trans ((hb2.block _ (by omega)).trans q0);have qk:GB w3 w2.heap.size (some ⟨yb,0,none⟩):=(t4.block _ (by omega) (by grind)).trans (AI w2 _);have qf:∀k∈fp (f+1+p.length) (eI p n2 T),k ∉ fp f c:=Mh hs hJ.nd (hu.bel (hV w2 hb2)) hE.tr a4 a2 e4 (fun d hd k hk=>by
   rw[e3] at hd;rcases hf.kids_set d hd with rfl|hd
   ·grind
   grind)
  have q8:Ad f w3 (.pointer (some ⟨yb,0,none⟩)) c:=(hc.bel (hV w2 hb2)).move fun k hk=>hE.kept.block k (by grind) (fun ho=>LB hu (BI (f:=f+1) hs hJ.nd) a4 k ho hk);obtain⟨r1,r2,r3⟩:=q8.up qg;obtain⟨rfl,qn,qe,hX⟩:=hJ.lay (T1:=eI p (BM i key x m) T) (M':=fun k=>M k\/k=w.heap.size\/k=w2.heap.size\/k∈fp f c) (o:=(2,path,dV f c)) g3 g4 qb t1 t2 (fun hm=>by
    rcases t3 D hm with h|h|h
    ·exact hJ.dD.1 h
    ·grind
    ·omega) (fun g hg hm=>by
    rcases t3 g hm with h|h|h
    ·exact (hJ.jM g hg).2 h
    ·grind
    grind) (fun k hk=>A4 hk) (fun k hk=>by
    rcases hk with hk|rfl|rfl|hk
    ·have h1:=hJ.low k hk;refine⟨by omega,fun hm=>?_,fun e=>hJ.dD.2 (e▸hk),fun e=>(hJ.jM k e).1 hk⟩
     grind
    ·refine⟨by omega,fun hm=>?_,by omega,by grind⟩;rcases t3 _ hm with h|h|h
     ·grind
     ·exact (by have:=hx.lt _ h;omega)
     ·omega
    ·refine⟨by omega,fun hm=>?_,by omega,by grind⟩;rcases t3 _ hm with h|h|h
     ·grind
     ·exact (by have:=hx.lt _ h;omega)
     ·omega
    ·refine⟨by grind,fun hm=>qf k hm hk,fun e=>hJ.dD.1 (e▸q4 k hk),fun e=>(hJ.jM k e).2 (q4 k hk)⟩) hL ⟨rfl,by omega,hp.move fun k hk qi=>⟨qb.block k qi (hJ.low k hk.1).2,A4 hk.1,hk.2⟩,rfl,AT ⟨by omega,r3▸r1.rep fun k hk=>⟨by grind,hJ.up.2 k (q4 k (r2▸hk))⟩⟩⟩ (by rw[BO p (f+1) n2 hs,e2,BO p (f+1) _ hs])
    (fun h1 h2=>Vh hJ.tr hs hf hr ((h2 _ (AT (A4 rfl))).trans qj) (AT (A4 rfl)) ((h2 _ (by omega)).trans qk) (by omega) (q8.move (by grind)) a3 (fun k hk=>⟨by grind,fun hm=>(hJ.low k hm).2 (q4 k hk)⟩) h1) WY (fun k hk=>by
    rcases t3 k hk with h|h|h
    ·exact hJ.up.2 k h
    ·grind
    ·exact A4 (by have:=hJ.up.1;omega))
  exact⟨rfl,qn,_,_,by rw[BO p (f+1) n2 hs,e2,BO p (f+1) _ hs],qe,hX⟩
end
end Go.Proofs.YtdpomdelmdofmaaGreatDoor
