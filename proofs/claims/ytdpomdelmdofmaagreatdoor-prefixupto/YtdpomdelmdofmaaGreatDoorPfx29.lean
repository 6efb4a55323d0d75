import Derived.Test.YtdpomdelmdofmaaGreatDoorPfx28
open Go.Proofs.Tryz renaming prog->AI
open Go renaming heap_alloc_new->AS,Calls->A5,World->BY,bodyPost_ret->C1,maxLen->Dp,Value->Dt
open Go.RowKit renaming Below->AT
open Or renaming inr->A1,inl->A4
open Go.RowKit.Below renaming refl->A2,heap_alloc->A6
open Nat renaming le_refl->A3
open List renaming getElem?_eq_getElem->Bs,getElem_map->CH,take_of_length_le->CL,any_eq_true->C2
open Go.IntKind renaming wrap_i64->CD
open Go.ByteArray renaming toList_mk->CR
set_option maxRecDepth 100000
set_option maxHeartbeats 4000000
namespace Go.Proofs.YtdpomdelmdofmaaGreatDoor
open Go.Proofs.Tryz Go.RowKit Go.Maps
variable{w:BY}{g o n cap:Nat}{l:List By}
def BM(L:Nat)(D:Nat)(rv iv:Dt)(ch:Bool)(Tb:Zf)(Mb:Nat->Prop)(wb:BY)(T1:Zf)(M:Nat->Prop)(js:List Zk)(w w':BY):Prop:=
 ∃q0 T' M',er L T'=er L T1/\Bm L w' D rv q0 iv ch Tb Mb wb T' M' js/\JEx M M' w w'
theorem Ad.kidAt{f:Nat}{u:Dt}{n c:Zf}(h:Ad (f+1) w u n)(hc:c∈AH n):∃y,Ad f w y c:=by
 obtain⟨j,hj,e⟩:=List.mem_iff_getElem.1 hc;exact Ad.at (f:=f) (p:=[j]) h (by rw[Zo,Bs hj,e];rfl)
section
variable{f:Nat}{p:List Nat}{w:BY}{D i:Nat}{rv jn iv:Dt}{ch:Bool}{Tb T m c x:Zf}{Mb M:Nat->Prop}{wb:BY}{js:List Zk}{key:By}{pa px py:Option Addr}{pl pc:Nat}{path:List By}
theorem JV(hJ:Bm (f+1+p.length) w D rv jn iv ch Tb Mb wb T M js)(hs:Zo p T=some m)(hf:GU m i key)(hr:B4 m key)(hl:js.length<=1000000000)(hp:Au w (GA (f+1+p.length) Tb wb M) (.slice pa pl pc) path)(hc:Ad f w (.pointer px) c)(qe:(fp f c).Nodup)(q0:∀k∈fp f c,¬ M k/\k ∉ fp (f+1+p.length) T/\k≠D/\jn.ownBlock≠some k/\wb.heap.size<=k):
  A5 AI 205 #[.pointer (some ⟨D,0,none⟩),plV (.slice pa pl pc) (Zv m) key i,.pointer px] w fun e w'=>e=.returned (.tuple #[]) /\
   BM (f+1+p.length) D rv iv ch Tb Mb wb (Zs p (BI i key c m) T) M (js++[(1,path,.nil)]) w w':=by
 obtain⟨xs,cs,g1,g2,g3,g4⟩:=hJ.ex;obtain⟨u,hu⟩:=Ad.at (f:=f+1) hJ.tr hs;have qb:=g1.lt;have q5:=hJ.jlt;have q6:=hJ.tr.lt;have q9:=hc.lt;have hb:AT w.heap.size w (plW w pa pl pc (Zv m) key i):=(A2 _ _).alloc (A3 _) _;have qi:(plW w pa pl pc (Zv m) key i).heap.size=w.heap.size+1:=by simp
 have q4:AJ (plW w pa pl pc (Zv m) key i) w.heap.size (.slice pa pl pc) (Zv m) key i:=AS w _;have q7:∀k∈Z4 m,k∈fp (f+1+p.length) T:=fun k hk=>C0 hs k (Hm hu k hk);have hZ:∀k∈fp f c,k<(plW w pa pl pc (Zv m) key i).heap.size/\k ∉ fp (f+1+p.length) T:=fun k hk=>⟨by have:=q9 k hk;omega,(q0 k hk).2.1⟩
 refine (Ox (D:=D) (rv:=rv) (iv:=iv) (ch:=ch) (xs:=xs) (Q:=fun w2=>∃n2,(er (f+1) n2=er (f+1) (BI i key c m)/\AH n2=AH (BI i key c m) /\ ∀k∈Z4 n2,k∈Z4 m\/(plW w pa pl pc (Zv m) key i).heap.size<=k)/\Du f (plW w pa pl pc (Zv m) key i) w2 u m n2 (fun k=>k∈fp f c)) hl hJ.jD
  (IH (hu.bel hb) (Bz (f:=f+1) hs hJ.nd) (hf.at (c:=c) hr).1 (hc.bel hb) qe (fun k hk hm=>(q0 k hk).2.1 (C0 hs k hm))) ?_).mono ?_
 ·rintro w2 ⟨n2,_,hE⟩;have hold:∀k,k<w.heap.size+1->k ∉ fp (f+1+p.length) T->w2.heap[k]? = (plW w pa pl pc (Zv m) key i).heap[k]?:=fun k hk hn=>hE.kept.block k (by omega) (fun h=>hn (q7 k h));refine⟨(hold _ (by omega) (fun h=>by have:=q6 _ h;omega)).trans q4,g1.kept ((hold D (by omega) hJ.dD.1).trans (hb.block D qb)),AD g2 fun g hg=>(hold g (by have:=q5 g hg;omega) (hJ.jM g hg).2).trans (hb.block g (q5 g hg))⟩
 ·rintro e w4 ⟨w2,⟨n2,⟨e2,_,_⟩,hE⟩,hL⟩;obtain⟨t1,t2,t3,t4⟩:=JX (hJ.tr.bel hb) hs hJ.nd (hu.bel hb) hE hZ;have hsz:=t4.size;have q8:Ao (fun k=>k∈fp (f+1+p.length) T) w w2:=(Ao.of_below hb).trans (F':=fun k=>k∈fp (f+1+p.length) T) t4 fun k _ h=>h;have qg:AJ w2 w.heap.size (.slice pa pl pc) (Zv m) key i:=(t4.block _ (by omega) (fun h=>by have:=q6 _ h;omega)).trans q4;obtain⟨rfl,qf,qd,hX⟩:=hJ.lay (T1:=Zs p (BI i key c m) T) (M':=fun k=>M k\/k=w.heap.size) (o:=(1,path,.nil)) g3 g4 q8 t1 t2 (fun hm=>by
    rcases t3 D hm with h|h|h
    ·exact hJ.dD.1 h
    ·exact (q0 D h).2.2.1 rfl
    ·omega) (fun g hg hm=>by
    rcases t3 g hm with h|h|h
    ·exact (hJ.jM g hg).2 h
    ·exact (q0 g h).2.2.2.1 hg
    ·have:=q5 g hg;omega) (fun k hk=>A4 hk) (fun k hk=>by
    rcases hk with hk|rfl
    ·have h1:=hJ.low k hk;refine⟨by omega,fun hm=>?_,fun e=>hJ.dD.2 (e▸hk),fun e=>(hJ.jM k e).1 hk⟩;rcases t3 k hm with h|h|h
     ·exact h1.2 h
     ·exact (q0 k h).1 hk
     ·omega
    ·refine⟨by omega,fun hm=>?_,by omega,fun e=>by have:=q5 _ e;omega⟩;rcases t3 _ hm with h|h|h
     ·have:=q6 _ h;omega
     ·have:=q9 _ h;omega
     ·omega) hL ⟨rfl,show (1:Nat)<3 by decide,hp.move fun k hk qh=>⟨q8.block k qh (hJ.low k hk.1).2,A4 hk.1,hk.2⟩,rfl,A4 ⟨rfl,rfl⟩⟩ (by rw[BF p (f+1) n2 hs,e2,BF p (f+1) _ hs]) (fun h1 h2=>OA hJ.tr hs hf hr ((h2 _ (A1 rfl)).trans qg) (A1 rfl) h1) Qi (fun k hk=>by
    rcases t3 k hk with h|h|h
    ·exact hJ.up.2 k h
    ·exact A4 (q0 k h).2.2.2.2
    ·exact A4 (by have:=hJ.up.1;omega))
  exact⟨rfl,qf,_,_,by rw[BF p (f+1) n2 hs,e2,BF p (f+1) _ hs],qd,hX⟩
theorem Jt(hJ:Bm (f+1+p.length) w D rv jn iv ch Tb Mb wb T M js)(hs:Zo p T=some m)(hf:AR m i key c)(hr:B4 m key)(hl:js.length<=1000000000)(hp:Au w (GA (f+1+p.length) Tb wb M) (.slice pa pl pc) path)(qm:f<=top):
  A5 AI 199 #[.pointer (some ⟨D,0,none⟩),plV (.slice pa pl pc) (Zv m) key i] w fun e w'=>e=.returned (.tuple #[]) /\
   BM (f+1+p.length) D rv iv ch Tb Mb wb (Zs p (B6 i key m) T) M (js++[(0,path,Zi f c)]) w w' /\ ∀y,Ad f w y c->Ad f w' y c:=by
 obtain⟨xs,cs,g1,g2,g3,g4⟩:=hJ.ex;obtain⟨u,hu⟩:=Ad.at (f:=f+1) hJ.tr hs;obtain⟨a1,a2,a3,a4⟩:=hf.apart (Bz (f:=f+1) hs hJ.nd);obtain⟨yv,hc⟩:=hu.kidAt a4;obtain⟨yb,rfl,_⟩:=hc.ptr;have qe:=g1.lt;have q6:=hJ.jlt;have q4:=hJ.tr.lt;have q0:∀k∈fp f c,k∈fp (f+1+p.length) T:=fun k hk=>C0 hs k (a2 k hk);have hb:AT w.heap.size w (plW w pa pl pc (Zv m) key i):=(A2 _ _).alloc (A3 _) _;have qk:(plW w pa pl pc (Zv m) key i).heap.size=w.heap.size+1:=by simp
 have q5:AJ (plW w pa pl pc (Zv m) key i) w.heap.size (.slice pa pl pc) (Zv m) key i:=AS w _;have q9:∀k∈Z4 m,k∈fp (f+1+p.length) T:=fun k hk=>C0 hs k (Hm hu k hk);have hV:∀w2,AT (w.heap.size+1) (plW w pa pl pc (Zv m) key i) w2->AT w.heap.size w (xW w2 (some ⟨yb,0,none⟩)):=fun w2 h2=>by
  have h3:AT w.heap.size w w2:=⟨h2.os.trans hb.os,h2.tape.trans hb.tape,h2.output.trans hb.output,by have:=h2.size;omega,fun k hk=>(h2.block k (by omega)).trans (hb.block k hk)⟩
  exact h3.alloc (by have:=h2.size;omega) _
 have qb:∀w2,(xW w2 (some ⟨yb,0,none⟩)).heap.size=w2.heap.size+1:=fun w2=>by simp
 refine (Ot (D:=D) (rv:=rv) (iv:=iv) (ch:=ch) (xs:=xs) (y:=some ⟨yb,0,none⟩) (Q:=fun w2 w3=>∃n2,(er (f+1) n2=er (f+1) (B6 i key m)/\AH n2=AH (B6 i key m) /\ ∀k∈Z4 n2,k∈Z4 m\/(xW w2 (some ⟨yb,0,none⟩)).heap.size<=k)/\Du f (xW w2 (some ⟨yb,0,none⟩)) w3 u m n2 (fun _=>False)) hl hJ.jD
  ((DN (hu.bel hb) hf hr.2).mono ?_) (fun w2 hb2=>Iz (hu.bel (hV w2 hb2)) (Bz (f:=f+1) hs hJ.nd) (hf.at hr).1) ?_).mono ?_
 ·rintro e w' ⟨⟨y,rfl,hy⟩,hb2⟩;obtain rfl:=hy.uniq hc;exact⟨rfl,qk▸hb2⟩
 ·rintro w2 w3 hb2 ⟨n2,_,hE⟩;have hs2:=hb2.size;have q8:=qb w2;have hold:∀k,k<w2.heap.size+1->k ∉ fp (f+1+p.length) T->w3.heap[k]? = (xW w2 (some ⟨yb,0,none⟩)).heap[k]?:=fun k hk hn=>hE.kept.block k (by omega) (fun h=>hn (q9 k h));refine⟨((hold _ (by omega) (fun h=>by have:=q4 _ h;omega)).trans (A6 w2 _ _ (by omega))).trans ((hb2.block _ (by omega)).trans q5),(hold _ (by omega) (fun h=>by have:=q4 _ h;omega)).trans (AS w2 _),g1.kept ((hold D (by omega) hJ.dD.1).trans ((hV w2 hb2).block D qe)),AD g2 fun g hg=>(hold g (by have:=q6 g hg;omega) (hJ.jM g hg).2).trans ((hV w2 hb2).block g (q6 g hg))⟩
 ·rintro e w4 ⟨w2,w3,hb2,⟨n2,⟨e2,e3,e4⟩,hE⟩,hL⟩;have hs2:=hb2.size;have q8:=qb w2;obtain⟨t1,t2,t3,t4⟩:=JX (hJ.tr.bel (hV w2 hb2)) hs hJ.nd (hu.bel (hV w2 hb2)) hE (fun k hk=>hk.elim);have hsz:=t4.size;have qd:Ao (fun k=>k∈fp (f+1+p.length) T) w w3:=(Ao.of_below (hV w2 hb2)).trans (F':=fun k=>k∈fp (f+1+p.length) T) t4 fun k _ h=>h;have qo:AJ w3 w.heap.size (.slice pa pl pc) (Zv m) key i:=((t4.block _ (by omega) (fun h=>by have:=q4 _ h;omega)).trans (A6 w2 _ _ (by omega))).trans ((hb2.block _ (by omega)).trans q5);have hx2:FY w3 w2.heap.size (some ⟨yb,0,none⟩):=(t4.block _ (by omega) (fun h=>by have:=q4 _ h;omega)).trans (AS w2 _);have qf:∀k∈fp (f+1+p.length) (Zs p n2 T),k ∉ fp f c:=KZ hs hJ.nd (hu.bel (hV w2 hb2)) hE.tr a4 a2 e4 (fun d hd k hk=>a1 d (e3▸hd) k hk);have q7:Ad f w3 (.pointer (some ⟨yb,0,none⟩)) c:=(hc.bel (hV w2 hb2)).move fun k hk=>hE.kept.block k (by have:=q4 k (q0 k hk);omega) (fun ho=>Kq hu (Bz (f:=f+1) hs hJ.nd) a4 k ho hk);obtain⟨r1,r2,r3⟩:=q7.up qm;obtain⟨_,_,_,_,_,_,qg⟩:=id hL;have qj:Ad f w4 (.pointer (some ⟨yb,0,none⟩)) c:=q7.move fun k hk=>qg.block k (by have:=q4 k (q0 k hk);omega) (fun h=>h.elim (fun e=>hJ.dD.1 (e▸q0 k hk)) fun e=>(hJ.jM k e).2 (q0 k hk));obtain⟨rfl,qh,qn,hX⟩:=hJ.lay (T1:=Zs p (B6 i key m) T) (M':=fun k=>M k\/k=w.heap.size\/k=w2.heap.size\/k∈fp f c) (o:=(0,path,Zi f c)) g3 g4 qd t1 t2 (fun hm=>by
    rcases t3 D hm with h|h|h
    ·exact hJ.dD.1 h
    ·exact h
    ·omega) (fun g hg hm=>by
    rcases t3 g hm with h|h|h
    ·exact (hJ.jM g hg).2 h
    ·exact h.elim
    ·have:=q6 g hg;omega) (fun k hk=>A4 hk) (fun k hk=>by
    rcases hk with hk|rfl|rfl|hk
    ·have h1:=hJ.low k hk;refine⟨by omega,fun hm=>?_,fun e=>hJ.dD.2 (e▸hk),fun e=>(hJ.jM k e).1 hk⟩;rcases t3 k hm with h|h|h
     ·exact h1.2 h
     ·exact h
     ·omega
    ·refine⟨by omega,fun hm=>?_,by omega,fun e=>by have:=q6 _ e;omega⟩;rcases t3 _ hm with h|h|h
     ·have:=q4 _ h;omega
     ·exact h.elim
     ·omega
    ·refine⟨by omega,fun hm=>?_,by omega,fun e=>by have:=q6 _ e;omega⟩;rcases t3 _ hm with h|h|h
     ·have:=q4 _ h;omega
     ·exact h.elim
     ·omega
    ·refine⟨by have:=q4 k (q0 k hk);omega,fun hm=>qf k hm hk,fun e=>hJ.dD.1 (e▸q0 k hk),fun e=>(hJ.jM k e).2 (q0 k hk)⟩) hL ⟨rfl,show (0:Nat)<3 by decide,hp.move fun k hk qi=>⟨qd.block k qi (hJ.low k hk.1).2,A4 hk.1,hk.2⟩,rfl,A1 ⟨show (0:Nat)≠1 by decide,r3▸r1.rep fun k hk=>⟨A1 (A1 (A1 (r2▸hk))),hJ.up.2 k (q0 k (r2▸hk))⟩⟩⟩ (by rw[BF p (f+1) n2 hs,e2,BF p (f+1) _ hs])
    (fun h1 h2=>Oz hJ.tr hs hf hr ((h2 _ (A1 (A4 rfl))).trans qo) (A1 (A4 rfl)) ((h2 _ (A1 (A1 (A4 rfl)))).trans hx2) (A1 (A1 (A4 rfl))) (q7.move fun k hk=>h2 k (A1 (A1 (A1 hk)))) a3 (fun k hk=>⟨A1 (A1 (A1 hk)),fun hm=>(hJ.low k hm).2 (q0 k hk)⟩) h1) Qh (fun k hk=>by
    rcases t3 k hk with h|h|h
    ·exact hJ.up.2 k h
    ·exact h.elim
    ·exact A4 (by have:=hJ.up.1;omega))
  refine⟨rfl,⟨qh,_,_,by rw[BF p (f+1) n2 hs,e2,BF p (f+1) _ hs],qn,hX⟩,fun y hy=>?_⟩;obtain rfl:=hy.uniq hc;exact qj
theorem Ml(hJ:Bm (f+1+p.length) w D rv jn iv ch Tb Mb wb T M js)(hs:Zo p T=some m)(hf:AR m i key c)(hr:B4 m key)(hl:js.length<=1000000000)(hp:Au w (GA (f+1+p.length) Tb wb M) (.slice pa pl pc) path)(qi:f<=top)(hx:Ad f w (.pointer px) x)(qk:(fp f x).Nodup)(q8:∀k∈fp f x,¬ M k/\k ∉ fp (f+1+p.length) T/\k≠D/\jn.ownBlock≠some k/\wb.heap.size<=k):
  A5 AI 200 #[.pointer (some ⟨D,0,none⟩),plV (.slice pa pl pc) (Zv m) key i,.pointer px] w fun e w'=>e=.returned (.tuple #[]) /\
   BM (f+1+p.length) D rv iv ch Tb Mb wb (Zs p (Br i key x m) T) M (js++[(2,path,Zi f c)]) w w':=by
 obtain⟨xs,cs,g1,g2,g3,g4⟩:=hJ.ex;obtain⟨u,hu⟩:=Ad.at (f:=f+1) hJ.tr hs;obtain⟨a1,a2,a3,a4⟩:=hf.apart (Bz (f:=f+1) hs hJ.nd);obtain⟨yv,hc⟩:=hu.kidAt a4;obtain⟨yb,rfl,_⟩:=hc.ptr;have qd:=g1.lt;have qf:=hJ.jlt;have qo:=hJ.tr.lt;have q4:∀k∈fp f c,k∈fp (f+1+p.length) T:=fun k hk=>C0 hs k (a2 k hk);have hb:AT w.heap.size w (plW w pa pl pc (Zv m) key i):=(A2 _ _).alloc (A3 _) _;have qn:(plW w pa pl pc (Zv m) key i).heap.size=w.heap.size+1:=by simp
 have q0:AJ (plW w pa pl pc (Zv m) key i) w.heap.size (.slice pa pl pc) (Zv m) key i:=AS w _;have q6:∀k∈Z4 m,k∈fp (f+1+p.length) T:=fun k hk=>C0 hs k (Hm hu k hk);have hV:∀w2,AT (w.heap.size+1) (plW w pa pl pc (Zv m) key i) w2->AT w.heap.size w (xW w2 (some ⟨yb,0,none⟩)):=fun w2 h2=>by
  have h3:AT w.heap.size w w2:=⟨h2.os.trans hb.os,h2.tape.trans hb.tape,h2.output.trans hb.output,by have:=h2.size;omega,fun k hk=>(h2.block k (by omega)).trans (hb.block k hk)⟩
  exact h3.alloc (by have:=h2.size;omega) _
 have q7:∀w2,(xW w2 (some ⟨yb,0,none⟩)).heap.size=w2.heap.size+1:=fun w2=>by simp
 refine (SO (D:=D) (rv:=rv) (iv:=iv) (ch:=ch) (xs:=xs) (y:=some ⟨yb,0,none⟩) (Q:=fun w2 w3=>∃n2,(er (f+1) n2=er (f+1) (Br i key x m)/\AH n2=AH (Br i key x m) /\ ∀k∈Z4 n2,k∈Z4 m\/(xW w2 (some ⟨yb,0,none⟩)).heap.size<=k)/\Du f (xW w2 (some ⟨yb,0,none⟩)) w3 u m n2 (fun k=>k∈fp f x)) hl hJ.jD
  ((DN (hu.bel hb) hf hr.2).mono ?_) (fun w2 hb2=>Mv (hu.bel (hV w2 hb2)) (Bz (f:=f+1) hs hJ.nd) (hf.at hr).1 (hx.bel (hV w2 hb2)) qk (fun k hk hm=>(q8 k hk).2.1 (C0 hs k hm))) ?_).mono ?_
 ·rintro e w' ⟨⟨y,rfl,hy⟩,hb2⟩;obtain rfl:=hy.uniq hc
  grind
 ·rintro w2 w3 hb2 ⟨n2,_,hE⟩;have hs2:=hb2.size;have q5:=q7 w2;have hold:∀k,k<w2.heap.size+1->k ∉ fp (f+1+p.length) T->w3.heap[k]? = (xW w2 (some ⟨yb,0,none⟩)).heap[k]?:=fun k hk hn=>hE.kept.block k (by omega) (fun h=>hn (q6 k h));refine⟨((hold _ (by omega) (by grind)).trans (A6 w2 _ _ (by omega))).trans ((hb2.block _ (by omega)).trans q0),(hold _ (by omega) (by grind)).trans (AS w2 _),g1.kept ((hold D (by omega) hJ.dD.1).trans ((hV w2 hb2).block D qd)),AD g2 fun g hg=>(hold g (by grind) (hJ.jM g hg).2).trans ((hV w2 hb2).block g (qf g hg))⟩
 ·rintro e w4 ⟨w2,w3,hb2,⟨n2,⟨e2,e3,e4⟩,hE⟩,hL⟩;have hs2:=hb2.size;have q5:=q7 w2;obtain⟨t1,t2,t3,t4⟩:=JX (hJ.tr.bel (hV w2 hb2)) hs hJ.nd (hu.bel (hV w2 hb2)) hE (fun k hk=>⟨by have:=hx.lt k hk;omega,(q8 k hk).2.1⟩);have hsz:=t4.size;have qb:Ao (fun k=>k∈fp (f+1+p.length) T) w w3:=(Ao.of_below (hV w2 hb2)).trans (F':=fun k=>k∈fp (f+1+p.length) T) t4 fun k _ h=>h;have qm:AJ w3 w.heap.size (.slice pa pl pc) (Zv m) key i:=((t4.block _ (by omega) (by grind)).trans (A6 w2 _ _ (by omega))).trans ((hb2.block _ (by omega)).trans q0);have hx2:FY w3 w2.heap.size (some ⟨yb,0,none⟩):=(t4.block _ (by omega) (by grind)).trans (AS w2 _);have qe:∀k∈fp (f+1+p.length) (Zs p n2 T),k ∉ fp f c:=KZ hs hJ.nd (hu.bel (hV w2 hb2)) hE.tr a4 a2 e4 (fun d hd k hk=>by
   rw[e3] at hd;rcases hf.kids_set d hd with rfl|hd
   ·grind
   grind)
  have q9:Ad f w3 (.pointer (some ⟨yb,0,none⟩)) c:=(hc.bel (hV w2 hb2)).move fun k hk=>hE.kept.block k (by grind) (fun ho=>Kq hu (Bz (f:=f+1) hs hJ.nd) a4 k ho hk);obtain⟨r1,r2,r3⟩:=q9.up qi;obtain⟨rfl,qg,qj,hX⟩:=hJ.lay (T1:=Zs p (Br i key x m) T) (M':=fun k=>M k\/k=w.heap.size\/k=w2.heap.size\/k∈fp f c) (o:=(2,path,Zi f c)) g3 g4 qb t1 t2 (fun hm=>by
    rcases t3 D hm with h|h|h
    ·exact hJ.dD.1 h
    ·grind
    ·omega) (fun g hg hm=>by
    rcases t3 g hm with h|h|h
    ·exact (hJ.jM g hg).2 h
    ·grind
    grind) (fun k hk=>A4 hk) (fun k hk=>by
    rcases hk with hk|rfl|rfl|hk
    ·have h1:=hJ.low k hk;refine⟨by omega,fun hm=>?_,fun e=>hJ.dD.2 (e▸hk),fun e=>(hJ.jM k e).1 hk⟩
     grind
    ·refine⟨by omega,fun hm=>?_,by omega,by grind⟩;rcases t3 _ hm with h|h|h
     ·grind
     ·exact (by have:=hx.lt _ h;omega)
     ·omega
    ·refine⟨by omega,fun hm=>?_,by omega,by grind⟩;rcases t3 _ hm with h|h|h
     ·grind
     ·exact (by have:=hx.lt _ h;omega)
     ·omega
    ·refine⟨by grind,fun hm=>qe k hm hk,fun e=>hJ.dD.1 (e▸q4 k hk),fun e=>(hJ.jM k e).2 (q4 k hk)⟩) hL ⟨rfl,by omega,hp.move fun k hk qh=>⟨qb.block k qh (hJ.low k hk.1).2,A4 hk.1,hk.2⟩,rfl,A1 ⟨by omega,r3▸r1.rep fun k hk=>⟨by grind,hJ.up.2 k (q4 k (r2▸hk))⟩⟩⟩ (by rw[BF p (f+1) n2 hs,e2,BF p (f+1) _ hs])
    (fun h1 h2=>S5 hJ.tr hs hf hr ((h2 _ (A1 (A4 rfl))).trans qm) (A1 (A4 rfl)) ((h2 _ (by omega)).trans hx2) (by omega) (q9.move (by grind)) a3 (fun k hk=>⟨by grind,fun hm=>(hJ.low k hm).2 (q4 k hk)⟩) h1) UF (fun k hk=>by
    rcases t3 k hk with h|h|h
    ·exact hJ.up.2 k h
    ·grind
    ·exact A4 (by have:=hJ.up.1;omega))
  exact⟨rfl,qg,_,_,by rw[BF p (f+1) n2 hs,e2,BF p (f+1) _ hs],qj,hX⟩
end
section
variable{w:BY}{D b i:Nat}{key:By}{pa x:Option Addr}{pl pc:Nat}
theorem SP{y:Addr}{Q:BY->Prop}(hG:A5 AI 159 #[plV (.slice pa pl pc) b key i] (plW w pa pl pc b key i) fun e w'=>e=.returned (.pointer (some y))/\AT (w.heap.size+1) (plW w pa pl pc b key i) w')(hC:∀w2,AT (w.heap.size+1) (plW w pa pl pc b key i) w2->A5 AI 200 #[.pointer (some ⟨D,0,none⟩),plV (.slice pa pl pc) b key i,.pointer x] w2 fun e w'=>e=.returned (.tuple #[])/\Q w'):
  A5 AI 160 #[.pointer (some ⟨D,0,none⟩),plV (.slice pa pl pc) b key i,.pointer x] w fun e w'=>e=.returned (.tuple #[])/\Q w':=by
 have HG:=Ab hG;have HC:=Ab hC;have q4:=AS w (.cells #[.slice pa pl pc,.pointer (some ⟨b,0,none⟩),.string ⟨key.toArray⟩,.int .i64 i] 185);have HP:=Ab (show AJ (plW w pa pl pc b key i) w.heap.size (.slice pa pl pc) b key i from q4);clear hG hC q4
 go_enter func160,ntmps160
 go_wp2_with (fail);refine (Aa HG).mono ?_
 rintro e w2 ⟨rfl,hb⟩;have q0:AJ w2 w.heap.size (.slice pa pl pc) b key i:=(hb.block _ (by omega)).trans (Aa HP);have e0:=q0.c0;have e1:=q0.c1;have e2:=q0.c2;have e3:=q0.c3;have HB:=Ab hb;clear hb q0
 go_wp2_with (fail);refine (Aa HC w2 (Aa HB)).mono ?_
 rintro e w3 ⟨rfl,hq⟩
 go_wp2_with (fail);exact C1 (v:=.tuple #[]) (by simp[results,results160,go_sem]) rfl ⟨rfl,hq⟩
theorem Ou{Q:BY->Prop}(hG:A5 AI 159 #[plV (.slice pa pl pc) b key i] (plW w pa pl pc b key i) fun e w'=>e=.returned (.pointer none)/\AT (w.heap.size+1) (plW w pa pl pc b key i) w')(hC:∀w2,AT (w.heap.size+1) (plW w pa pl pc b key i) w2->A5 AI 205 #[.pointer (some ⟨D,0,none⟩),plV (.slice pa pl pc) b key i,.pointer x] w2 fun e w'=>e=.returned (.tuple #[])/\Q w'):
  A5 AI 160 #[.pointer (some ⟨D,0,none⟩),plV (.slice pa pl pc) b key i,.pointer x] w fun e w'=>e=.returned (.tuple #[])/\Q w':=by
 have HG:=Ab hG;have HC:=Ab hC;have q4:=AS w (.cells #[.slice pa pl pc,.pointer (some ⟨b,0,none⟩),.string ⟨key.toArray⟩,.int .i64 i] 185);have HP:=Ab (show AJ (plW w pa pl pc b key i) w.heap.size (.slice pa pl pc) b key i from q4);clear hG hC q4
 go_enter func160,ntmps160
 go_wp2_with (fail);refine (Aa HG).mono ?_
 rintro e w2 ⟨rfl,hb⟩;have q0:AJ w2 w.heap.size (.slice pa pl pc) b key i:=(hb.block _ (by omega)).trans (Aa HP);have e0:=q0.c0;have e1:=q0.c1;have e2:=q0.c2;have e3:=q0.c3;have HB:=Ab hb;clear hb q0
 go_wp2_with (fail);refine (Aa HC w2 (Aa HB)).mono ?_
 rintro e w3 ⟨rfl,hq⟩
 go_wp2_with (fail);exact bodyPost_end (results_none rfl _ _ _) rfl ⟨rfl,hq⟩
end
theorem I9{f b i:Nat}{u pth:Dt}{es:List (Lit×Zf)}{key:By}(h:Ad (f+1) w u (Zj b g (.map es)))(hf:∀p∈es,p.1≠Lit.string key)(hk:key.length<=1048576):
  A5 AI 159 #[plV pth b key i] w fun e w'=>e=.returned (.pointer none)/\AT w.heap.size w w':=by
 obtain⟨_,D,hvb,ho,hp⟩:=DJ h;have hh:Maps.has (.map D) (.string key)=false:=by
  rw[Pt.has _ hp];refine Bool.eq_false_iff.2 fun ht=>?_;obtain⟨p,h1,h2⟩:=C2.1 (show (es.any fun p=>p.1.sameKey (.string key))=true from ht);rw[sameKey_ne (hf p h1)] at h2;cases h2
 have hx:(DataW.map D).atKey (.string key) (.held (.pointer none))=.held (.pointer none):=by
  have h3:D.find? (fun p=>p.1.sameKey (.string key))=none:=by
   rw[List.find?_eq_none];intro p hp ht;have h4:(D.any fun p=>p.1.sameKey (.string key))=true:=C2.2 ⟨p,hp,ht⟩;have h5:(D.any fun p=>p.1.sameKey (.string key))=false:=hh;rw[h5] at h4;cases h4
  rw[BZ,h3]
 exact Pd (pth:=pth) (i:=i) hk hvb ho hx
theorem GQ{w2:BY}{o:Obj}(h:AT (w.heap.size+1) (w.alloc o) w2):AT w.heap.size w w2:=by
 have hb:AT w.heap.size w (w.alloc o):=(A2 _ _).alloc (A3 _) _;exact⟨h.os.trans hb.os,h.tape.trans hb.tape,h.output.trans hb.output,Nat.le_trans hb.size h.size,fun k hk=>(h.block k (by omega)).trans (hb.block k hk)⟩
theorem Bm.bel{L:Nat}{w':BY}{D:Nat}{rv jn iv:Dt}{ch:Bool}{Tb T:Zf}{Mb M:Nat->Prop}{wb:BY}{js:List Zk}(h:Bm L w D rv jn iv ch Tb Mb wb T M js)(hb:AT w.heap.size w w'):
  Bm L w' D rv jn iv ch Tb Mb wb T M js/\JEx M M w w':=by
 have h1:=h.grow hb (fun _=>False) (fun _ hx=>hx.elim);simpa using h1
section
variable{f:Nat}{p:List Nat}{w:BY}{D i:Nat}{rv jn iv:Dt}{ch:Bool}{Tb T m c x:Zf}{Mb M:Nat->Prop}{wb:BY}{js:List Zk}{key:By}{pa px:Option Addr}{pl pc:Nat}{path:List By}
theorem VT(hJ:Bm (f+1+p.length) w D rv jn iv ch Tb Mb wb T M js)(hs:Zo p T=some m)(hf:AR m i key c)(hr:B4 m key)(hl:js.length<=1000000000)(hp:Au w (GA (f+1+p.length) Tb wb M) (.slice pa pl pc) path)(q0:f<=top)(hx:Ad f w (.pointer px) x)(q4:(fp f x).Nodup)(q6:∀k∈fp f x,¬ M k/\k ∉ fp (f+1+p.length) T/\k≠D/\jn.ownBlock≠some k/\wb.heap.size<=k):
  A5 AI 160 #[.pointer (some ⟨D,0,none⟩),plV (.slice pa pl pc) (Zv m) key i,.pointer px] w fun e w'=>e=.returned (.tuple #[]) /\
   BM (f+1+p.length) D rv iv ch Tb Mb wb (Zs p (Br i key x m) T) M (js++[(2,path,Zi f c)]) w w':=by
 obtain⟨u,hu⟩:=Ad.at (f:=f+1) hJ.tr hs;obtain⟨a1,a2,a3,a4⟩:=hf.apart (Bz (f:=f+1) hs hJ.nd);obtain⟨yv,hc⟩:=hu.kidAt a4;obtain⟨yb,rfl,_⟩:=hc.ptr;have hb:AT w.heap.size w (plW w pa pl pc (Zv m) key i):=(A2 _ _).alloc (A3 _) _;have q8:(plW w pa pl pc (Zv m) key i).heap.size=w.heap.size+1:=by simp
 refine SP (y:=⟨yb,0,none⟩) ((DN (hu.bel hb) hf hr.2).mono ?_) (fun w2 hb2=>?_)
 ·rintro e w' ⟨⟨y,rfl,hy⟩,hb2⟩;obtain rfl:=hy.uniq hc;exact⟨rfl,q8▸hb2⟩
 ·have h2:=GQ hb2;obtain⟨q7,q9⟩:=hJ.bel h2;refine (Ml q7 hs hf hr hl (hp.move fun k hk qb=>⟨h2.block k qb,hk⟩) q0 (hx.bel h2) q4 q6).mono ?_;rintro e w3 ⟨rfl,q5,T',M',q1,q2,q3⟩;exact⟨rfl,q5,T',M',q1,q2,q9.trans q3⟩
theorem TH{b:Nat}{es:List (Lit×Zf)}(hJ:Bm (f+1+p.length) w D rv jn iv ch Tb Mb wb T M js)(hs:Zo p T=some (Zj b g (.map es)))(hf:∀p∈es,p.1≠Lit.string key)(hr:B4 (Zj b g (.map es)) key)(hl:js.length<=1000000000)(hp:Au w (GA (f+1+p.length) Tb wb M) (.slice pa pl pc) path)(hx:Ad f w (.pointer px) x)(q0:(fp f x).Nodup)(q5:∀k∈fp f x,¬ M k/\k ∉ fp (f+1+p.length) T/\k≠D/\jn.ownBlock≠some k/\wb.heap.size<=k):
  A5 AI 160 #[.pointer (some ⟨D,0,none⟩),plV (.slice pa pl pc) b key i,.pointer px] w fun e w'=>e=.returned (.tuple #[]) /\
   BM (f+1+p.length) D rv iv ch Tb Mb wb (Zs p (BI i key x (Zj b g (.map es))) T) M (js++[(1,path,.nil)]) w w':=by
 obtain⟨u,hu⟩:=Ad.at (f:=f+1) hJ.tr hs;have hb:AT w.heap.size w (plW w pa pl pc b key i):=(A2 _ _).alloc (A3 _) _;have q7:(plW w pa pl pc b key i).heap.size=w.heap.size+1:=by simp
 refine Ou ((I9 (hu.bel hb) hf hr.2).mono ?_) (fun w2 hb2=>?_)
 ·rintro e w' ⟨rfl,hb2⟩;exact⟨rfl,q7▸hb2⟩
 ·have h2:=GQ hb2;obtain⟨q6,q8⟩:=hJ.bel h2;refine (JV (m:=Zj b g (.map es)) q6 hs (A1 ⟨b,g,es,rfl,hf⟩) hr hl (hp.move fun k hk q9=>⟨h2.block k q9,hk⟩) (hx.bel h2) q0 q5).mono ?_;rintro e w3 ⟨rfl,q4,T',M',q1,q2,q3⟩;exact⟨rfl,q4,T',M',q1,q2,q8.trans q3⟩
end
theorem IJ{D:Nat}{t:By}{wp:Option Addr}{R:BY->Option Addr->Int->Prop}(hn:n+1<=cap)(q0:cap<=Dp)(hg:g<w.heap.size)(ht:w.cell? ⟨g,o+n,none⟩=some (.string ⟨t.toArray⟩))(hW:∀w1,AT w.heap.size w w1->A5 AI 56 #[.pointer (some ⟨D,0,none⟩)] w1 fun x w'=>x=.returned (.pointer wp)/\AT w1.heap.size w1 w')(hF:∀w1,AT w.heap.size w w1->A5 AI 81 #[.slice (some ⟨g,o,none⟩) n cap,.pointer wp] w1 fun e w'=>∃x c,e=.returned (.tuple #[.pointer x,.int .i64 c])/\Hid (R w' x c)/\AT w1.heap.size w1 w'):
  A5 AI 243 #[.pointer (some ⟨D,0,none⟩),.slice (some ⟨g,o,none⟩) (n+1) cap] w fun e w'=>∃x c,e=.returned (.tuple #[.pointer x,.string ⟨t.toArray⟩,.int .i64 c])/\Hid (∃w2,R w2 x c/\w'.heap=w2.heap)/\AT w.heap.size w w':=by
 have HW:=Ab hW;have HF:=Ab hF;have hB:=A2 w.heap.size w;unfold Dp at q0;have e1:IntKind.i64.wrap (n:Int)=n:=by rw[CD];omega
 have e2:IntKind.i64.wrap ((n:Int)+1-1)=n:=by rw[CD];omega
 have l1:(0:Int)<=(n:Int):=by omega
 have l2:n<=cap:=by omega
 have l3:n<n+1:=by omega
 clear hW hF
 go_enter func243,ntmps243
 go_wp2_with (fail)
 go_region_with (first
  | (go_at_call 56;refine (Aa HW _ ?_).mono ?_;exact⟨rfl,rfl,rfl,A3 _,fun _ _=>rfl⟩;rintro x w2 ⟨rfl,hb2⟩;replace hb2:AT w.heap.size w w2:=⟨hb2.os,hb2.tape,hb2.output,hb2.size,hb2.block⟩)
  | (go_at_call 81;refine (Aa HF _ ?_).mono ?_;exact⟨hb2.os,hb2.tape,hb2.output,hb2.size,hb2.block⟩;rintro e w3 ⟨x,c,rfl,hR,hb3⟩))
 all_goals (
  replace hb3:AT w.heap.size w w3:=hb2.trans ⟨hb3.os,hb3.tape,hb3.output,hb3.size,fun k hk=>hb3.block k (Nat.lt_of_lt_of_le hk hb2.size)⟩
  have q5:w3.cell? ⟨g,o+n,none⟩=some (.string ⟨t.toArray⟩):=(hb3.cell (p:=⟨g,o+n,none⟩) hg).trans ht;have q4:=Ab hb3;have HR:Hid (R w3 x c):=hR;clear hb2 hb3 hB ht hR
  go_wp2_with (fail)
  go_region_with (fail))
 all_goals (
  go_wp2_with (fail);refine C1 (v:=.tuple #[.pointer x,.string ⟨t.toArray⟩,.int .i64 c]) (by simp[results,results243,go_sem]) rfl ?_
  have h3:=Aa q4;exact⟨x,c,rfl,Ab ⟨w3,Aa HR,rfl⟩,⟨h3.os,h3.tape,h3.output,h3.size,h3.block⟩⟩)
theorem PS:(Tryz.prog.info? 9).map (fun i=>(i.zero,i.size,i.bytes))=some (some (.string ⟨#[]⟩),1,16):=by kernel_rfl
abbrev LV(l:List By):List Dt:=l.map fun t=>.string ⟨t.toArray⟩
theorem N2(ht:CQ w g o l)(hl:0<l.length)(hb:l.length<=1000000000):
  A5 AI 289 #[.slice (some ⟨g,o,none⟩) l.length cap] w fun e w'=>∃g2 c2,e=.returned (.slice (some ⟨g2,0,none⟩) l.length c2)/\w'.ownsRow w.heap.size 9 1 (.slice (some ⟨g2,0,none⟩) l.length c2) l.length (LV l)/\AT w.heap.size w w':=by
 obtain⟨i0,q4,hz0,q0,hz2⟩:=info_parts PS;have hc:=AnyE.slices_Clone Tryz.eClone i0 (.string ⟨#[]⟩) 1 16 q4 hz0 q0 hz2 rfl (by decide) (fun w=>Tryz.sizeOf9 w) g o l.length cap (LV l) w (by simp) (by unfold Dp;omega) (by omega) (fun j u hu=>by
  obtain⟨hj,rfl⟩:=List.getElem?_eq_some_iff.1 hu;rw[CH];exact ht.2 j (by grind)) (fun u hu=>by
  obtain⟨t,_,rfl⟩:=List.mem_map.1 hu;rfl)
 refine hc.mono ?_;rintro e w' ⟨v',rfl,ho,q5,hb⟩;rcases ho.2 with⟨h,_⟩|⟨g2,c2,cur,rfl,_⟩
 ·omega
 ·exact⟨g2,c2,rfl,ho,hb⟩
theorem Ov{i:Nat}(hT:Af w)(ht:CQ w g o l)(hl:l.length=n+1)(hb:l.length<=1000000000)(hi:i<=1000000000000):
  A5 AI 245 #[.slice (some ⟨g,o,none⟩) (n+1) cap,.int .i64 i] w fun e w'=>∃g2 c2,e=.returned (.slice (some ⟨g2,0,none⟩) (n+1) c2)/\w'.ownsRow w.heap.size 9 1 (.slice (some ⟨g2,0,none⟩) (n+1) c2) (n+1) (LV (l.set n (Lib.itoa (i:Int))))/\AT w.heap.size w w':=by
 have HC:=Ab (N2 (cap:=cap) ht (by omega) hb);have HT:=Ab hT;rw[hl] at HC;have e1:IntKind.i64.wrap (n:Int)=n:=by rw[CD];omega
 have e2:IntKind.i64.wrap ((n:Int)+1-1)=n:=by grind
 have l3:n<n+1:=by omega
 have l4:(0:Int)<=(n:Int):=by omega
 have HL:=Ab hl;clear hT ht hl hb
 go_enter func245,ntmps245
 go_wp2_with (fail);refine (Aa HC).mono ?_
 rintro e w2 ⟨g2,c2,rfl,ho,q5⟩;have HO:=Ab ho;have HB:=Ab q5;have q6:=((Aa HT).below (q5.mono (Aa HT).ng)).tab;clear ho q5 HC
 go_wp2_with (fail);refine (Tryz.strconv_Itoa i (by omega) (by omega) w2 q6).mono ?_
 rintro e w5 ⟨rfl,kk,os,rfl⟩;have q4:=D7 w2 kk os;generalize Sort.grow (w2.drewN kk) os=w5 at *;have q8:w.heap.size<=g2/\g2<w2.heap.size:=by
  have h:=AC (Aa HO) g2 rfl;omega
 have q0:=AD (w':=w5) (Aa HO) fun k hk=>by
  simp[Value.ownBlock] at hk;subst hk;exact q4.block _ q8.2
 have hnl:n<l.length:=by rw[Aa HL];exact l3
 have q7:w5.cell? ⟨g2,n,none⟩=some (.string ⟨l[n].toArray⟩):=by
  rw[q0.cellAt n (by omega),List.getElem?_map,Bs hnl];rfl
 have hz:w5.frozen? ⟨g2,n,none⟩=false:=by
  rcases q0.2 with⟨h',_⟩|⟨g',q9,cur,h',_,hg,_⟩
  ·simp at h'
  ·simp only[Value.slice.injEq,Option.some.injEq,Addr.mk.injEq,and_true,true_and] at h';obtain⟨rfl,_⟩:=h';simp[World.frozen?,hg]
 have qd:=Ab q0;have qb:=Ab ((Aa HB).trans (q4.mono (by omega)));clear q0 q4 q6
 go_wp2_with (fail);refine C1 (v:=.slice (some ⟨g2,0,none⟩) (n+1) c2) (by simp[results,results245,go_sem]) rfl ⟨g2,c2,rfl,?_,An (Aa qb) g2 n q8.1 _⟩
 have h:=((Aa qd).stored n (.string ⟨(Lib.itoa (i:Int)).toArray⟩)).1
 simp_all
theorem LG:∀ {l m:List By},Lib.allEq (fun x y:ByteArray=>x.toList==y.toList) (l.map fun t=>⟨t.toArray⟩) (m.map fun t=>⟨t.toArray⟩)=(l==m)
 | [],[]=>rfl
 | [],_::_=>rfl
 | _::_,[]=>rfl
 | x::l,y::m=>by
  have ih:=LG (l:=l) (m:=m);simp only[List.map_cons,Lib.allEq];rw[ih];show _=(x==y && l==m)
  rw[CR,CR]
theorem PE{a1 a2:Option Addr}{c m d:Nat}(h:n≠m):A5 AI 202 #[.slice a1 n c,.slice a2 m d] w fun e w'=>e=.returned (.bool false)/\AT w.heap.size w w':=by
 have e1:¬ ((n:Int)=(m:Int)):=by omega
 have e2:((n:Int) != (m:Int))=true:=by rw[bne_iff_ne];exact e1
 have e3:((n:Int)==(m:Int))=false:=by rw[beq_eq_false_iff_ne];exact e1
 go_enter func202,ntmps202
 go_wp2_with (fail)
 go_ret;exact⟨rfl,A2 _ _⟩
theorem PF{g1 o1 c1 g2 o2 c2:Nat}{m:List By}(h1:CQ w g1 o1 l)(h2:CQ w g2 o2 m)(hl:l.length<=Dp)(hm:m.length<=Dp):
  A5 AI 202 #[.slice (some ⟨g1,o1,none⟩) l.length c1,.slice (some ⟨g2,o2,none⟩) m.length c2] w fun e w'=>e=.returned (.bool (l==m))/\AT w.heap.size w w':=by
 unfold Dp at hl hm;have hc:=AnyE.slices_Equal Tryz.eEqual Value.string (fun x y=>x.toList==y.toList) (NeqAt.string _ _) g1 o1 l.length c1 g2 o2 m.length c2 (l.map fun t=>⟨t.toArray⟩) (m.map fun t=>⟨t.toArray⟩) w (by simp) (by simp) (by omega) (by omega) (fun j hj=>by
  have q0:j<l.length:=by simpa using hj
  rw[h1.2 j q0,getElem!_pos _ j hj,CH]) (fun j hj=>by
  have q0:j<m.length:=by simpa using hj
  rw[h2.2 j q0,getElem!_pos _ j hj,CH])
 refine hc.mono ?_;rintro e w' ⟨rfl,q,rfl⟩;refine⟨?_,⟨rfl,rfl,rfl,A3 _,fun _ _=>rfl⟩⟩;rw[CL (by simp),CL (by simp),LG]
theorem PG{a1 a2:Option Addr}{c d:Nat}:A5 AI 202 #[.slice a1 0 c,.slice a2 0 d] w fun e w'=>e=.returned (.bool true)/\AT w.heap.size w w':=by
 go_enter func202,ntmps202
 go_wp2
 go_loopg [13] 0 (fun g q0 wr=>q0=.int .i64 (0:Nat)/\wr=w)
 case atStart=>exact⟨rfl,rfl⟩
 case round=>
  obtain⟨rfl,rfl⟩:=hrel
  go_wp2
  go_ret;exact⟨rfl,A2 _ _⟩
end Go.Proofs.YtdpomdelmdofmaaGreatDoor
