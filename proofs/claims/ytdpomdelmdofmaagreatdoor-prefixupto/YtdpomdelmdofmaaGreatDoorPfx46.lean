import Derived.Test.YtdpomdelmdofmaaGreatDoorPfx45
open Option.some renaming inj->AI
open Go renaming undef->AS,wpOpIn_step->AT,World->Bs,heap_alloc_new->BY,callsIn_wide->D0,Value->D1,wpIn_region_any->G0
open Array renaming getElem?_eq_some_iff->A1,replicate->D2,getD->G2
open List renaming drop_eq_nil_of_le->A2,drop_eq_getElem_cons->A3,length_cons->CL,length_append->C2,length_nil->D3,length_map->G1
open Go.RowKit.Below renaming heap_alloc->A4,refl->G3
open Or renaming inl->A5,inr->Ft
open Go.World renaming cell?->A6,size_alloc->Dp,putObj_heap_other->DD
open Go.Proofs.Tryz renaming prog->CD
open Nat renaming le_refl->CH,mul_le_mul_right->E0,le_trans->F1,reduceAdd->HB,succ_mul->HE,zero_le->HF
open Go.Region renaming ready->CR,Mode->F5,binds->HD
open Go.Builtin renaming max_->C1,max2->F2
open Go.IntKind renaming wrap_i64->Dt
open Go.Value renaming ownBlock->HA
open Go.RowKit renaming Below->HC
set_option maxRecDepth 100000
set_option maxHeartbeats 8000000
namespace Go.Proofs.YtdpomdelmdofmaaGreatDoor
open Go.Proofs.Tryz Go.RowKit Go.Maps
variable{F:Fence}{P:Program}{Q:Exit->Act->Bs->Prop}{w W:Bs}{s1 s2:D1}{C B X pl pc:Nat}{V:Nat->Nat->Nat}{x:Option Addr}{a b:List To}{ops':List Zk}{p:Addr}
theorem NY{n:Nat}{md:F5}{ops:Array Oper}(I:Array Bool->Act->Bs->Prop)(hs:∀l a w,I l a w -> ∀i,i∈CR md ops l->wpOpIn F n P ops Q i (I (l.setIfInBounds i true)) a w)(he:∀l a w,I l a w->CR md ops l=[]->Q .normal a w):∀ (q0:Nat) (l:Array Bool) (a:Act) (w:Bs),FI l<=q0->I l a w->wpAnyIn F n P md ops Q q0 l a w:=by
 intro q0;induction q0 with
 | zero=>
  intro l a w hl hi;have hr:CR md ops l=[]:=by
   rw[List.eq_nil_iff_forall_not_mem];intro i hm;have h1:=(BC hm).1;rw[JL (by omega) i] at h1;cases h1
  exact⟨hr,he l a w hi hr⟩
 | succ n ih=>
  intro l a w hl hi;refine⟨fun hr=>he l a w hi hr,fun i hm=>wpOpIn_mono (fun a' w' h'=>ih _ a' w' ?_ h') (hs l a w hi i hm)⟩;have:=Lk (BC hm).1;omega
theorem Mc{m:Nat}{md:F5}{ops:Array Oper}(I:Array Bool->Act->Bs->Prop)(hs:∀l a w,FB md ops l->I l a w -> ∀i,i∈CR md ops l->wpOpIn F m P ops Q i (I (l.setIfInBounds i true)) a w)(he:∀l a w,I l a w->CR md ops l=[]->Q .normal a w)(n:Nat)(a:Act)(w:Bs)(h:I (D2 n false) a w):wpAnyIn F m P md ops Q n (D2 n false) a w:=by
 refine NY (fun l a w=>FB md ops l/\I l a w) (fun l a w hI i hi=>?_) (fun l a w hI hr=>he l a w hI.2 hr) n _ a w ?_ ⟨?_,h⟩
 ·exact wpOpIn_mono (fun a' w' h'=>⟨hI.1.next hi,h'⟩) (hs l a w hI.1 hI.2 i hi)
 ·unfold FI;refine F1 List.countP_le_length ?_;simp
 ·intro i o _ hi
  exfalso
  rw[Array.getD_eq_getD_getElem?,Array.getElem?_replicate] at hi;split at hi<;>cases hi
def upd(L:Nat->Bool)(i:Nat):Nat->Bool:=fun j=>if j=i then true else L j
def Tg(md:F5)(L:Nat->Bool)(o:Oper):Prop:=∀e∈o.after,HD md e=true->L e.on=true
theorem QT{l:Array Bool}{i:Nat}(h:i<l.size):(fun j=>(l.setIfInBounds i true).getD j false)=upd (fun j=>l.getD j false) i:=by
 funext j
 unfold upd;by_cases hj:j=i
 ·subst hj;simp[G2,h]
 ·rw[if_neg hj];exact getD_set_ne _ (fun e=>hj e.symm)
theorem Ix{m:Nat}{ops:Array Oper}(A:(Nat->Bool)->Act)(Wd:(Nat->Bool)->Bs)(n:Nat)(hn:ops.size=n)(hw:(List.range ops.size).all (fun i=>((ops[i]?).map fun o=>o.after.all fun e=>!HD .any e || decide (e.on<i)).getD true)=true)(hs:∀L i o,ops[i]? = some o->i<n->L i=false->Tg .any L o->(∀j oj,ops[j]? = some oj->L j=true->Tg .any L oj) -> ∀K:Act->Bs->Prop,K (A (upd L i)) (Wd (upd L i))->wpOpIn F m P ops Q i K (A L) (Wd L))(he:∀L,(∀i,i<n->L i=true)->Q .normal (A L) (Wd L)):wpAnyIn F m P .any ops Q ops.size (D2 ops.size false) (A fun _=>false) (Wd fun _=>false):=by
 subst hn;refine Mc (fun l a w=>l.size=ops.size/\a=A (fun j=>l.getD j false)/\w=Wd (fun j=>l.getD j false)) ?_ ?_ _ _ _ ⟨by simp,?_,?_⟩
 ·rintro l a w q4 ⟨hsz,rfl,rfl⟩ i hi;obtain⟨hno,q0⟩:=BC hi;obtain⟨_,o,ho,_⟩:=mem_ready.1 hi;have hlt:=(A1.1 ho).1;refine hs _ i o ho hlt (by simpa[G2,hsz,hlt] using hno) (fun e h1 h2=>q0 o ho e h1 h2) (fun j oj hj hL e h1 h2=>q4 j oj hj hL e h1 h2) _ ?_;exact⟨by simp[hsz],by rw[QT (by omega)],by rw[QT (by omega)]⟩
 ·rintro l a w ⟨hsz,rfl,rfl⟩ hr;exact he _ (D5 hsz hw hr)
 all_goals (
  congr 1;funext j;simp[G2])
section
attribute [local go_sem] Oper.semAt_some
theorem Ig{f:Nat}{F:Nat->Prop}{sl:D1}{ps:List D1}{xs:List To}(h:w.ownsRow 0 80 1 sl ps.length ps)(a:Al (Rep f F w) ps xs):ps.length=xs.length/\xs.length<=maxLen /\ ∃ (ao:Option Addr) (cap g:Nat) (c:Nat->Option Addr),sl=.slice ao xs.length cap/\(0<xs.length->ao=some ⟨g,0,none⟩/\g<w.heap.size)/\(∀k,k<xs.length->w.cell? ⟨g,k,none⟩=some (.pointer (c k))) /\ ∀k (hk:k<xs.length),Rep f F w (.pointer (c k)) xs[k]:=by
 have hl:=a.length;obtain⟨c,hc⟩:∃c:Nat->Option Addr,∀k (hk:k<xs.length),ps[k]'(by omega)=.pointer (c k):=by
  refine⟨fun k=>if hk:k<xs.length then (match ps[k]'(by omega) with | .pointer p=>p|_=>none) else none,fun k hk=>?_⟩;obtain⟨b,e,_⟩:=Rep.ptr (a.get k (by omega) hk);simp only[hk,dif_pos,e]
 have hr:∀k (hk:k<xs.length),Rep f F w (.pointer (c k)) xs[k]:=fun k hk=>by
  rw[<- hc k hk];exact a.get k (by omega) hk
 rcases Nat.eq_zero_or_pos xs.length with h0|hp
 ·obtain⟨ao,n,cap,e,hn,_⟩:∃ao n cap,sl=.slice ao n cap/\n=xs.length/\True:=by
   rcases h.2 with⟨e,h1⟩|⟨g,cap,cur,e,_⟩
   ·exact⟨_,_,_,e,by omega,trivial⟩
   ·exact⟨_,_,_,e,by omega,trivial⟩
  subst hn;exact⟨hl,by unfold maxLen;omega,ao,cap,0,c,e,(fun hh=>by omega),(fun k hk=>by omega),hr⟩
 ·obtain⟨g,cap,e,h1,h2,h3,h4⟩:=Bh h (by omega);rw[hl] at e h1;exact⟨hl,by omega,some ⟨g,0,none⟩,cap,g,c,e,fun _=>⟨rfl,h3⟩,fun k hk=>by rw[h4 k (by omega),hc k hk],hr⟩
theorem Wp(a b c:Nat)(h:c=max a b)(q0:Array TypeId)(ty:TypeId)(w:Bs):(C1 q0 ty #[.int .i64 a,.int .i64 b]).run CD w=.ok (.int .i64 c) w:=by
 subst h;by_cases h2:a<=b
 ·have e:max a b=b:=by omega
  rw[e];by_cases h3:(a:Int)<b
  ·simp[C1,F2,h3]
  ·have e2:a=b:=by omega
   subst e2;simp[C1,F2]
 ·have e:max a b=a:=by omega
  rw[e];have h3:¬ (a:Int)<b:=by omega
  simp[C1,F2,h3]
structure OuA(w:Bs)(s1 s2:D1)(C:Nat)(V:Nat->Nat->Nat)(B X i:Nat)(x:Option Addr)(W:Bs):Prop where
 inv:LnI w s1 s2 C V W
 ne:B+1<X
 bi:W.heap[X]? = some (.cells #[.int .i64 i] 3 (0,0))
 bx:W.heap[X+1]? = some (.cells #[.pointer x] 80 (0,0))
theorem OuA.kept{W':Bs}{i:Nat}(h:OuA w s1 s2 C V B X i x W)(hB:w.heap.size+4<=B)(e1:W'.os=W.os)(e2:W'.tape=W.tape)(e3:W'.output=W.output)(e4:W.heap.size<=W'.heap.size)(e5:∀j,j<W.heap.size->j≠B->j≠B+1->W'.heap[j]? = W.heap[j]?):OuA w s1 s2 C V B X i x W':=by
 have hn:=h.ne;exact⟨h.inv.kept e1 e2 e3 e4 fun j hj=>e5 j (by have:=h.inv.sz;omega) (by omega) (by omega),hn,(e5 X (A1.1 h.bi).1 (by omega) (by omega)).trans h.bi,(e5 (X+1) (A1.1 h.bx).1 (by omega) (by omega)).trans h.bx⟩
structure InI(w:Bs)(s1 s2:D1)(C:Nat)(V:Nat->Nat->Nat)(B X i:Nat)(x:Option Addr)(W W2:Bs):Prop where
 inv:OuA w s1 s2 C V B X i x W2
 two:Two B W W2
 bac:W2.heap[W.heap.size]? = some (.cells #[s2] 106 (0,0))
theorem InI.kept{W2 W':Bs}{i:Nat}(h:InI w s1 s2 C V B X i x W W2)(hB:w.heap.size+4<=B)(hW:X+1<W.heap.size)(e1:W'.os=W2.os)(e2:W'.tape=W2.tape)(e3:W'.output=W2.output)(e4:W2.heap.size<=W'.heap.size)(e5:∀j,j<W2.heap.size->j≠W.heap.size+1->j≠W.heap.size+1+1->W'.heap[j]? = W2.heap[j]?):InI w s1 s2 C V B X i x W W':=by
 have hn:=h.inv.ne;have hb:=(A1.1 h.bac).1;refine⟨⟨h.inv.inv.kept e1 e2 e3 e4 fun j hj=>e5 j (by have:=h.inv.inv.sz;omega) (by omega) (by omega),hn,(e5 X (by omega) (by omega) (by omega)).trans h.inv.bi,(e5 (X+1) (by omega) (by omega) (by omega)).trans h.inv.bx⟩,⟨(e5 B (by omega) (by omega) (by omega)).trans h.two.1,(e5 (B+1) (by omega) (by omega) (by omega)).trans h.two.2⟩,(e5 _ hb (by omega) (by omega)).trans h.bac⟩
theorem InI.next{W2 W4:Bs}{C':Nat}{V':Nat->Nat->Nat}{i:Nat}(h:InI w s1 s2 C V B X i x W W2)(hB:w.heap.size+4<=B)(hW:X+1<W.heap.size)(h4:LnI w s1 s2 C' V' W4)(hg:W2.grownBy W4 (some (w.heap.size+1))):InI w s1 s2 C' V' B X i x W W4:=by
 have hn:=h.inv.ne;have hb:=(A1.1 h.bac).1;have hk:∀j,j<W2.heap.size->j≠w.heap.size+1->W4.heap[j]? = W2.heap[j]?:=fun j hj q0=>hg.block j hj (fun e=>q0 (AI e));exact⟨⟨h4,hn,(hk X (by omega) (by omega)).trans h.inv.bi,(hk (X+1) (by omega) (by omega)).trans h.inv.bx⟩,⟨(hk B (by omega) (by omega)).trans h.two.1,(hk (B+1) (by omega) (by omega)).trans h.two.2⟩,(hk _ hb (by omega)).trans h.bac⟩
theorem LO{f:Nat}{F F':Nat->Prop}{yi yj:D1}{zs zt:List D1}{xs ys:List To}(o1:w.ownsRow 0 80 1 yi zs.length zs)(a1:Al (Rep f F w) zs xs)(o2:w.ownsRow 0 80 1 yj zt.length zt)(a2:Al (Rep f F' w) zt ys)(hn:(xs.length+1)*(ys.length+1)<=1000000):
  Calls CD 209 #[yi,yj] w fun e w'=>∃m cnt D,e=.returned (.map (some m))/\w.heap.size<=m/\w'.ownsMap CD 273 IE m cnt D/\Tb D (fun i j=>Zq (xs.drop i) (ys.drop j))/\HC w.heap.size w w':=by
 obtain⟨_,hN,ao1,cap1,g1,c1,rfl,zj,zh,ye⟩:=Ig o1 a1;obtain⟨_,hM,ao2,cap2,g2,c2,rfl,zk,zi,yf⟩:=Ig o2 a2;obtain⟨N,qw⟩:∃N,N=xs.length:=⟨_,rfl⟩
 obtain⟨M,qv⟩:∃M,M=ys.length:=⟨_,rfl⟩
 have j9:N<=1000000:=by
  have:(xs.length+1)*1<=(xs.length+1)*(ys.length+1):=Nat.mul_le_mul_left _ (by omega);omega
 have j8:M<=1000000:=by
  have:1*(ys.length+1)<=(xs.length+1)*(ys.length+1):=E0 _ (by omega);omega
 have ja:N*M<=1000000:=by
  have:xs.length*ys.length<=(xs.length+1)*(ys.length+1):=Nat.mul_le_mul (by omega) (by omega);rw[qw,qv];omega
 rw[<- qw] at hN zj zh;rw[<- qv] at hM zk zi;rw[<- qw,<- qv];obtain⟨wB,qj⟩:∃wB,wB=((((w.alloc (.cells #[.slice ao2 M cap2] 106)).alloc (.map #[] 0)).alloc (.cells #[.map (some (w.heap.size+1))] 270)).alloc (.cells #[.slice ao1 N cap1] 106)):=⟨_,rfl⟩
 obtain⟨qk,q7⟩:∃qk,qk=(w.alloc (.cells #[.slice ao2 M cap2] 106)).alloc (.map #[] 0):=⟨_,rfl⟩
 have z6:qk.heap.size=w.heap.size+2:=by rw[q7];simp
 have y9:wB.heap.size=w.heap.size+4:=by rw[qj,<- q7];simp[z6]
 have y8:HC w.heap.size w wB:=by
  rw[qj];exact ((((G3 _ w).alloc (CH _) _).alloc (by simp) _).alloc (by simp;omega) _).alloc (by simp;omega) _
 have y6:LnI w (.slice ao1 N cap1) (.slice ao2 M cap2) 0 (Zg xs ys 0 0) wB:=by
  have e1:∀j,j<w.heap.size+2->wB.heap[j]? = qk.heap[j]?:=fun j hj=>by
   rw[qj,<- q7];exact (A4 _ _ j (by simp;omega)).trans (A4 _ _ j (by omega))
  refine⟨?_,?_,?_,⟨0,.map [],CH _,?_,⟨⟨_,rfl⟩,fun i j _ _=>by rw[Y4];rfl⟩⟩,y8⟩
  ·rw[e1 _ (by omega),q7];exact (A4 _ _ _ (by simp)).trans (BY w _)
  ·rw[qj,<- q7];have:=BY qk (.cells #[.map (some (w.heap.size+1))] 270);rw[z6] at this;exact (A4 _ _ _ (by simp;omega)).trans this
  ·rw[qj,<- q7];have:=BY (qk.alloc (.cells #[.map (some (w.heap.size+1))] 270)) (.cells #[.slice ao1 N cap1] 106);rw[Dp,z6] at this;exact this
  ·refine EB (w:=qk) ?_ (e1 _ (by omega));rw[q7];have:=World.ownsMap_made (w.alloc (.cells #[.slice ao2 M cap2] 106)) CD 273 IE;rw[Dp] at this;exact this
 have jc:=@run_makeMap CD;have qf:=Ab qw;have qm:=Ab qv;have yw:=Ab qj;have yp:=Ab y6;have qe:=Ab y9;have zw:=Ab zj;have zx:=Ab zk;have ym:=Ab zh;have yo:=Ab zi;have yt:=Ab ye;have yu:=Ab yf;clear o1 o2 a1 a2 hn qw qv qj q7 z6 y6 y9 zj zk zh zi ye yf y8;refine (D0 (n:=0)).1 (callsIn_of_wp_marks func209 rfl trivial ?_ rfl);simp only[ntmps209,List.size_toArray,CL,D3,HB,Nat.reduceSub,Array.replicate_succ,Array.replicate_zero,List.push_toArray,List.append_toArray,List.nil_append,List.cons_append]
 gi_wp2_with (refine⟨trivial,rfl,?_⟩;gi_at_call 254;refine (D0.2 LB).mono ?_;rintro e w' ⟨rfl,rfl⟩)
 simp only[Nat.add_assoc,HB];rw[<- Aa yw];refine FU (gf:=292) (lb:=#[.pointer (some ⟨w.heap.size+3,0,none⟩)]) rfl (Fv func292 (by kernel_rfl) rfl) N (fun k=>#[.int .i64 ((N-1-k:Nat):Int),.pointer (c1 (N-1-k))]) (fun _=>rfl) (fun k=>LnI w (.slice ao1 N cap1) (.slice ao2 M cap2) (k*M) (Zg xs ys k 0))
  (fun k a' W=>∃X,OuA w (.slice ao1 N cap1) (.slice ao2 M cap2) (k*M) (Zg xs ys k 0) wB.heap.size X (N-1-k) (c1 (N-1-k)) W/\a'={ tmps:=#[.slice ao1 N cap1,.slice ao2 M cap2,AS,.pointer (some ⟨w.heap.size,0,none⟩),.map none,.pointer (some ⟨w.heap.size+2,0,none⟩),.pointer (some ⟨X,0,none⟩),.pointer (some ⟨X+1,0,none⟩),AS,AS,.map (some (w.heap.size+1)),.slice ao1 N cap1,.func (.func 292) #[] #[.pointer (some ⟨w.heap.size+3,0,none⟩)],.int .i64 ((N-1-k:Nat):Int),.pointer (c1 (N-1-k)),AS,AS,AS,AS,AS,AS,AS,AS,AS,AS,AS,AS,AS,AS,AS,AS,AS,AS,AS,AS,AS,AS,AS,AS,AS,AS,AS,AS,AS,AS,AS,AS,AS,AS,AS,AS,AS],defers:=[] })
  ?hI ?hA (by rw[Nat.zero_mul];exact Aa yp) ?hiter ?hassign ?hbody ?hdone
 case hI=>
  rw[Aa qe];intro k W W' h e1 e2 e3 e4 e5;exact h.kept e1 e2 e3 e4 fun j hj=>e5 j (by have:=h.sz;omega) (by omega) (by omega)
 case hA=>
  rintro k a' W W' ⟨X,hX,e⟩ e1 e2 e3 e4 e5;exact⟨X,hX.kept (by rw[Aa qe];omega) e1 e2 e3 e4 e5,e⟩
 case hiter=>
  intro l J W ze hY zc;refine LD (cap:=cap1) (c:=c1) (g:=g1) hN (fun hp=>(Aa zw hp).1) (fun k W hj=>?_) hY zc;have hi:=ze k W hj;refine⟨by have:=hi.bac;simp[A6,this],fun j zn=>?_⟩;have hp:=Aa zw (by omega);exact (hi.bel.cell (p:=⟨g1,j,none⟩) hp.2).trans (Aa ym j zn)
 case hassign=>
  intro l k W hk hi hsz;have q9:=Ab hi;clear hi
  gi_wp2
  have hb:=((G3 W.heap.size W).alloc (CH _) (.cells #[.int .i64 ((N-1-k:Nat):Int)] 3)).alloc (by simp) (.cells #[.pointer (c1 (N-1-k))] 80);have h2:=BY (W.alloc (.cells #[.int .i64 ((N-1-k:Nat):Int)] 3)) (.cells #[.pointer (c1 (N-1-k))] 80);rw[Dp] at h2;exact⟨⟨hb.block _ (by omega),hb.block _ hsz⟩,(Aa q9).low hb,hsz,(A4 _ _ _ (by simp)).trans (BY W _),h2⟩
 case hbody=>
  rintro l k a' W hk ⟨X,hX,rfl⟩ hsz ⟨hl,r0,hl0⟩;have bx:=hX.inv.box;have jg:=hX.inv.sz;have bc:W.cell? ⟨w.heap.size,0,none⟩=some (.slice ao2 M cap2):=by simp[A6,bx]
  have qn:X+1<W.heap.size:=(A1.1 hX.bx).1;have HX:=Ab hX;have yr:=Ab hl0;have HL:=Ab hl;obtain⟨W1,qx⟩:∃W1,W1=W.alloc (.cells #[.slice ao2 M cap2] 106):=⟨_,rfl⟩
  have yg:W1.heap.size=W.heap.size+1:=by rw[qx];simp
  have hb1:HC W.heap.size W W1:=by rw[qx];exact (G3 _ _).alloc (CH _) _
  have y7:InI w (.slice ao1 N cap1) (.slice ao2 M cap2) (k*M) (Zg xs ys k 0) wB.heap.size X (N-1-k) (c1 (N-1-k)) W W1:=by
   refine⟨hX.kept (by rw[Aa qe];omega) hb1.os hb1.tape hb1.output hb1.size fun j hj _ _=>hb1.block j hj,⟨hb1.block _ (by omega),hb1.block _ hsz⟩,by rw[qx];exact BY W _⟩
  have yv:=Ab qx;have yq:=Ab y7;have yl:=Ab hb1;clear hX bx hl0 hl qx y7 hb1
  gi_wp2_with (refine⟨trivial,rfl,?_⟩;gi_at_call 254;refine (D0.2 LB).mono ?_;rintro e w' ⟨rfl,rfl⟩)
  rw[<- Aa yv];refine Km (r₀:=r0) (gf:=292) (lb:=#[.pointer (some ⟨W.heap.size,0,none⟩)]) ((Aa yl).block l (by have:=Aa HL;omega) |>.trans (Aa yr)) rfl (Fv func292 (by kernel_rfl) rfl) M (fun q=>#[.int .i64 ((M-1-q:Nat):Int),.pointer (c2 (M-1-q))]) (fun _=>rfl) (fun q=>InI w (.slice ao1 N cap1) (.slice ao2 M cap2) (k*M+q) (Zg xs ys k q) wB.heap.size X (N-1-k) (c1 (N-1-k)) W)
   (fun q a' W2=>InI w (.slice ao1 N cap1) (.slice ao2 M cap2) (k*M+q) (Zg xs ys k q) wB.heap.size X (N-1-k) (c1 (N-1-k)) W W2/\a'={ tmps:=#[.slice ao1 N cap1,.slice ao2 M cap2,AS,.pointer (some ⟨w.heap.size,0,none⟩),.map none,.pointer (some ⟨w.heap.size+2,0,none⟩),.pointer (some ⟨X,0,none⟩),.pointer (some ⟨X+1,0,none⟩),.int .i64 ((M-1-q:Nat):Int),.pointer (c2 (M-1-q)),.map (some (w.heap.size+1)),.slice ao1 N cap1,.func (.func 292) #[] #[.pointer (some ⟨w.heap.size+3,0,none⟩)],.int .i64 ((N-1-k:Nat):Int),.pointer (c1 (N-1-k)),.slice ao2 M cap2,.func (.func 292) #[] #[.pointer (some ⟨W.heap.size,0,none⟩)],.int .i64 ((M-1-q:Nat):Int),.pointer (c2 (M-1-q)),AS,AS,AS,AS,AS,AS,AS,AS,AS,AS,AS,AS,AS,AS,AS,AS,AS,AS,AS,AS,AS,AS,AS,AS,AS,AS,AS,AS,AS,AS,AS,AS,AS],defers:=[] })
   ?hI2 ?hA2 (Aa yq) ?hiter2 ?hassign2 ?hbody2 ?hdone2
  case hI2=>
   rw[yg];intro q W2 W3 h e1 e2 e3 e4 e5;exact h.kept (by rw[Aa qe];omega) qn e1 e2 e3 e4 fun j hj h1 h2=>e5 j hj h1 h2
  case hA2=>
   rw[yg];rintro q a' W2 W3 ⟨h,e⟩ e1 e2 e3 e4 e5;exact⟨h.kept (by rw[Aa qe];omega) qn e1 e2 e3 e4 fun j hj h1 h2=>e5 j hj h1 h2,e⟩
  case hiter2=>
   intro l2 J W2 ze hY zc;refine LD (cap:=cap2) (c:=c2) (g:=g2) hM (fun hp=>(Aa zx hp).1) (fun q W2 hj=>?_) hY zc;have hi:=ze q W2 hj;refine⟨by have:=hi.bac;simp[A6,this],fun j zn=>?_⟩;have hp:=Aa zx (by omega);exact (hi.inv.inv.bel.cell (p:=⟨g2,j,none⟩) hp.2).trans (Aa yo j zn)
  case hassign2=>
   intro l2 q W2 hq hi zq;have q9:=Ab hi;clear hi
   gi_wp2
   exact Aa q9
  case hdone2=>
   intro W2 hI2;have h3:=hI2.inv.inv.as (C':=(k+1)*M) (V':=Zg xs ys (k+1) 0) (by rw[HE];omega) (fun i j=>by rw[Aa qm];exact XE k i j);have q9:=Ab (And.intro hI2.two h3);clear hI2 h3
   gi_wp2
   exact Aa q9
  case hbody2=>
   rintro l2 q a' W2 hq ⟨hI2,rfl⟩ zq;have yk:=hI2.inv.bx;have xc:W2.cell? ⟨X+1,0,none⟩=some (.pointer (c1 (N-1-k))):=by simp[A6,yk]
   have zg:=hI2.inv.inv.bel;have qb:=Ab (Eq f F F' W2 _ _ _ _ ((Aa yt (N-1-k) (by have:=Aa qf;omega)).bel zg) ((Aa yu (M-1-q) (by have:=Aa qm;omega)).bel zg));have q9:=Ab hI2;clear yk zg hI2;obtain⟨i0,z1⟩:∃i0,i0=N-1-k:=⟨_,rfl⟩
   obtain⟨j0,zm⟩:∃j0,j0=M-1-q:=⟨_,rfl⟩
   have zl:i0<=1000000:=by omega
   have zo:j0<=1000000:=by omega
   have q6:=Ab (fun i j=>Wr (xs:=xs) (ys:=ys) (k:=k) (q:=q) (by have:=Aa qf;omega) (by have:=Aa qm;omega) i j);have qo:=Ab (show k*M+q<1000000000 by
    have:(k+1)*M<=N*M:=E0 _ (by omega);rw[HE] at this;omega)
   obtain⟨vq,zr⟩:∃vq,vq=veq (xs[N-1-k]'(by have:=Aa qf;omega)) (ys[M-1-q]'(by have:=Aa qm;omega)):=⟨_,rfl⟩
   rw[<- zr] at qb;simp only[<- Aa qf,<- Aa qm,<- zr] at q6;rw[<- z1,<- zm] at qb q6;rw[<- z1] at xc q9;simp only[<- z1,<- zm];obtain⟨i1,ya⟩:∃i1,i1=i0+1:=⟨_,rfl⟩
   obtain⟨j1,yc⟩:∃j1,j1=j0+1:=⟨_,rfl⟩
   simp only[<- ya,<- yc] at q6;have w1:IntKind.i64.wrap ((i0:Int)+1)=(i1:Int):=by rw[Dt];omega
   have w2:IntKind.i64.wrap ((j0:Int)+1)=(j1:Int):=by rw[Dt];omega
   have yb:i1<=1000000:=by have:=Aa qf;omega
   have yd:j1<=1000000:=by have:=Aa qm;omega
   have z7:=Ab (fun i j=>show Zg xs ys k q i j<=1000000 from F1 (Vc k q i j) (by have:=Aa qf;omega));clear zr z1 zm ya yc
   gi_wp2_with (refine⟨trivial,rfl,?_⟩;gi_at_call 82;refine (D0.2 (Aa qb)).mono ?_;rintro e W3 ⟨rfl,hb3⟩;have zv:=Ab hb3;clear hb3;cases vq)
   case true=>
    have hb3:=Aa zv;have q8:=(Aa q9).kept (by rw[Aa qe];omega) qn hb3.os hb3.tape hb3.output hb3.size fun j hj _ _=>hb3.block j hj;obtain⟨u,hu⟩:∃u,u=Zg xs ys k q i1 j1:=⟨_,rfl⟩
    have lk:=q8.inv.inv.look (i:=i1) (j:=j1) yb yd (W':=W3.drew) rfl;rw[<- hu] at lk;have je:u<=1000000:=by rw[hu];exact Aa z7 i1 j1
    obtain⟨u1,yh⟩:∃u1,u1=1+u:=⟨_,rfl⟩
    have w3:IntKind.i64.wrap (1+(u:Int))=(u1:Int):=by rw[Dt];omega
    have jf:u1<=1000000:=by
     have h8:=Aa q6 i0 j0;rw[if_pos ⟨rfl,rfl⟩] at h8;simp only[if_true] at h8;have h9:=Vc (xs:=xs) (ys:=ys) k (q+1) i0 j0;have:=Aa qf;omega
    obtain⟨W4,yy,qu,qi⟩:=q8.inv.inv.put (a:=i0) (b:=j0) (v:=u1) (Aa qo) zl zo (by omega);have r5:W3.drew.cell? ⟨w.heap.size+2,0,none⟩=some (.map (some (w.heap.size+1))):=(show W3.cell? _=_ from by have:=q8.inv.inv.left;simp[A6,this])
    have r6:W3.drew.cell? ⟨X,0,none⟩=some (.int .i64 i0):=(show W3.cell? _=_ from by have:=q8.inv.bi;simp[A6,this])
    have qg:=Ab (show W4.heap[W.heap.size+1]? = W2.heap[W.heap.size+1]? /\ InI w (.slice ao1 N cap1) (.slice ao2 M cap2) (k*M+(q+1)) (Zg xs ys k (q+1)) wB.heap.size X i0 (c1 i0) W W4 from by
     have h5:=qu.as (V':=Zg xs ys k (q+1)) (CH _) (fun i j=>by have h8:=Aa q6 i j;simp only[if_true] at h8;rw[yh,hu];exact h8);refine⟨(qi.block _ (by have:=hb3.size;omega) (fun e=>?_)).trans (hb3.block _ (by omega)),q8.next (by rw[Aa qe];omega) qn h5 qi⟩;have:=AI e;omega)
    clear q8 qu qi hb3 xc hu yh
    gi_wp2
    refine G0 (by kernel_rfl) ?_;refine Ix (A:=fun L=>{ tmps:=#[.slice ao1 N cap1,.slice ao2 M cap2,AS,.pointer (some ⟨w.heap.size,0,none⟩),.map none,.pointer (some ⟨w.heap.size+2,0,none⟩),.pointer (some ⟨X,0,none⟩),.pointer (some ⟨X+1,0,none⟩),.int .i64 j0,.pointer (c2 j0),.map (some (w.heap.size+1)),.slice ao1 N cap1,.func (.func 292) #[] #[.pointer (some ⟨w.heap.size+3,0,none⟩)],.int .i64 i0,.pointer (c1 i0),.slice ao2 M cap2,.func (.func 292) #[] #[.pointer (some ⟨W.heap.size,0,none⟩)],.int .i64 j0,.pointer (c2 j0),.pointer (c1 i0),.pointer (c2 j0),.bool true,cond (L 0) (.map (some (w.heap.size+1))) AS,cond (L 1) (.int .i64 i0) AS,cond (L 2) (.int .i64 j0) AS,cond (L 3) (.agg #[.int .i64 i0,.int .i64 j0]) AS,cond (L 4) (.map (some (w.heap.size+1))) AS,cond (L 5) (.int .i64 i0) AS,cond (L 6) (.int .i64 i1) AS,cond (L 7) (.int .i64 j0) AS,cond (L 8) (.int .i64 j1) AS,cond (L 9) (.agg #[.int .i64 i1,.int .i64 j1]) AS,cond (L 10) (.int .i64 u) AS,cond (L 11) (.int .i64 u1) AS,AS,AS,AS,AS,AS,AS,AS,AS,AS,AS,AS,AS,AS,AS,AS,AS,AS,AS],defers:=[] }) (Wd:=fun L=>cond (L 12) W4 W3.drew) 13 rfl (by kernel_rfl) ?hs ?he
    case hs=>
     intro L i o ho hi hno q0 q5 K hK;have qd:i=0\/i=1\/i=2\/i=3\/i=4\/i=5\/i=6\/i=7\/i=8\/i=9\/i=10\/i=11\/i=12:=by omega
     rcases qd with rfl|rfl|rfl|rfl|rfl|rfl|rfl|rfl|rfl|rfl|rfl|rfl|rfl
     ·obtain rfl:=AI ho;have nl:L 12=false:=by
       cases h:L 12
       ·rfl
       ·exact absurd (q5 12 _ rfl h ⟨0,.phase⟩ (by simp) rfl) (by rw[hno];decide)
      refine AT rfl fun K' q4=>?_;simp (decide:=true) only[upd,nl,hno,cond_true,cond_false,if_true,if_false] at hK |-
      go_simp;exact q4 _ _ hK
     ·obtain rfl:=AI ho;have nl:L 12=false:=by
       cases h:L 12
       ·rfl
       ·exact absurd (q5 12 _ rfl h ⟨1,.phase⟩ (by simp) rfl) (by rw[hno];decide)
      refine AT rfl fun K' q4=>?_;simp (decide:=true) only[upd,nl,hno,cond_true,cond_false,if_true,if_false] at hK |-
      go_simp;exact q4 _ _ hK
     ·obtain rfl:=AI ho;have nl:L 12=false:=by
       cases h:L 12
       ·rfl
       ·exact absurd (q5 12 _ rfl h ⟨2,.phase⟩ (by simp) rfl) (by rw[hno];decide)
      refine AT rfl fun K' q4=>?_;simp (decide:=true) only[upd,nl,hno,cond_true,cond_false,if_true,if_false] at hK |-
      go_simp;exact q4 _ _ hK
     ·obtain rfl:=AI ho;have a1:=q0 ⟨1,.data⟩ (by simp) rfl;have a2:=q0 ⟨2,.data⟩ (by simp) rfl;have nl:L 12=false:=by
       cases h:L 12
       ·rfl
       ·exact absurd (q5 12 _ rfl h ⟨3,.phase⟩ (by simp) rfl) (by rw[hno];decide)
      refine AT rfl fun K' q4=>?_;simp (decide:=true) only[upd,a1,a2,nl,hno,cond_true,cond_false,if_true,if_false] at hK |-
      go_simp;exact q4 _ _ hK
     ·obtain rfl:=AI ho;have nl:L 12=false:=by
       cases h:L 12
       ·rfl
       ·exact absurd (q5 12 _ rfl h ⟨4,.phase⟩ (by simp) rfl) (by rw[hno];decide)
      refine AT rfl fun K' q4=>?_;simp (decide:=true) only[upd,nl,hno,cond_true,cond_false,if_true,if_false] at hK |-
      go_simp;exact q4 _ _ hK
     ·obtain rfl:=AI ho;have nl:L 12=false:=by
       cases h:L 12
       ·rfl
       ·exact absurd (q5 12 _ rfl h ⟨5,.phase⟩ (by simp) rfl) (by rw[hno];decide)
      refine AT rfl fun K' q4=>?_;simp (decide:=true) only[upd,nl,hno,cond_true,cond_false,if_true,if_false] at hK |-
      go_simp;exact q4 _ _ hK
     ·obtain rfl:=AI ho;have a5:=q0 ⟨5,.data⟩ (by simp) rfl;have nl:L 12=false:=by
       cases h:L 12
       ·rfl
       ·exact absurd (q5 12 _ rfl h ⟨6,.phase⟩ (by simp) rfl) (by rw[hno];decide)
      refine AT rfl fun K' q4=>?_;simp (decide:=true) only[upd,a5,nl,hno,cond_true,cond_false,if_true,if_false] at hK |-
      go_simp;exact q4 _ _ hK
     ·obtain rfl:=AI ho;have nl:L 12=false:=by
       cases h:L 12
       ·rfl
       ·exact absurd (q5 12 _ rfl h ⟨7,.phase⟩ (by simp) rfl) (by rw[hno];decide)
      refine AT rfl fun K' q4=>?_;simp (decide:=true) only[upd,nl,hno,cond_true,cond_false,if_true,if_false] at hK |-
      go_simp;exact q4 _ _ hK
     ·obtain rfl:=AI ho;have a7:=q0 ⟨7,.data⟩ (by simp) rfl;have nl:L 12=false:=by
       cases h:L 12
       ·rfl
       ·exact absurd (q5 12 _ rfl h ⟨8,.phase⟩ (by simp) rfl) (by rw[hno];decide)
      refine AT rfl fun K' q4=>?_;simp (decide:=true) only[upd,a7,nl,hno,cond_true,cond_false,if_true,if_false] at hK |-
      go_simp;exact q4 _ _ hK
     ·obtain rfl:=AI ho;have a6:=q0 ⟨6,.data⟩ (by simp) rfl;have a8:=q0 ⟨8,.data⟩ (by simp) rfl;have nl:L 12=false:=by
       cases h:L 12
       ·rfl
       ·exact absurd (q5 12 _ rfl h ⟨9,.phase⟩ (by simp) rfl) (by rw[hno];decide)
      refine AT rfl fun K' q4=>?_;simp (decide:=true) only[upd,a6,a8,nl,hno,cond_true,cond_false,if_true,if_false] at hK |-
      go_simp;exact q4 _ _ hK
     ·obtain rfl:=AI ho;have a4:=q0 ⟨4,.data⟩ (by simp) rfl;have a9:=q0 ⟨9,.data⟩ (by simp) rfl;have nl:L 12=false:=by
       cases h:L 12
       ·rfl
       ·exact absurd (q5 12 _ rfl h ⟨10,.phase⟩ (by simp) rfl) (by rw[hno];decide)
      refine AT rfl fun K' q4=>?_;simp (decide:=true) only[upd,a4,a9,nl,hno,cond_true,cond_false,if_true,if_false] at hK |-
      go_simp;exact q4 _ _ hK
     ·obtain rfl:=AI ho;have qh:=q0 ⟨10,.data⟩ (by simp) rfl;have nl:L 12=false:=by
       cases h:L 12
       ·rfl
       ·exact absurd (q5 12 _ rfl h ⟨11,.phase⟩ (by simp) rfl) (by rw[hno];decide)
      refine AT rfl fun K' q4=>?_;simp (decide:=true) only[upd,qh,nl,hno,cond_true,cond_false,if_true,if_false] at hK |-
      go_simp;exact q4 _ _ hK
     ·obtain rfl:=AI ho;have a0:=q0 ⟨0,.data⟩ (by simp) rfl;have a1:=q0 ⟨1,.phase⟩ (by simp) rfl;have a2:=q0 ⟨2,.phase⟩ (by simp) rfl;have a3:=q0 ⟨3,.data⟩ (by simp) rfl;have a4:=q0 ⟨4,.phase⟩ (by simp) rfl;have a5:=q0 ⟨5,.phase⟩ (by simp) rfl;have a6:=q0 ⟨6,.phase⟩ (by simp) rfl;have a7:=q0 ⟨7,.phase⟩ (by simp) rfl;have a8:=q0 ⟨8,.phase⟩ (by simp) rfl;have a9:=q0 ⟨9,.phase⟩ (by simp) rfl;have qh:=q0 ⟨10,.phase⟩ (by simp) rfl;have qp:=q0 ⟨11,.data⟩ (by simp) rfl;refine AT rfl fun K' q4=>?_;simp (decide:=true) only[upd,a0,a1,a2,a3,a4,a5,a6,a7,a8,a9,qh,qp,hno,cond_true,cond_false,if_true,if_false] at hK |-
      go_simp;exact q4 _ _ hK
    case he=>
     intro L hL;have h0:=hL 0 (by decide);have h1:=hL 1 (by decide);have h2:=hL 2 (by decide);have h3:=hL 3 (by decide);have h4:=hL 4 (by decide);have h5:=hL 5 (by decide);have h6:=hL 6 (by decide);have h7:=hL 7 (by decide);have h8:=hL 8 (by decide);have h9:=hL 9 (by decide);have qq:=hL 10 (by decide);have qr:=hL 11 (by decide);have qt:=hL 12 (by decide);simp only[h0,h1,h2,h3,h4,h5,h6,h7,h8,h9,qq,qr,qt,cond_true];clear hL h0 h1 h2 h3 h4 h5 h6 h7 h8 h9 qq qr qt
     gi_wp2
     exact Aa qg
   case false=>
    have hb3:=Aa zv;have q8:=(Aa q9).kept (by rw[Aa qe];omega) qn hb3.os hb3.tape hb3.output hb3.size fun j hj _ _=>hb3.block j hj;obtain⟨a1,qy⟩:∃a1,a1=Zg xs ys k q i1 j0:=⟨_,rfl⟩
    obtain⟨a2,qz⟩:∃a2,a2=Zg xs ys k q i0 j1:=⟨_,rfl⟩
    have yz:=q8.inv.inv.look (i:=i1) (j:=j0) yb zo (W':=W3.drew) rfl;have j3:=q8.inv.inv.look (i:=i0) (j:=j1) zl yd (W':=W3.drew) rfl;rw[<- qy] at yz;rw[<- qz] at j3;have j4:a1<=1000000:=by rw[qy];exact Aa z7 i1 j0
    have j5:a2<=1000000:=by rw[qz];exact Aa z7 i0 j1
    obtain⟨a3,zf⟩:∃a3,a3=max a1 a2:=⟨_,rfl⟩
    have jd:∀zu ty wq,(C1 zu ty #[.int .i64 a1,.int .i64 a2]).run CD wq=.ok (.int .i64 a3) wq:=fun zu ty wq=>Wp a1 a2 a3 zf zu ty wq;have j6:a3<=1000000:=by omega
    obtain⟨W4,yy,qu,qi⟩:=q8.inv.inv.put (a:=i0) (b:=j0) (v:=a3) (Aa qo) zl zo (by omega);have r5:W3.drew.cell? ⟨w.heap.size+2,0,none⟩=some (.map (some (w.heap.size+1))):=(show W3.cell? _=_ from by have:=q8.inv.inv.left;simp[A6,this])
    have r6:W3.drew.cell? ⟨X,0,none⟩=some (.int .i64 i0):=(show W3.cell? _=_ from by have:=q8.inv.bi;simp[A6,this])
    have qg:=Ab (show W4.heap[W.heap.size+1]? = W2.heap[W.heap.size+1]? /\ InI w (.slice ao1 N cap1) (.slice ao2 M cap2) (k*M+(q+1)) (Zg xs ys k (q+1)) wB.heap.size X i0 (c1 i0) W W4 from by
     have h5:=qu.as (V':=Zg xs ys k (q+1)) (CH _) (fun i j=>by have h8:=Aa q6 i j;simp only[Bool.false_eq_true,if_false] at h8;rw[zf,qy,qz];exact h8);refine⟨(qi.block _ (by have:=hb3.size;omega) (fun e=>?_)).trans (hb3.block _ (by omega)),q8.next (by rw[Aa qe];omega) qn h5 qi⟩;have:=AI e;omega)
    clear q8 qu qi hb3 xc qy qz zf
    gi_wp2
    refine G0 (by kernel_rfl) ?_;refine Ix (A:=fun L=>{ tmps:=#[.slice ao1 N cap1,.slice ao2 M cap2,AS,.pointer (some ⟨w.heap.size,0,none⟩),.map none,.pointer (some ⟨w.heap.size+2,0,none⟩),.pointer (some ⟨X,0,none⟩),.pointer (some ⟨X+1,0,none⟩),.int .i64 j0,.pointer (c2 j0),.map (some (w.heap.size+1)),.slice ao1 N cap1,.func (.func 292) #[] #[.pointer (some ⟨w.heap.size+3,0,none⟩)],.int .i64 i0,.pointer (c1 i0),.slice ao2 M cap2,.func (.func 292) #[] #[.pointer (some ⟨W.heap.size,0,none⟩)],.int .i64 j0,.pointer (c2 j0),.pointer (c1 i0),.pointer (c2 j0),.bool false,AS,AS,AS,AS,AS,AS,AS,AS,AS,AS,AS,AS,cond (L 0) (.map (some (w.heap.size+1))) AS,cond (L 1) (.int .i64 i0) AS,cond (L 2) (.int .i64 j0) AS,cond (L 3) (.agg #[.int .i64 i0,.int .i64 j0]) AS,cond (L 4) (.map (some (w.heap.size+1))) AS,cond (L 5) (.int .i64 i0) AS,cond (L 6) (.int .i64 i1) AS,cond (L 7) (.int .i64 j0) AS,cond (L 8) (.agg #[.int .i64 i1,.int .i64 j0]) AS,cond (L 9) (.int .i64 a1) AS,cond (L 10) (.map (some (w.heap.size+1))) AS,cond (L 11) (.int .i64 i0) AS,cond (L 12) (.int .i64 j0) AS,cond (L 13) (.int .i64 j1) AS,cond (L 14) (.agg #[.int .i64 i0,.int .i64 j1]) AS,cond (L 15) (.int .i64 a2) AS,cond (L 16) (.int .i64 a3) AS,AS],defers:=[] }) (Wd:=fun L=>cond (L 17) W4 W3.drew) 18 rfl (by kernel_rfl) ?hs ?he
    case hs=>
     intro L i o ho hi hno q0 q5 K hK;have qd:i=0\/i=1\/i=2\/i=3\/i=4\/i=5\/i=6\/i=7\/i=8\/i=9\/i=10\/i=11\/i=12\/i=13\/i=14\/i=15\/i=16\/i=17:=by omega
     rcases qd with rfl|rfl|rfl|rfl|rfl|rfl|rfl|rfl|rfl|rfl|rfl|rfl|rfl|rfl|rfl|rfl|rfl|rfl
     ·obtain rfl:=AI ho;have nl:L 17=false:=by
       cases h:L 17
       ·rfl
       ·exact absurd (q5 17 _ rfl h ⟨0,.phase⟩ (by simp) rfl) (by rw[hno];decide)
      refine AT rfl fun K' q4=>?_;simp (decide:=true) only[upd,nl,hno,cond_true,cond_false,if_true,if_false] at hK |-
      go_simp;exact q4 _ _ hK
     ·obtain rfl:=AI ho;have nl:L 17=false:=by
       cases h:L 17
       ·rfl
       ·exact absurd (q5 17 _ rfl h ⟨1,.phase⟩ (by simp) rfl) (by rw[hno];decide)
      refine AT rfl fun K' q4=>?_;simp (decide:=true) only[upd,nl,hno,cond_true,cond_false,if_true,if_false] at hK |-
      go_simp;exact q4 _ _ hK
     ·obtain rfl:=AI ho;have nl:L 17=false:=by
       cases h:L 17
       ·rfl
       ·exact absurd (q5 17 _ rfl h ⟨2,.phase⟩ (by simp) rfl) (by rw[hno];decide)
      refine AT rfl fun K' q4=>?_;simp (decide:=true) only[upd,nl,hno,cond_true,cond_false,if_true,if_false] at hK |-
      go_simp;exact q4 _ _ hK
     ·obtain rfl:=AI ho;have a1:=q0 ⟨1,.data⟩ (by simp) rfl;have a2:=q0 ⟨2,.data⟩ (by simp) rfl;have nl:L 17=false:=by
       cases h:L 17
       ·rfl
       ·exact absurd (q5 17 _ rfl h ⟨3,.phase⟩ (by simp) rfl) (by rw[hno];decide)
      refine AT rfl fun K' q4=>?_;simp (decide:=true) only[upd,a1,a2,nl,hno,cond_true,cond_false,if_true,if_false] at hK |-
      go_simp;exact q4 _ _ hK
     ·obtain rfl:=AI ho;have nl:L 17=false:=by
       cases h:L 17
       ·rfl
       ·exact absurd (q5 17 _ rfl h ⟨4,.phase⟩ (by simp) rfl) (by rw[hno];decide)
      refine AT rfl fun K' q4=>?_;simp (decide:=true) only[upd,nl,hno,cond_true,cond_false,if_true,if_false] at hK |-
      go_simp;exact q4 _ _ hK
     ·obtain rfl:=AI ho;have nl:L 17=false:=by
       cases h:L 17
       ·rfl
       ·exact absurd (q5 17 _ rfl h ⟨5,.phase⟩ (by simp) rfl) (by rw[hno];decide)
      refine AT rfl fun K' q4=>?_;simp (decide:=true) only[upd,nl,hno,cond_true,cond_false,if_true,if_false] at hK |-
      go_simp;exact q4 _ _ hK
     ·obtain rfl:=AI ho;have a5:=q0 ⟨5,.data⟩ (by simp) rfl;have nl:L 17=false:=by
       cases h:L 17
       ·rfl
       ·exact absurd (q5 17 _ rfl h ⟨6,.phase⟩ (by simp) rfl) (by rw[hno];decide)
      refine AT rfl fun K' q4=>?_;simp (decide:=true) only[upd,a5,nl,hno,cond_true,cond_false,if_true,if_false] at hK |-
      go_simp;exact q4 _ _ hK
     ·obtain rfl:=AI ho;have nl:L 17=false:=by
       cases h:L 17
       ·rfl
       ·exact absurd (q5 17 _ rfl h ⟨7,.phase⟩ (by simp) rfl) (by rw[hno];decide)
      refine AT rfl fun K' q4=>?_;simp (decide:=true) only[upd,nl,hno,cond_true,cond_false,if_true,if_false] at hK |-
      go_simp;exact q4 _ _ hK
     ·obtain rfl:=AI ho;have a6:=q0 ⟨6,.data⟩ (by simp) rfl;have a7:=q0 ⟨7,.data⟩ (by simp) rfl;have nl:L 17=false:=by
       cases h:L 17
       ·rfl
       ·exact absurd (q5 17 _ rfl h ⟨8,.phase⟩ (by simp) rfl) (by rw[hno];decide)
      refine AT rfl fun K' q4=>?_;simp (decide:=true) only[upd,a6,a7,nl,hno,cond_true,cond_false,if_true,if_false] at hK |-
      go_simp;exact q4 _ _ hK
     ·obtain rfl:=AI ho;have a4:=q0 ⟨4,.data⟩ (by simp) rfl;have a8:=q0 ⟨8,.data⟩ (by simp) rfl;have nl:L 17=false:=by
       cases h:L 17
       ·rfl
       ·exact absurd (q5 17 _ rfl h ⟨9,.phase⟩ (by simp) rfl) (by rw[hno];decide)
      refine AT rfl fun K' q4=>?_;simp (decide:=true) only[upd,a4,a8,nl,hno,cond_true,cond_false,if_true,if_false] at hK |-
      go_simp;exact q4 _ _ hK
     ·obtain rfl:=AI ho;have nl:L 17=false:=by
       cases h:L 17
       ·rfl
       ·exact absurd (q5 17 _ rfl h ⟨10,.phase⟩ (by simp) rfl) (by rw[hno];decide)
      refine AT rfl fun K' q4=>?_;simp (decide:=true) only[upd,nl,hno,cond_true,cond_false,if_true,if_false] at hK |-
      go_simp;exact q4 _ _ hK
     ·obtain rfl:=AI ho;have nl:L 17=false:=by
       cases h:L 17
       ·rfl
       ·exact absurd (q5 17 _ rfl h ⟨11,.phase⟩ (by simp) rfl) (by rw[hno];decide)
      refine AT rfl fun K' q4=>?_;simp (decide:=true) only[upd,nl,hno,cond_true,cond_false,if_true,if_false] at hK |-
      go_simp;exact q4 _ _ hK
     ·obtain rfl:=AI ho;have nl:L 17=false:=by
       cases h:L 17
       ·rfl
       ·exact absurd (q5 17 _ rfl h ⟨12,.phase⟩ (by simp) rfl) (by rw[hno];decide)
      refine AT rfl fun K' q4=>?_;simp (decide:=true) only[upd,nl,hno,cond_true,cond_false,if_true,if_false] at hK |-
      go_simp;exact q4 _ _ hK
     ·obtain rfl:=AI ho;have a12:=q0 ⟨12,.data⟩ (by simp) rfl;have nl:L 17=false:=by
       cases h:L 17
       ·rfl
       ·exact absurd (q5 17 _ rfl h ⟨13,.phase⟩ (by simp) rfl) (by rw[hno];decide)
      refine AT rfl fun K' q4=>?_;simp (decide:=true) only[upd,a12,nl,hno,cond_true,cond_false,if_true,if_false] at hK |-
      go_simp;exact q4 _ _ hK
     ·obtain rfl:=AI ho;have qp:=q0 ⟨11,.data⟩ (by simp) rfl;have z8:=q0 ⟨13,.data⟩ (by simp) rfl;have nl:L 17=false:=by
       cases h:L 17
       ·rfl
       ·exact absurd (q5 17 _ rfl h ⟨14,.phase⟩ (by simp) rfl) (by rw[hno];decide)
      refine AT rfl fun K' q4=>?_;simp (decide:=true) only[upd,qp,z8,nl,hno,cond_true,cond_false,if_true,if_false] at hK |-
      go_simp;exact q4 _ _ hK
     ·obtain rfl:=AI ho;have qh:=q0 ⟨10,.data⟩ (by simp) rfl;have za:=q0 ⟨14,.data⟩ (by simp) rfl;have nl:L 17=false:=by
       cases h:L 17
       ·rfl
       ·exact absurd (q5 17 _ rfl h ⟨15,.phase⟩ (by simp) rfl) (by rw[hno];decide)
      refine AT rfl fun K' q4=>?_;simp (decide:=true) only[upd,qh,za,nl,hno,cond_true,cond_false,if_true,if_false] at hK |-
      go_simp;exact q4 _ _ hK
     ·obtain rfl:=AI ho;have a9:=q0 ⟨9,.data⟩ (by simp) rfl;have zb:=q0 ⟨15,.data⟩ (by simp) rfl;have nl:L 17=false:=by
       cases h:L 17
       ·rfl
       ·exact absurd (q5 17 _ rfl h ⟨16,.phase⟩ (by simp) rfl) (by rw[hno];decide)
      refine AT rfl fun K' q4=>?_;simp (decide:=true) only[upd,a9,zb,nl,hno,cond_true,cond_false,if_true,if_false] at hK |-
      go_simp;exact q4 _ _ hK
     ·obtain rfl:=AI ho;have a0:=q0 ⟨0,.data⟩ (by simp) rfl;have a1:=q0 ⟨1,.phase⟩ (by simp) rfl;have a2:=q0 ⟨2,.phase⟩ (by simp) rfl;have a3:=q0 ⟨3,.data⟩ (by simp) rfl;have a4:=q0 ⟨4,.phase⟩ (by simp) rfl;have a5:=q0 ⟨5,.phase⟩ (by simp) rfl;have a6:=q0 ⟨6,.phase⟩ (by simp) rfl;have a7:=q0 ⟨7,.phase⟩ (by simp) rfl;have a8:=q0 ⟨8,.phase⟩ (by simp) rfl;have a9:=q0 ⟨9,.phase⟩ (by simp) rfl;have qh:=q0 ⟨10,.phase⟩ (by simp) rfl;have qp:=q0 ⟨11,.phase⟩ (by simp) rfl;have a12:=q0 ⟨12,.phase⟩ (by simp) rfl;have z8:=q0 ⟨13,.phase⟩ (by simp) rfl;have za:=q0 ⟨14,.phase⟩ (by simp) rfl;have zb:=q0 ⟨15,.phase⟩ (by simp) rfl;have yx:=q0 ⟨16,.data⟩ (by simp) rfl;refine AT rfl fun K' q4=>?_;simp (decide:=true) only[upd,a0,a1,a2,a3,a4,a5,a6,a7,a8,a9,qh,qp,a12,z8,za,zb,yx,hno,cond_true,cond_false,if_true,if_false] at hK |-
      go_simp;exact q4 _ _ hK
    case he=>
     intro L hL;have h0:=hL 0 (by decide);have h1:=hL 1 (by decide);have h2:=hL 2 (by decide);have h3:=hL 3 (by decide);have h4:=hL 4 (by decide);have h5:=hL 5 (by decide);have h6:=hL 6 (by decide);have h7:=hL 7 (by decide);have h8:=hL 8 (by decide);have h9:=hL 9 (by decide);have qq:=hL 10 (by decide);have qr:=hL 11 (by decide);have qt:=hL 12 (by decide);have zy:=hL 13 (by decide);have zz:=hL 14 (by decide);have y3:=hL 15 (by decide);have y4:=hL 16 (by decide);have y5:=hL 17 (by decide);simp only[h0,h1,h2,h3,h4,h5,h6,h7,h8,h9,qq,qr,qt,zy,zz,y3,y4,y5,cond_true];clear hL h0 h1 h2 h3 h4 h5 h6 h7 h8 h9 qq qr qt zy zz y3 y4 y5
     gi_wp2
     exact Aa qg
 case hdone=>
  intro W hI hK;have jb:W.cell? ⟨w.heap.size+2,0,none⟩=some (.map (some (w.heap.size+1))):=by have:=hI.left;simp[A6,this]
  have q9:=Ab hI;clear hI
  gi_wp2
  have h1:=Aa q9;obtain⟨cnt,D,_,m1,m2⟩:=h1.map;have j7:=Aa qe;refine⟨by simp,.inl ⟨_,_,rfl,run_takeDeferred hK,?_⟩⟩;refine⟨_,results_tmp rfl _ _ _,w.heap.size+1,cnt,D,rfl,by omega,EB m1 (DD (by omega)),m2.as fun i j=>by rw[Aa qf];exact XF i j,?_⟩;exact⟨h1.bel.os,h1.bel.tape,h1.bel.output,by simpa[World.putObj] using h1.bel.size,fun j hj=>(DD (by omega)).trans (h1.bel.block j hj)⟩
end
section
theorem Dl:∀ (f g:Nat) (a b:List To) (k j:Nat),a.length+b.length<=f->a.length+b.length<=g->ZL f a b k j=ZL g a b k j
 | 0,0,_,_,_,_,_,_=>rfl
 | 0,g+1,[],[],_,_,_,_=>rfl
 | f+1,0,[],[],_,_,_,_=>rfl
 | 0,g+1,x::a,b,_,_,h,_=>by simp at h
 | 0,g+1,[],y::b,_,_,h,_=>by simp at h
 | f+1,0,x::a,b,_,_,_,h=>by simp at h
 | f+1,0,[],y::b,_,_,_,h=>by simp at h
 | f+1,g+1,[],[],_,_,_,_=>rfl
 | f+1,g+1,x::a,[],k,j,h1,h2=>by
  simp only[CL,D3] at h1 h2;rw[ZL,ZL,Dl f g a [] k j (by simp;omega) (by simp;omega)]
 | f+1,g+1,[],y::b,k,j,h1,h2=>by
  simp only[CL,D3] at h1 h2;rw[ZL,ZL,Dl f g [] b k (j+1) (by simp;omega) (by simp;omega)]
 | f+1,g+1,x::a,y::b,k,j,h1,h2=>by
  simp only[CL] at h1 h2;rw[ZL,ZL,Dl f g a (y::b) k j (by simp;omega) (by simp;omega),Dl f g (x::a) b k (j+1) (by simp;omega) (by simp;omega),Dl f g a b (k+1) (j+1) (by omega) (by omega)]
noncomputable def aC(a b:List To)(k j:Nat):List Nat×List Nat:=ZL (a.length+b.length) a b k j
theorem VV(k j:Nat):aC [] [] k j=([],[]):=rfl
theorem VU{x:To}{k j:Nat}(h:Zq a b=Zq (x::a) b):aC (x::a) b k j=(k::(aC a b k j).1,(aC a b k j).2):=by
 unfold aC;rw[show (x::a).length+b.length=(a.length+b.length)+1 by simp;omega];cases b with
 | nil=>rw[ZL]
 | cons y b=>rw[ZL,if_pos h]
theorem VW{y:To}{k j:Nat}(h1:a=[]\/Zq a.tail (y::b)≠Zq a (y::b))(h2:Zq a b=Zq a (y::b)):aC a (y::b) k j=((aC a b k (j+1)).1,j::(aC a b k (j+1)).2):=by
 unfold aC;rw[show a.length+(y::b).length=(a.length+b.length)+1 by simp;omega];cases a with
 | nil=>rw[ZL]
 | cons x a=>
  rcases h1 with h1|h1
  ·cases h1
  ·rw[List.tail_cons] at h1;rw[ZL,if_neg h1,if_pos h2]
theorem TK{x y:To}{k j:Nat}(h1:Zq a (y::b)≠Zq (x::a) (y::b))(h2:Zq (x::a) b≠Zq (x::a) (y::b)):aC (x::a) (y::b) k j=aC a b (k+1) (j+1):=by
 unfold aC;rw[show (x::a).length+(y::b).length=(a.length+b.length+1)+1 by simp;omega,ZL,if_neg h1,if_neg h2];exact Dl _ _ _ _ _ _ (by omega) (by omega)
def aI(xs ys:List To)(i j kept:Nat)(rs ms:List Nat):Prop:=i<=xs.length/\j<=ys.length/\kept<=i/\aC xs ys 0 0=(rs++(aC (xs.drop i) (ys.drop j) kept j).1,ms++(aC (xs.drop i) (ys.drop j) kept j).2)
variable{xs ys:List To}{i j kept:Nat}{rs ms:List Nat}
theorem aI.start:aI xs ys 0 0 0 [] []:=⟨HF _,HF _,CH _,rfl⟩
theorem aI.rem(h:aI xs ys i j kept rs ms)(hi:i<xs.length)(he:Zq (xs.drop (i+1)) (ys.drop j)=Zq (xs.drop i) (ys.drop j)):aI xs ys (i+1) j kept (rs++[kept]) ms:=by
 obtain⟨h1,h2,h3,h4⟩:=h;have e:=A3 hi;rw[e] at h4 he;refine⟨hi,h2,by omega,?_⟩;rw[h4,VU he];simp
theorem aI.mis(h:aI xs ys i j kept rs ms)(hj:j<ys.length)(h1:¬ (i<xs.length/\Zq (xs.drop (i+1)) (ys.drop j)=Zq (xs.drop i) (ys.drop j)))(he:Zq (xs.drop i) (ys.drop (j+1))=Zq (xs.drop i) (ys.drop j)):aI xs ys i (j+1) kept rs (ms++[j]):=by
 obtain⟨g1,g2,g3,g4⟩:=h;have e:=A3 hj;refine⟨g1,hj,g3,?_⟩;rw[e] at g4 he;rw[g4,VW (b:=ys.drop (j+1)) ?_ he]
 ·simp
 ·by_cases hi:i<xs.length
  ·right
   rw[List.tail_drop];intro hh;rw[<- e] at hh;exact h1 ⟨hi,hh⟩
  ·exact A5 (A2 (by omega))
theorem aI.keep(h:aI xs ys i j kept rs ms)(hi:i<xs.length)(hj:j<ys.length)(h1:Zq (xs.drop (i+1)) (ys.drop j)≠Zq (xs.drop i) (ys.drop j))(h2:Zq (xs.drop i) (ys.drop (j+1))≠Zq (xs.drop i) (ys.drop j)):aI xs ys (i+1) (j+1) (kept+1) rs ms:=by
 obtain⟨g1,g2,g3,g4⟩:=h;refine⟨hi,hj,by omega,?_⟩;have e1:=A3 hi;have e2:=A3 hj;rw[g4];rw[e1,e2] at h1 h2;rw[e1,e2,TK]
 ·exact h1
 ·exact h2
theorem aI.end_(h:aI xs ys i j kept rs ms)(hi:¬ i<xs.length)(hj:¬ j<ys.length):aC xs ys 0 0=(rs,ms):=by
 obtain⟨g1,g2,g3,g4⟩:=h;rw[g4,A2 (by omega),show ys.drop j=[] from A2 (by omega),VV];simp
theorem aI.len(h:aI xs ys i j kept rs ms):rs.length<=xs.length/\ms.length<=ys.length /\ ∀k∈ms,k<ys.length:=by
 have h1:=Dc (xs.length+ys.length) xs ys 0 0;have h2:=(DR (xs.length+ys.length) xs ys 0 0).2;have h4:=h.2.2.2;unfold aC at h4;rw[h4] at h1 h2;simp only[C2] at h1;exact⟨by omega,by omega,fun k hk=>by have:=h2 k (List.mem_append_left _ hk);omega⟩
theorem RU(h:¬ i<xs.length)(j j':Nat):Zq (xs.drop i) (ys.drop j)=Zq (xs.drop i) (ys.drop j'):=by
 rw[A2 (by omega),Zq,Zq]
theorem RT(h:¬ j<ys.length)(i i':Nat):Zq (xs.drop i) (ys.drop j)=Zq (xs.drop i') (ys.drop j):=by
 rw[show ys.drop j=[] from A2 (by omega),Ir,Ir]
def cO(s:List By)(i:Nat):Zk:=(1,Fj s i,.nil)
def NN(s:List By)(ys:List To)(i:Nat):Zk:=(0,Fj s i,(ys[i]?).getD .nil)
theorem UM(s:List By):CX s xs ys=(aC xs ys 0 0).1.map (cO s)++(aC xs ys 0 0).2.map (NN s ys):=rfl
end
def iv_(i:Nat):D1:=.int .i64 i
structure Es(w1:Bs)(Mk:Nat)(n:Int)(M1:Nat->Prop)(ops:List Zk)(s:List By)(xs ys:List To)(i j k:Nat)(mv:D1)(wr:Bs):Prop where
 ex:∃rs ms M',aI xs ys i j k rs ms/\MkK wr Mk n M' (fun b=>M' b\/mv.ownBlock=some b) (ops++rs.map (cO s))/\JEx M1 M' w1 wr/\wr.ownsRow 0 3 1 mv ms.length (ms.map iv_) /\ ∀g,mv.ownBlock=some g -> ¬ M' g
theorem Yv:(Tryz.prog.info? 3).map (fun i=>(i.zero,i.size,i.bytes))=some (some (.int .i64 0),1,8):=by kernel_rfl
theorem Ui{wr w3:Bs}{Mk:Nat}{n:Int}{M' own:Nat->Prop}(h:MkK wr Mk n M' (fun b=>M' b\/own b) ops')(ho:∀b,own b->b<wr.heap.size)(hb:HC wr.heap.size wr w3):
  MkK w3 Mk n (fun b=>M' b\/(wr.heap.size<=b/\b<w3.heap.size)) (fun b=>(M' b\/(wr.heap.size<=b/\b<w3.heap.size))\/own b) ops'/\JEx M' (fun b=>M' b\/(wr.heap.size<=b/\b<w3.heap.size)) wr w3:=by
 have hs:=hb.size;refine⟨h.moved (fun k hk _=>hb.block k hk) (fun k hk=>A5 hk) (fun k hk=>?_),⟨hb.os,hb.tape,hb.output,hs,fun k hk=>⟨A5 hk,hb.block k (h.low k (A5 hk))⟩⟩⟩;rcases hk with (hk|hk)|hk
 ·have:=h.low k (A5 hk);exact⟨A5 (A5 hk),by omega⟩
 ·exact⟨Ft hk.1,hk.2⟩
 ·have:=ho k hk;exact⟨A5 (Ft hk),by omega⟩
theorem O7{w1 wr w3:Bs}{Mk:Nat}{n:Int}{M1 M':Nat->Prop}{mv:D1}{ms:List Nat}(h:MkK wr Mk n M' (fun b=>M' b\/mv.ownBlock=some b) ops')(hx:JEx M1 M' w1 wr)(ho:wr.ownsRow 0 3 1 mv ms.length (ms.map iv_))(q7:∀g,mv.ownBlock=some g -> ¬ M' g)(hl:ops'.length<=1000000000)(hb:HC wr.heap.size wr w3){o:Zk}(q6:o.1<3)(htk:Au w3 (fun b=>wr.heap.size<=b) (.slice (some p) pl pc) o.2.1)(hv:(o.1=1/\x=none)\/(o.1≠1/\Rep top M' wr (.pointer x) o.2.2)):
  Calls CD 169 #[.pointer (some ⟨Mk,0,none⟩),.int .i64 o.1,.slice (some p) pl pc,.pointer x] w3 fun e w4=>e=.returned (.tuple #[]) /\ ∃M4,MkK w4 Mk n M4 (fun b=>M4 b\/mv.ownBlock=some b) (ops'++[o])/\JEx M1 M4 w1 w4/\w4.ownsRow 0 3 1 mv ms.length (ms.map iv_) /\ ∀g,mv.ownBlock=some g -> ¬ M4 g:=by
 obtain⟨h3,q4⟩:=Ui h (fun b hb=>(AC ho b hb).1) hb;refine (Lj h3 (fun _ hk=>A5 hk) hl ⟨rfl,q6,htk.move fun b hb1 hb2=>⟨rfl,Ft ⟨hb1,hb2⟩⟩,rfl,?_⟩).mono ?_
 ·rcases hv with⟨e1,e2⟩|⟨e1,e2⟩
  ·exact A5 ⟨e1,by rw[e2]⟩
  ·exact Ft ⟨e1,e2.move fun b hb1 hb2=>⟨hb.block b hb2,A5 hb1⟩⟩
 ·rintro e w4 ⟨rfl,h4,q0⟩;have q8:JEx M' (fun b=>M' b\/(wr.heap.size<=b/\b<w3.heap.size)) wr w4:=⟨q0.os.trans q4.os,q0.tape.trans q4.tape,q0.output.trans q4.output,F1 q4.size q0.size,fun b q5=>⟨A5 q5,(q0.kept b (A5 (A5 q5))).2.trans (q4.kept b q5).2⟩⟩
  refine⟨rfl,_,h4,hx.trans q8,AD ho fun g hg=>(q0.kept g (Ft hg)).2.trans (hb.block g (AC ho g hg).1),fun g hg hm=>?_⟩;rcases hm with hm|hm
  ·exact q7 g hg hm
  ·have:=(AC ho g hg).1;omega
section
variable{w1 wr w3:Bs}{Mk:Nat}{n:Int}{M1:Nat->Prop}{ops:List Zk}{s:List By}{xs ys:List To}{i j k:Nat}{mv:D1}
theorem Es.rem(h:Es w1 Mk n M1 ops s xs ys i j k mv wr)(hi:i<xs.length)(he:Zq (xs.drop (i+1)) (ys.drop j)=Zq (xs.drop i) (ys.drop j))(q0:ops.length<=500000000)(q4:xs.length<=1000000)(hb:HC wr.heap.size wr w3)(htk:Au w3 (fun b=>wr.heap.size<=b) (.slice (some p) pl pc) (Fj s k)):
  Calls CD 169 #[.pointer (some ⟨Mk,0,none⟩),.int .i64 1,.slice (some p) pl pc,.pointer none] w3 fun e w4=>e=.returned (.tuple #[])/\Es w1 Mk n M1 ops s xs ys (i+1) j k mv w4:=by
 obtain⟨rs,ms,M',h1,h2,h3,h4,h5⟩:=h.ex;have hl:=h1.len;refine (O7 (o:=cO s k) h2 h3 h4 h5 (by rw[C2,G1];omega) hb (by show 1<3;decide) htk (A5 ⟨rfl,rfl⟩)).mono ?_;rintro e w4 ⟨rfl,M4,k1,k2,k3,k4⟩;exact⟨rfl,⟨rs++[k],ms,M4,h1.rem hi he,by simpa using k1,k2,k3,k4⟩⟩
theorem Es.mis(h:Es w1 Mk n M1 ops s xs ys i j k mv wr)(hj:j<ys.length)(hn:¬ (i<xs.length/\Zq (xs.drop (i+1)) (ys.drop j)=Zq (xs.drop i) (ys.drop j)))(he:Zq (xs.drop i) (ys.drop (j+1))=Zq (xs.drop i) (ys.drop j)):
  ∃ms:List Nat,ms.length<=ys.length/\wr.ownsRow 0 3 1 mv ms.length (ms.map iv_) /\ ∀ (g cap:Nat) (o:Obj) (w3:Bs),w3.ownsRow 0 3 1 (.slice (some ⟨g,0,none⟩) (ms.length+1) cap) (ms.length+1) (ms.map iv_++[iv_ j])->(wr.alloc o).grownBy w3 mv.ownBlock->(mv.ownBlock=some g\/g=wr.heap.size+1)->Es w1 Mk n M1 ops s xs ys i (j+1) k (.slice (some ⟨g,0,none⟩) (ms.length+1) cap) w3:=by
 obtain⟨rs,ms,M',h1,h2,h3,h4,h5⟩:=h.ex;refine⟨ms,h1.len.2.1,h4,fun g cap o w3 ho hg q4=>?_⟩;have hs:wr.heap.size+1<=w3.heap.size:=by have:=hg.size;simpa using this
 have hk:∀b,b<wr.heap.size->mv.ownBlock≠some b->w3.heap[b]? = wr.heap[b]?:=fun b hb q6=>(hg.block b (by simp;omega) (fun e=>q6 e.symm)).trans (A4 wr o b hb);have q5:g<w3.heap.size:=(AC ho g rfl).1;refine⟨rs,ms++[j],M',h1.mis hj hn he,h2.moved (fun b hb q0=>hk b hb fun e=>?_) (fun _ hb=>hb) (fun b hb=>?_),h3.trans ⟨hg.os,hg.tape,hg.output,by omega,fun b hb=>⟨hb,hk b (h2.low b (A5 hb)) fun e=>h5 b e hb⟩⟩,by simpa using ho,fun q hq hm=>?_⟩
 ·rcases q0 with q0|q0
  ·exact q0 (Ft e)
  ·exact h5 b e q0
 ·rcases hb with hb|hb
  ·have:=h2.low b (A5 hb);exact⟨A5 (A5 hb),by omega⟩
  ·simp[HA] at hb;subst hb;rcases q4 with e|e
   ·exact⟨A5 (Ft e),q5⟩
   ·exact⟨Ft (by omega),q5⟩
 ·simp[HA] at hq;subst hq;rcases q4 with e|e
  ·exact h5 _ e hm
  ·have:=h2.low _ (A5 hm);omega
theorem Es.keep(h:Es w1 Mk n M1 ops s xs ys i j k mv wr)(hi:i<xs.length)(hj:j<ys.length)(e1:Zq (xs.drop (i+1)) (ys.drop j)≠Zq (xs.drop i) (ys.drop j))(e2:Zq (xs.drop i) (ys.drop (j+1))≠Zq (xs.drop i) (ys.drop j)):Es w1 Mk n M1 ops s xs ys (i+1) (j+1) (k+1) mv wr:=by
 obtain⟨rs,ms,M',h1,h2⟩:=h.ex;exact⟨rs,ms,M',h1.keep hi hj e1 e2,h2⟩
end
structure DLo(w1:Bs)(Mk:Nat)(n:Int)(M1:Nat->Prop)(ops':List Zk)(s:List By)(ys:List To)(ms:List Nat)(mv:D1)(t:Nat)(wr:Bs):Prop where
 ex:∃M',MkK wr Mk n M' (fun b=>M' b\/mv.ownBlock=some b) (ops'++(ms.take t).map (NN s ys))/\JEx M1 M' w1 wr/\wr.ownsRow 0 3 1 mv ms.length (ms.map iv_) /\ ∀g,mv.ownBlock=some g -> ¬ M' g
theorem DLo.add{w1 wr w3:Bs}{Mk:Nat}{n:Int}{M1:Nat->Prop}{s:List By}{ys:List To}{ms:List Nat}{mv:D1}{t q:Nat}(h:DLo w1 Mk n M1 ops' s ys ms mv t wr)(ht:t<ms.length)(hq:ms[t]=q)(q0:q<ys.length)(hl:ops'.length+ms.length<=1000000000)(hb:HC wr.heap.size wr w3)(htk:Au w3 (fun b=>wr.heap.size<=b) (.slice (some p) pl pc) (Fj s q))(hv:Rep top M1 w1 (.pointer x) ys[q]):
  Calls CD 169 #[.pointer (some ⟨Mk,0,none⟩),.int .i64 0,.slice (some p) pl pc,.pointer x] w3 fun e w4=>e=.returned (.tuple #[])/\DLo w1 Mk n M1 ops' s ys ms mv (t+1) w4:=by
 obtain⟨M',h2,h3,h4,h5⟩:=h.ex;have e1:(NN s ys q).2.2=ys[q]:=by
  show (ys[q]?).getD .nil=_;rw[List.getElem?_eq_getElem q0];rfl
 have e2:ms.take (t+1)=ms.take t++[q]:=by rw[List.take_succ_eq_append_getElem ht,hq]
 refine (O7 (o:=NN s ys q) h2 h3 h4 h5 (by rw[C2,G1,List.length_take];omega) hb (by show 0<3;decide) htk (Ft ⟨by show 0≠1;decide,by rw[e1];exact hv.move fun b hb1 _=>⟨(h3.kept b hb1).2,(h3.kept b hb1).1⟩⟩)).mono ?_;rintro e w4 ⟨rfl,M4,k1,k2,k3,k4⟩;exact⟨rfl,⟨M4,by rw[e2];simpa using k1,k2,k3,k4⟩⟩
end Go.Proofs.YtdpomdelmdofmaaGreatDoor
