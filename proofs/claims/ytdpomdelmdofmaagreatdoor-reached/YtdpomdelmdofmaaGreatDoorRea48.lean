import Derived.Test.YtdpomdelmdofmaaGreatDoorRea47
open Option.some renaming inj->AI
open Go renaming undef->AS,wpOpIn_step->AT,getD_set_ne->A1,heap_alloc_new->A3,wpOp_step->C1,World->C2,Value->D0,callsIn_wide->FD,wpList_append_lies->G3,wpIn_region_any->HG,Calls->HV
open Array renaming getElem?_eq_some_iff->A2,getD->CL
open List renaming drop_eq_getElem_cons->A4,length_cons->CR,drop_eq_nil_of_le->Dp,length_append->D3,length_nil->F5,length_map->F7,append_assoc->HB,cons_append->HC
open Go.Proofs.Tryz renaming prog->A5
open Go.RowKit.Below renaming heap_alloc->A6,refl->HJ
open Go.IntKind renaming wrap_i64->Bs
open Nat renaming le_refl->BY,mul_le_mul_right->Dt,le_trans->F1,zero_le->G0,mul_le_mul_left->G1,reduceAdd->HS,succ_mul->HW
open Go.World renaming cell?->CD,size_alloc->E0,putObj_heap_other->Ft,news_of_block->G2
open Or renaming inl->CH,inr->HK
open Go.Builtin renaming max_->DD,max2->HA
open Go.RowKit renaming Below->F2,intOf->HN
open Go.Value renaming slice->HE,ownBlock->HM,oneCell'->HR
open Go.Lib renaming itoa->HO
set_option maxRecDepth 100000
set_option maxHeartbeats 8000000
namespace Go.Proofs.YtdpomdelmdofmaaGreatDoor
open Go.Proofs.Tryz Go.RowKit Go.Maps
variable{f C B X pl pc:Nat}{F:Nat->Prop}{w W:C2}{s1 s2:D0}{V:Nat->Nat->Nat}{x:Option Addr}{a b:List To}{ops':List dX}{p:Addr}
section
attribute [local go_sem] Oper.semAt_some
theorem Jd{sl:D0}{ps:List D0}{xs:List To}(h:w.ownsRow 0 80 1 sl ps.length ps)(a:Al (Rep f F w) ps xs):ps.length=xs.length/\xs.length<=maxLen /\ ∃ (ao:Option Addr) (cap g:Nat) (c:Nat->Option Addr),sl=.slice ao xs.length cap/\(0<xs.length->ao=some ⟨g,0,none⟩/\g<w.heap.size)/\(∀k,k<xs.length->w.cell? ⟨g,k,none⟩=some (.pointer (c k))) /\ ∀k (hk:k<xs.length),Rep f F w (.pointer (c k)) xs[k]:=by
 have hl:=a.length;obtain⟨c,hc⟩:∃c:Nat->Option Addr,∀k (hk:k<xs.length),ps[k]'(by omega)=.pointer (c k):=by
  refine⟨fun k=>if hk:k<xs.length then (match ps[k]'(by omega) with | .pointer p=>p|_=>none) else none,fun k hk=>?_⟩;obtain⟨b,e,_⟩:=Rep.ptr (a.get k (by omega) hk);simp only[hk,dif_pos,e]
 have hr:∀k (hk:k<xs.length),Rep f F w (.pointer (c k)) xs[k]:=fun k hk=>by
  rw[<- hc k hk];exact a.get k (by omega) hk
 rcases Nat.eq_zero_or_pos xs.length with h0|hp
 ·obtain⟨ao,n,cap,e,hn,_⟩:∃ao n cap,sl=.slice ao n cap/\n=xs.length/\True:=by
   rcases h.2 with⟨e,h1⟩|⟨g,cap,cur,e,_⟩
   ·exact⟨_,_,_,e,by omega,trivial⟩
   ·exact⟨_,_,_,e,by omega,trivial⟩
  subst hn;exact⟨hl,by unfold maxLen;omega,ao,cap,0,c,e,(fun hh=>by omega),(fun k hk=>by omega),hr⟩
 ·obtain⟨g,cap,e,h1,h2,h3,h4⟩:=Bm h (by omega);rw[hl] at e h1;exact⟨hl,by omega,some ⟨g,0,none⟩,cap,g,c,e,fun _=>⟨rfl,h3⟩,fun k hk=>by rw[h4 k (by omega),hc k hk],hr⟩
theorem YP(a b c:Nat)(h:c=max a b)(q0:Array TypeId)(ty:TypeId)(w:C2):(DD q0 ty #[.int .i64 a,.int .i64 b]).run A5 w=.ok (.int .i64 c) w:=by
 subst h;by_cases h2:a<=b
 ·have e:max a b=b:=by omega
  rw[e];by_cases h3:(a:Int)<b
  ·simp[DD,HA,h3]
  ·have e2:a=b:=by omega
   subst e2;simp[DD,HA]
 ·have e:max a b=a:=by omega
  rw[e];have h3:¬ (a:Int)<b:=by omega
  simp[DD,HA,h3]
structure OuA(w:C2)(s1 s2:D0)(C:Nat)(V:Nat->Nat->Nat)(B X i:Nat)(x:Option Addr)(W:C2):Prop where
 inv:LnI w s1 s2 C V W
 ne:B+1<X
 bi:W.heap[X]? = some (.cells #[.int .i64 i] 3 (0,0))
 bx:W.heap[X+1]? = some (.cells #[.pointer x] 80 (0,0))
theorem OuA.kept{W':C2}{i:Nat}(h:OuA w s1 s2 C V B X i x W)(hB:w.heap.size+4<=B)(e1:W'.os=W.os)(e2:W'.tape=W.tape)(e3:W'.output=W.output)(e4:W.heap.size<=W'.heap.size)(e5:∀j,j<W.heap.size->j≠B->j≠B+1->W'.heap[j]? = W.heap[j]?):OuA w s1 s2 C V B X i x W':=by
 have hn:=h.ne;exact⟨h.inv.kept e1 e2 e3 e4 fun j hj=>e5 j (by have:=h.inv.sz;omega) (by omega) (by omega),hn,(e5 X (A2.1 h.bi).1 (by omega) (by omega)).trans h.bi,(e5 (X+1) (A2.1 h.bx).1 (by omega) (by omega)).trans h.bx⟩
structure InI(w:C2)(s1 s2:D0)(C:Nat)(V:Nat->Nat->Nat)(B X i:Nat)(x:Option Addr)(W W2:C2):Prop where
 inv:OuA w s1 s2 C V B X i x W2
 two:Two B W W2
 bac:W2.heap[W.heap.size]? = some (.cells #[s2] 106 (0,0))
theorem InI.kept{W2 W':C2}{i:Nat}(h:InI w s1 s2 C V B X i x W W2)(hB:w.heap.size+4<=B)(hW:X+1<W.heap.size)(e1:W'.os=W2.os)(e2:W'.tape=W2.tape)(e3:W'.output=W2.output)(e4:W2.heap.size<=W'.heap.size)(e5:∀j,j<W2.heap.size->j≠W.heap.size+1->j≠W.heap.size+1+1->W'.heap[j]? = W2.heap[j]?):InI w s1 s2 C V B X i x W W':=by
 have hn:=h.inv.ne;have hb:=(A2.1 h.bac).1;refine⟨⟨h.inv.inv.kept e1 e2 e3 e4 fun j hj=>e5 j (by have:=h.inv.inv.sz;omega) (by omega) (by omega),hn,(e5 X (by omega) (by omega) (by omega)).trans h.inv.bi,(e5 (X+1) (by omega) (by omega) (by omega)).trans h.inv.bx⟩,⟨(e5 B (by omega) (by omega) (by omega)).trans h.two.1,(e5 (B+1) (by omega) (by omega) (by omega)).trans h.two.2⟩,(e5 _ hb (by omega) (by omega)).trans h.bac⟩
theorem InI.next{W2 W4:C2}{C':Nat}{V':Nat->Nat->Nat}{i:Nat}(h:InI w s1 s2 C V B X i x W W2)(hB:w.heap.size+4<=B)(hW:X+1<W.heap.size)(h4:LnI w s1 s2 C' V' W4)(hg:W2.grownBy W4 (some (w.heap.size+1))):InI w s1 s2 C' V' B X i x W W4:=by
 have hn:=h.inv.ne;have hb:=(A2.1 h.bac).1;have hk:∀j,j<W2.heap.size->j≠w.heap.size+1->W4.heap[j]? = W2.heap[j]?:=fun j hj hne=>hg.block j hj (fun e=>hne (AI e));exact⟨⟨h4,hn,(hk X (by omega) (by omega)).trans h.inv.bi,(hk (X+1) (by omega) (by omega)).trans h.inv.bx⟩,⟨(hk B (by omega) (by omega)).trans h.two.1,(hk (B+1) (by omega) (by omega)).trans h.two.2⟩,(hk _ hb (by omega)).trans h.bac⟩
theorem Np{F':Nat->Prop}{yg yh:D0}{zq zr:List D0}{xs ys:List To}(o1:w.ownsRow 0 80 1 yg zq.length zq)(a1:Al (Rep f F w) zq xs)(o2:w.ownsRow 0 80 1 yh zr.length zr)(a2:Al (Rep f F' w) zr ys)(hn:(xs.length+1)*(ys.length+1)<=1000000):
  HV A5 209 #[yg,yh] w fun e w'=>∃m cnt D,e=.returned (.map (some m))/\w.heap.size<=m/\w'.ownsMap A5 273 IE m cnt D/\Tb D (fun i j=>eB (xs.drop i) (ys.drop j))/\F2 w.heap.size w w':=by
 obtain⟨_,hN,ao1,cap1,g1,c1,rfl,zh,zf,yc⟩:=Jd o1 a1;obtain⟨_,hM,ao2,cap2,g2,c2,rfl,zi,zg,yd⟩:=Jd o2 a2;obtain⟨N,qu⟩:∃N,N=xs.length:=⟨_,rfl⟩
 obtain⟨M,qt⟩:∃M,M=ys.length:=⟨_,rfl⟩
 have j7:N<=1000000:=by
  have:(xs.length+1)*1<=(xs.length+1)*(ys.length+1):=G1 _ (by omega);omega
 have j6:M<=1000000:=by
  have:1*(ys.length+1)<=(xs.length+1)*(ys.length+1):=Dt _ (by omega);omega
 have j8:N*M<=1000000:=by
  have:xs.length*ys.length<=(xs.length+1)*(ys.length+1):=Nat.mul_le_mul (by omega) (by omega);rw[qu,qt];omega
 rw[<- qu] at hN zh zf;rw[<- qt] at hM zi zg;rw[<- qu,<- qt];obtain⟨wB,qh⟩:∃wB,wB=((((w.alloc (.cells #[.slice ao2 M cap2] 106)).alloc (.map #[] 0)).alloc (.cells #[.map (some (w.heap.size+1))] 270)).alloc (.cells #[.slice ao1 N cap1] 106)):=⟨_,rfl⟩
 obtain⟨qi,q5⟩:∃qi,qi=(w.alloc (.cells #[.slice ao2 M cap2] 106)).alloc (.map #[] 0):=⟨_,rfl⟩
 have qz:qi.heap.size=w.heap.size+2:=by rw[q5];simp
 have y7:wB.heap.size=w.heap.size+4:=by rw[qh,<- q5];simp[qz]
 have y6:F2 w.heap.size w wB:=by
  rw[qh];exact ((((HJ _ w).alloc (BY _) _).alloc (by simp) _).alloc (by simp;omega) _).alloc (by simp;omega) _
 have y4:LnI w (.slice ao1 N cap1) (.slice ao2 M cap2) 0 (dU xs ys 0 0) wB:=by
  have e1:∀j,j<w.heap.size+2->wB.heap[j]? = qi.heap[j]?:=fun j hj=>by
   rw[qh,<- q5];exact (A6 _ _ j (by simp;omega)).trans (A6 _ _ j (by omega))
  refine⟨?_,?_,?_,⟨0,.map [],BY _,?_,⟨⟨_,rfl⟩,fun i j _ _=>by rw[dF];rfl⟩⟩,y6⟩
  ·rw[e1 _ (by omega),q5];exact (A6 _ _ _ (by simp)).trans (A3 w _)
  ·rw[qh,<- q5];have:=A3 qi (.cells #[.map (some (w.heap.size+1))] 270);rw[qz] at this;exact (A6 _ _ _ (by simp;omega)).trans this
  ·rw[qh,<- q5];have:=A3 (qi.alloc (.cells #[.map (some (w.heap.size+1))] 270)) (.cells #[.slice ao1 N cap1] 106);rw[E0,qz] at this;exact this
  ·refine E2 (w:=qi) ?_ (e1 _ (by omega));rw[q5];have:=World.ownsMap_made (w.alloc (.cells #[.slice ao2 M cap2] 106)) A5 273 IE;rw[E0] at this;exact this
 have ja:=@run_makeMap A5;have qd:=Ab qu;have qj:=Ab qt;have yu:=Ab qh;have ym:=Ab y4;have qb:=Ab y7;have zu:=Ab zh;have zv:=Ab zi;have yk:=Ab zf;have yl:=Ab zg;have yq:=Ab yc;have yr:=Ab yd;clear o1 o2 a1 a2 hn qu qt qh q5 qz y4 y7 zh zi zf zg yc yd y6;refine (FD (n:=0)).1 (callsIn_of_wp_marks func209 rfl trivial ?_ rfl);simp only[ntmps209,List.size_toArray,CR,F5,HS,Nat.reduceSub,Array.replicate_succ,Array.replicate_zero,List.push_toArray,List.append_toArray,List.nil_append,HC]
 gi_wp2_with (refine⟨trivial,rfl,?_⟩;gi_at_call 254;refine (FD.2 Na).mono ?_;rintro e w' ⟨rfl,rfl⟩)
 simp only[Nat.add_assoc,HS];rw[<- Aa yu];refine Gx (gf:=292) (lb:=#[.pointer (some ⟨w.heap.size+3,0,none⟩)]) rfl (F3 func292 (by kernel_rfl) rfl) N (fun k=>#[.int .i64 ((N-1-k:Nat):Int),.pointer (c1 (N-1-k))]) (fun _=>rfl) (fun k=>LnI w (.slice ao1 N cap1) (.slice ao2 M cap2) (k*M) (dU xs ys k 0))
  (fun k a' W=>∃X,OuA w (.slice ao1 N cap1) (.slice ao2 M cap2) (k*M) (dU xs ys k 0) wB.heap.size X (N-1-k) (c1 (N-1-k)) W/\a'={ tmps:=#[.slice ao1 N cap1,.slice ao2 M cap2,AS,.pointer (some ⟨w.heap.size,0,none⟩),.map none,.pointer (some ⟨w.heap.size+2,0,none⟩),.pointer (some ⟨X,0,none⟩),.pointer (some ⟨X+1,0,none⟩),AS,AS,.map (some (w.heap.size+1)),.slice ao1 N cap1,.func (.func 292) #[] #[.pointer (some ⟨w.heap.size+3,0,none⟩)],.int .i64 ((N-1-k:Nat):Int),.pointer (c1 (N-1-k)),AS,AS,AS,AS,AS,AS,AS,AS,AS,AS,AS,AS,AS,AS,AS,AS,AS,AS,AS,AS,AS,AS,AS,AS,AS,AS,AS,AS,AS,AS,AS,AS,AS,AS,AS,AS,AS],defers:=[] })
  ?hI ?hA (by rw[Nat.zero_mul];exact Aa ym) ?hiter ?hassign ?hbody ?hdone
 case hI=>
  rw[Aa qb];intro k W W' h e1 e2 e3 e4 e5;exact h.kept e1 e2 e3 e4 fun j hj=>e5 j (by have:=h.sz;omega) (by omega) (by omega)
 case hA=>
  rintro k a' W W' ⟨X,hX,e⟩ e1 e2 e3 e4 e5;exact⟨X,hX.kept (by rw[Aa qb];omega) e1 e2 e3 e4 e5,e⟩
 case hiter=>
  intro l J W zb hY za;refine Nc (cap:=cap1) (c:=c1) (g:=g1) hN (fun hp=>(Aa zu hp).1) (fun k W hj=>?_) hY za;have hi:=zb k W hj;refine⟨by have:=hi.bac;simp[CD,this],fun j zl=>?_⟩;have hp:=Aa zu (by omega);exact (hi.bel.cell (p:=⟨g1,j,none⟩) hp.2).trans (Aa yk j zl)
 case hassign=>
  intro l k W hk hi hsz;have q7:=Ab hi;clear hi
  gi_wp2
  have hb:=((HJ W.heap.size W).alloc (BY _) (.cells #[.int .i64 ((N-1-k:Nat):Int)] 3)).alloc (by simp) (.cells #[.pointer (c1 (N-1-k))] 80);have h2:=A3 (W.alloc (.cells #[.int .i64 ((N-1-k:Nat):Int)] 3)) (.cells #[.pointer (c1 (N-1-k))] 80);rw[E0] at h2;exact⟨⟨hb.block _ (by omega),hb.block _ hsz⟩,(Aa q7).low hb,hsz,(A6 _ _ _ (by simp)).trans (A3 W _),h2⟩
 case hbody=>
  rintro l k a' W hk ⟨X,hX,rfl⟩ hsz ⟨hl,r0,hl0⟩;have bx:=hX.inv.box;have je:=hX.inv.sz;have bc:W.cell? ⟨w.heap.size,0,none⟩=some (.slice ao2 M cap2):=by simp[CD,bx]
  have qk:X+1<W.heap.size:=(A2.1 hX.bx).1;have HX:=Ab hX;have yp:=Ab hl0;have HL:=Ab hl;obtain⟨W1,qv⟩:∃W1,W1=W.alloc (.cells #[.slice ao2 M cap2] 106):=⟨_,rfl⟩
  have ye:W1.heap.size=W.heap.size+1:=by rw[qv];simp
  have hb1:F2 W.heap.size W W1:=by rw[qv];exact (HJ _ _).alloc (BY _) _
  have y5:InI w (.slice ao1 N cap1) (.slice ao2 M cap2) (k*M) (dU xs ys k 0) wB.heap.size X (N-1-k) (c1 (N-1-k)) W W1:=by
   refine⟨hX.kept (by rw[Aa qb];omega) hb1.os hb1.tape hb1.output hb1.size fun j hj _ _=>hb1.block j hj,⟨hb1.block _ (by omega),hb1.block _ hsz⟩,by rw[qv];exact A3 W _⟩
  have yt:=Ab qv;have yo:=Ab y5;have yj:=Ab hb1;clear hX bx hl0 hl qv y5 hb1
  gi_wp2_with (refine⟨trivial,rfl,?_⟩;gi_at_call 254;refine (FD.2 Na).mono ?_;rintro e w' ⟨rfl,rfl⟩)
  rw[<- Aa yt];refine Lv (r₀:=r0) (gf:=292) (lb:=#[.pointer (some ⟨W.heap.size,0,none⟩)]) ((Aa yj).block l (by have:=Aa HL;omega) |>.trans (Aa yp)) rfl (F3 func292 (by kernel_rfl) rfl) M (fun q=>#[.int .i64 ((M-1-q:Nat):Int),.pointer (c2 (M-1-q))]) (fun _=>rfl) (fun q=>InI w (.slice ao1 N cap1) (.slice ao2 M cap2) (k*M+q) (dU xs ys k q) wB.heap.size X (N-1-k) (c1 (N-1-k)) W)
   (fun q a' W2=>InI w (.slice ao1 N cap1) (.slice ao2 M cap2) (k*M+q) (dU xs ys k q) wB.heap.size X (N-1-k) (c1 (N-1-k)) W W2/\a'={ tmps:=#[.slice ao1 N cap1,.slice ao2 M cap2,AS,.pointer (some ⟨w.heap.size,0,none⟩),.map none,.pointer (some ⟨w.heap.size+2,0,none⟩),.pointer (some ⟨X,0,none⟩),.pointer (some ⟨X+1,0,none⟩),.int .i64 ((M-1-q:Nat):Int),.pointer (c2 (M-1-q)),.map (some (w.heap.size+1)),.slice ao1 N cap1,.func (.func 292) #[] #[.pointer (some ⟨w.heap.size+3,0,none⟩)],.int .i64 ((N-1-k:Nat):Int),.pointer (c1 (N-1-k)),.slice ao2 M cap2,.func (.func 292) #[] #[.pointer (some ⟨W.heap.size,0,none⟩)],.int .i64 ((M-1-q:Nat):Int),.pointer (c2 (M-1-q)),AS,AS,AS,AS,AS,AS,AS,AS,AS,AS,AS,AS,AS,AS,AS,AS,AS,AS,AS,AS,AS,AS,AS,AS,AS,AS,AS,AS,AS,AS,AS,AS,AS],defers:=[] })
   ?hI2 ?hA2 (Aa yo) ?hiter2 ?hassign2 ?hbody2 ?hdone2
  case hI2=>
   rw[ye];intro q W2 W3 h e1 e2 e3 e4 e5;exact h.kept (by rw[Aa qb];omega) qk e1 e2 e3 e4 fun j hj h1 h2=>e5 j hj h1 h2
  case hA2=>
   rw[ye];rintro q a' W2 W3 ⟨h,e⟩ e1 e2 e3 e4 e5;exact⟨h.kept (by rw[Aa qb];omega) qk e1 e2 e3 e4 fun j hj h1 h2=>e5 j hj h1 h2,e⟩
  case hiter2=>
   intro l2 J W2 zb hY za;refine Nc (cap:=cap2) (c:=c2) (g:=g2) hM (fun hp=>(Aa zv hp).1) (fun q W2 hj=>?_) hY za;have hi:=zb q W2 hj;refine⟨by have:=hi.bac;simp[CD,this],fun j zl=>?_⟩;have hp:=Aa zv (by omega);exact (hi.inv.inv.bel.cell (p:=⟨g2,j,none⟩) hp.2).trans (Aa yl j zl)
  case hassign2=>
   intro l2 q W2 hq hi zn;have q7:=Ab hi;clear hi
   gi_wp2
   exact Aa q7
  case hdone2=>
   intro W2 hI2;have h3:=hI2.inv.inv.as (C':=(k+1)*M) (V':=dU xs ys (k+1) 0) (by rw[HW];omega) (fun i j=>by rw[Aa qj];exact Z1 k i j);have q7:=Ab (And.intro hI2.two h3);clear hI2 h3
   gi_wp2
   exact Aa q7
  case hbody2=>
   rintro l2 q a' W2 hq ⟨hI2,rfl⟩ zn;have yi:=hI2.inv.bx;have xc:W2.cell? ⟨X+1,0,none⟩=some (.pointer (c1 (N-1-k))):=by simp[CD,yi]
   have ze:=hI2.inv.inv.bel;have q8:=Ab (ES f F F' W2 _ _ _ _ ((Aa yq (N-1-k) (by have:=Aa qd;omega)).bel ze) ((Aa yr (M-1-q) (by have:=Aa qj;omega)).bel ze));have q7:=Ab hI2;clear yi ze hI2;obtain⟨i0,qy⟩:∃i0,i0=N-1-k:=⟨_,rfl⟩
   obtain⟨j0,zk⟩:∃j0,j0=M-1-q:=⟨_,rfl⟩
   have zj:i0<=1000000:=by omega
   have zm:j0<=1000000:=by omega
   have q4:=Ab (fun i j=>YR (xs:=xs) (ys:=ys) (k:=k) (q:=q) (by have:=Aa qd;omega) (by have:=Aa qj;omega) i j);have qm:=Ab (show k*M+q<1000000000 by
    have:(k+1)*M<=N*M:=Dt _ (by omega);rw[HW] at this;omega)
   obtain⟨vq,zo⟩:∃vq,vq=veq (xs[N-1-k]'(by have:=Aa qd;omega)) (ys[M-1-q]'(by have:=Aa qj;omega)):=⟨_,rfl⟩
   rw[<- zo] at q8;simp only[<- Aa qd,<- Aa qj,<- zo] at q4;rw[<- qy,<- zk] at q8 q4;rw[<- qy] at xc q7;simp only[<- qy,<- zk];obtain⟨i1,y8⟩:∃i1,i1=i0+1:=⟨_,rfl⟩
   obtain⟨j1,ya⟩:∃j1,j1=j0+1:=⟨_,rfl⟩
   simp only[<- y8,<- ya] at q4;have w1:IntKind.i64.wrap ((i0:Int)+1)=(i1:Int):=by rw[Bs];omega
   have w2:IntKind.i64.wrap ((j0:Int)+1)=(j1:Int):=by rw[Bs];omega
   have y9:i1<=1000000:=by have:=Aa qd;omega
   have yb:j1<=1000000:=by have:=Aa qj;omega
   have z1:=Ab (fun i j=>show dU xs ys k q i j<=1000000 from F1 (XG k q i j) (by have:=Aa qd;omega));clear zo qy zk y8 ya
   gi_wp2_with (refine⟨trivial,rfl,?_⟩;gi_at_call 82;refine (FD.2 (Aa q8)).mono ?_;rintro e W3 ⟨rfl,hb3⟩;have zt:=Ab hb3;clear hb3;cases vq)
   case true=>
    have hb3:=Aa zt;have q6:=(Aa q7).kept (by rw[Aa qb];omega) qk hb3.os hb3.tape hb3.output hb3.size fun j hj _ _=>hb3.block j hj;obtain⟨u,hu⟩:∃u,u=dU xs ys k q i1 j1:=⟨_,rfl⟩
    have lk:=q6.inv.inv.look (i:=i1) (j:=j1) y9 yb (W':=W3.drew) rfl;rw[<- hu] at lk;have jc:u<=1000000:=by rw[hu];exact Aa z1 i1 j1
    obtain⟨u1,yf⟩:∃u1,u1=1+u:=⟨_,rfl⟩
    have w3:IntKind.i64.wrap (1+(u:Int))=(u1:Int):=by rw[Bs];omega
    have jd:u1<=1000000:=by
     have h8:=Aa q4 i0 j0;rw[if_pos ⟨rfl,rfl⟩] at h8;simp only[if_true] at h8;have h9:=XG (xs:=xs) (ys:=ys) k (q+1) i0 j0;have:=Aa qd;omega
    obtain⟨W4,yw,qr,qg⟩:=q6.inv.inv.put (a:=i0) (b:=j0) (v:=u1) (Aa qm) zj zm (by omega);have r5:W3.drew.cell? ⟨w.heap.size+2,0,none⟩=some (.map (some (w.heap.size+1))):=(show W3.cell? _=_ from by have:=q6.inv.inv.left;simp[CD,this])
    have r6:W3.drew.cell? ⟨X,0,none⟩=some (.int .i64 i0):=(show W3.cell? _=_ from by have:=q6.inv.bi;simp[CD,this])
    have qe:=Ab (show W4.heap[W.heap.size+1]? = W2.heap[W.heap.size+1]? /\ InI w (.slice ao1 N cap1) (.slice ao2 M cap2) (k*M+(q+1)) (dU xs ys k (q+1)) wB.heap.size X i0 (c1 i0) W W4 from by
     have h5:=qr.as (V':=dU xs ys k (q+1)) (BY _) (fun i j=>by have h8:=Aa q4 i j;simp only[if_true] at h8;rw[yf,hu];exact h8);refine⟨(qg.block _ (by have:=hb3.size;omega) (fun e=>?_)).trans (hb3.block _ (by omega)),q6.next (by rw[Aa qb];omega) qk h5 qg⟩;have:=AI e;omega)
    clear q6 qr qg hb3 xc hu yf
    gi_wp2
    refine HG (by kernel_rfl) ?_;refine Ju (A:=fun L=>{ tmps:=#[.slice ao1 N cap1,.slice ao2 M cap2,AS,.pointer (some ⟨w.heap.size,0,none⟩),.map none,.pointer (some ⟨w.heap.size+2,0,none⟩),.pointer (some ⟨X,0,none⟩),.pointer (some ⟨X+1,0,none⟩),.int .i64 j0,.pointer (c2 j0),.map (some (w.heap.size+1)),.slice ao1 N cap1,.func (.func 292) #[] #[.pointer (some ⟨w.heap.size+3,0,none⟩)],.int .i64 i0,.pointer (c1 i0),.slice ao2 M cap2,.func (.func 292) #[] #[.pointer (some ⟨W.heap.size,0,none⟩)],.int .i64 j0,.pointer (c2 j0),.pointer (c1 i0),.pointer (c2 j0),.bool true,cond (L 0) (.map (some (w.heap.size+1))) AS,cond (L 1) (.int .i64 i0) AS,cond (L 2) (.int .i64 j0) AS,cond (L 3) (.agg #[.int .i64 i0,.int .i64 j0]) AS,cond (L 4) (.map (some (w.heap.size+1))) AS,cond (L 5) (.int .i64 i0) AS,cond (L 6) (.int .i64 i1) AS,cond (L 7) (.int .i64 j0) AS,cond (L 8) (.int .i64 j1) AS,cond (L 9) (.agg #[.int .i64 i1,.int .i64 j1]) AS,cond (L 10) (.int .i64 u) AS,cond (L 11) (.int .i64 u1) AS,AS,AS,AS,AS,AS,AS,AS,AS,AS,AS,AS,AS,AS,AS,AS,AS,AS,AS],defers:=[] }) (Wd:=fun L=>cond (L 12) W4 W3.drew) 13 rfl (by kernel_rfl) ?hs ?he
    case hs=>
     intro L i o ho hi hno haft hcl K hK;have q9:i=0\/i=1\/i=2\/i=3\/i=4\/i=5\/i=6\/i=7\/i=8\/i=9\/i=10\/i=11\/i=12:=by omega
     rcases q9 with rfl|rfl|rfl|rfl|rfl|rfl|rfl|rfl|rfl|rfl|rfl|rfl|rfl
     ·obtain rfl:=AI ho;have nl:L 12=false:=by
       cases h:L 12
       ·rfl
       ·exact absurd (hcl 12 _ rfl h ⟨0,.phase⟩ (by simp) rfl) (by rw[hno];decide)
      refine AT rfl fun K' q0=>?_;simp (decide:=true) only[upd,nl,hno,cond_true,cond_false,if_true,if_false] at hK |-
      go_simp;exact q0 _ _ hK
     ·obtain rfl:=AI ho;have nl:L 12=false:=by
       cases h:L 12
       ·rfl
       ·exact absurd (hcl 12 _ rfl h ⟨1,.phase⟩ (by simp) rfl) (by rw[hno];decide)
      refine AT rfl fun K' q0=>?_;simp (decide:=true) only[upd,nl,hno,cond_true,cond_false,if_true,if_false] at hK |-
      go_simp;exact q0 _ _ hK
     ·obtain rfl:=AI ho;have nl:L 12=false:=by
       cases h:L 12
       ·rfl
       ·exact absurd (hcl 12 _ rfl h ⟨2,.phase⟩ (by simp) rfl) (by rw[hno];decide)
      refine AT rfl fun K' q0=>?_;simp (decide:=true) only[upd,nl,hno,cond_true,cond_false,if_true,if_false] at hK |-
      go_simp;exact q0 _ _ hK
     ·obtain rfl:=AI ho;have a1:=haft ⟨1,.data⟩ (by simp) rfl;have a2:=haft ⟨2,.data⟩ (by simp) rfl;have nl:L 12=false:=by
       cases h:L 12
       ·rfl
       ·exact absurd (hcl 12 _ rfl h ⟨3,.phase⟩ (by simp) rfl) (by rw[hno];decide)
      refine AT rfl fun K' q0=>?_;simp (decide:=true) only[upd,a1,a2,nl,hno,cond_true,cond_false,if_true,if_false] at hK |-
      go_simp;exact q0 _ _ hK
     ·obtain rfl:=AI ho;have nl:L 12=false:=by
       cases h:L 12
       ·rfl
       ·exact absurd (hcl 12 _ rfl h ⟨4,.phase⟩ (by simp) rfl) (by rw[hno];decide)
      refine AT rfl fun K' q0=>?_;simp (decide:=true) only[upd,nl,hno,cond_true,cond_false,if_true,if_false] at hK |-
      go_simp;exact q0 _ _ hK
     ·obtain rfl:=AI ho;have nl:L 12=false:=by
       cases h:L 12
       ·rfl
       ·exact absurd (hcl 12 _ rfl h ⟨5,.phase⟩ (by simp) rfl) (by rw[hno];decide)
      refine AT rfl fun K' q0=>?_;simp (decide:=true) only[upd,nl,hno,cond_true,cond_false,if_true,if_false] at hK |-
      go_simp;exact q0 _ _ hK
     ·obtain rfl:=AI ho;have a5:=haft ⟨5,.data⟩ (by simp) rfl;have nl:L 12=false:=by
       cases h:L 12
       ·rfl
       ·exact absurd (hcl 12 _ rfl h ⟨6,.phase⟩ (by simp) rfl) (by rw[hno];decide)
      refine AT rfl fun K' q0=>?_;simp (decide:=true) only[upd,a5,nl,hno,cond_true,cond_false,if_true,if_false] at hK |-
      go_simp;exact q0 _ _ hK
     ·obtain rfl:=AI ho;have nl:L 12=false:=by
       cases h:L 12
       ·rfl
       ·exact absurd (hcl 12 _ rfl h ⟨7,.phase⟩ (by simp) rfl) (by rw[hno];decide)
      refine AT rfl fun K' q0=>?_;simp (decide:=true) only[upd,nl,hno,cond_true,cond_false,if_true,if_false] at hK |-
      go_simp;exact q0 _ _ hK
     ·obtain rfl:=AI ho;have a7:=haft ⟨7,.data⟩ (by simp) rfl;have nl:L 12=false:=by
       cases h:L 12
       ·rfl
       ·exact absurd (hcl 12 _ rfl h ⟨8,.phase⟩ (by simp) rfl) (by rw[hno];decide)
      refine AT rfl fun K' q0=>?_;simp (decide:=true) only[upd,a7,nl,hno,cond_true,cond_false,if_true,if_false] at hK |-
      go_simp;exact q0 _ _ hK
     ·obtain rfl:=AI ho;have a6:=haft ⟨6,.data⟩ (by simp) rfl;have a8:=haft ⟨8,.data⟩ (by simp) rfl;have nl:L 12=false:=by
       cases h:L 12
       ·rfl
       ·exact absurd (hcl 12 _ rfl h ⟨9,.phase⟩ (by simp) rfl) (by rw[hno];decide)
      refine AT rfl fun K' q0=>?_;simp (decide:=true) only[upd,a6,a8,nl,hno,cond_true,cond_false,if_true,if_false] at hK |-
      go_simp;exact q0 _ _ hK
     ·obtain rfl:=AI ho;have a4:=haft ⟨4,.data⟩ (by simp) rfl;have a9:=haft ⟨9,.data⟩ (by simp) rfl;have nl:L 12=false:=by
       cases h:L 12
       ·rfl
       ·exact absurd (hcl 12 _ rfl h ⟨10,.phase⟩ (by simp) rfl) (by rw[hno];decide)
      refine AT rfl fun K' q0=>?_;simp (decide:=true) only[upd,a4,a9,nl,hno,cond_true,cond_false,if_true,if_false] at hK |-
      go_simp;exact q0 _ _ hK
     ·obtain rfl:=AI ho;have qf:=haft ⟨10,.data⟩ (by simp) rfl;have nl:L 12=false:=by
       cases h:L 12
       ·rfl
       ·exact absurd (hcl 12 _ rfl h ⟨11,.phase⟩ (by simp) rfl) (by rw[hno];decide)
      refine AT rfl fun K' q0=>?_;simp (decide:=true) only[upd,qf,nl,hno,cond_true,cond_false,if_true,if_false] at hK |-
      go_simp;exact q0 _ _ hK
     ·obtain rfl:=AI ho;have a0:=haft ⟨0,.data⟩ (by simp) rfl;have a1:=haft ⟨1,.phase⟩ (by simp) rfl;have a2:=haft ⟨2,.phase⟩ (by simp) rfl;have a3:=haft ⟨3,.data⟩ (by simp) rfl;have a4:=haft ⟨4,.phase⟩ (by simp) rfl;have a5:=haft ⟨5,.phase⟩ (by simp) rfl;have a6:=haft ⟨6,.phase⟩ (by simp) rfl;have a7:=haft ⟨7,.phase⟩ (by simp) rfl;have a8:=haft ⟨8,.phase⟩ (by simp) rfl;have a9:=haft ⟨9,.phase⟩ (by simp) rfl;have qf:=haft ⟨10,.phase⟩ (by simp) rfl;have qn:=haft ⟨11,.data⟩ (by simp) rfl;refine AT rfl fun K' q0=>?_;simp (decide:=true) only[upd,a0,a1,a2,a3,a4,a5,a6,a7,a8,a9,qf,qn,hno,cond_true,cond_false,if_true,if_false] at hK |-
      go_simp;exact q0 _ _ hK
    case he=>
     intro L hL;have h0:=hL 0 (by decide);have h1:=hL 1 (by decide);have h2:=hL 2 (by decide);have h3:=hL 3 (by decide);have h4:=hL 4 (by decide);have h5:=hL 5 (by decide);have h6:=hL 6 (by decide);have h7:=hL 7 (by decide);have h8:=hL 8 (by decide);have h9:=hL 9 (by decide);have qo:=hL 10 (by decide);have qp:=hL 11 (by decide);have qq:=hL 12 (by decide);simp only[h0,h1,h2,h3,h4,h5,h6,h7,h8,h9,qo,qp,qq,cond_true];clear hL h0 h1 h2 h3 h4 h5 h6 h7 h8 h9 qo qp qq
     gi_wp2
     exact Aa qe
   case false=>
    have hb3:=Aa zt;have q6:=(Aa q7).kept (by rw[Aa qb];omega) qk hb3.os hb3.tape hb3.output hb3.size fun j hj _ _=>hb3.block j hj;obtain⟨a1,qw⟩:∃a1,a1=dU xs ys k q i1 j0:=⟨_,rfl⟩
    obtain⟨a2,qx⟩:∃a2,a2=dU xs ys k q i0 j1:=⟨_,rfl⟩
    have yx:=q6.inv.inv.look (i:=i1) (j:=j0) y9 zm (W':=W3.drew) rfl;have yy:=q6.inv.inv.look (i:=i0) (j:=j1) zj yb (W':=W3.drew) rfl;rw[<- qw] at yx;rw[<- qx] at yy;have yz:a1<=1000000:=by rw[qw];exact Aa z1 i1 j0
    have j3:a2<=1000000:=by rw[qx];exact Aa z1 i0 j1
    obtain⟨a3,zc⟩:∃a3,a3=max a1 a2:=⟨_,rfl⟩
    have jb:∀zs ty wq,(DD zs ty #[.int .i64 a1,.int .i64 a2]).run A5 wq=.ok (.int .i64 a3) wq:=fun zs ty wq=>YP a1 a2 a3 zc zs ty wq;have j4:a3<=1000000:=by omega
    obtain⟨W4,yw,qr,qg⟩:=q6.inv.inv.put (a:=i0) (b:=j0) (v:=a3) (Aa qm) zj zm (by omega);have r5:W3.drew.cell? ⟨w.heap.size+2,0,none⟩=some (.map (some (w.heap.size+1))):=(show W3.cell? _=_ from by have:=q6.inv.inv.left;simp[CD,this])
    have r6:W3.drew.cell? ⟨X,0,none⟩=some (.int .i64 i0):=(show W3.cell? _=_ from by have:=q6.inv.bi;simp[CD,this])
    have qe:=Ab (show W4.heap[W.heap.size+1]? = W2.heap[W.heap.size+1]? /\ InI w (.slice ao1 N cap1) (.slice ao2 M cap2) (k*M+(q+1)) (dU xs ys k (q+1)) wB.heap.size X i0 (c1 i0) W W4 from by
     have h5:=qr.as (V':=dU xs ys k (q+1)) (BY _) (fun i j=>by have h8:=Aa q4 i j;simp only[Bool.false_eq_true,if_false] at h8;rw[zc,qw,qx];exact h8);refine⟨(qg.block _ (by have:=hb3.size;omega) (fun e=>?_)).trans (hb3.block _ (by omega)),q6.next (by rw[Aa qb];omega) qk h5 qg⟩;have:=AI e;omega)
    clear q6 qr qg hb3 xc qw qx zc
    gi_wp2
    refine HG (by kernel_rfl) ?_;refine Ju (A:=fun L=>{ tmps:=#[.slice ao1 N cap1,.slice ao2 M cap2,AS,.pointer (some ⟨w.heap.size,0,none⟩),.map none,.pointer (some ⟨w.heap.size+2,0,none⟩),.pointer (some ⟨X,0,none⟩),.pointer (some ⟨X+1,0,none⟩),.int .i64 j0,.pointer (c2 j0),.map (some (w.heap.size+1)),.slice ao1 N cap1,.func (.func 292) #[] #[.pointer (some ⟨w.heap.size+3,0,none⟩)],.int .i64 i0,.pointer (c1 i0),.slice ao2 M cap2,.func (.func 292) #[] #[.pointer (some ⟨W.heap.size,0,none⟩)],.int .i64 j0,.pointer (c2 j0),.pointer (c1 i0),.pointer (c2 j0),.bool false,AS,AS,AS,AS,AS,AS,AS,AS,AS,AS,AS,AS,cond (L 0) (.map (some (w.heap.size+1))) AS,cond (L 1) (.int .i64 i0) AS,cond (L 2) (.int .i64 j0) AS,cond (L 3) (.agg #[.int .i64 i0,.int .i64 j0]) AS,cond (L 4) (.map (some (w.heap.size+1))) AS,cond (L 5) (.int .i64 i0) AS,cond (L 6) (.int .i64 i1) AS,cond (L 7) (.int .i64 j0) AS,cond (L 8) (.agg #[.int .i64 i1,.int .i64 j0]) AS,cond (L 9) (.int .i64 a1) AS,cond (L 10) (.map (some (w.heap.size+1))) AS,cond (L 11) (.int .i64 i0) AS,cond (L 12) (.int .i64 j0) AS,cond (L 13) (.int .i64 j1) AS,cond (L 14) (.agg #[.int .i64 i0,.int .i64 j1]) AS,cond (L 15) (.int .i64 a2) AS,cond (L 16) (.int .i64 a3) AS,AS],defers:=[] }) (Wd:=fun L=>cond (L 17) W4 W3.drew) 18 rfl (by kernel_rfl) ?hs ?he
    case hs=>
     intro L i o ho hi hno haft hcl K hK;have q9:i=0\/i=1\/i=2\/i=3\/i=4\/i=5\/i=6\/i=7\/i=8\/i=9\/i=10\/i=11\/i=12\/i=13\/i=14\/i=15\/i=16\/i=17:=by omega
     rcases q9 with rfl|rfl|rfl|rfl|rfl|rfl|rfl|rfl|rfl|rfl|rfl|rfl|rfl|rfl|rfl|rfl|rfl|rfl
     ·obtain rfl:=AI ho;have nl:L 17=false:=by
       cases h:L 17
       ·rfl
       ·exact absurd (hcl 17 _ rfl h ⟨0,.phase⟩ (by simp) rfl) (by rw[hno];decide)
      refine AT rfl fun K' q0=>?_;simp (decide:=true) only[upd,nl,hno,cond_true,cond_false,if_true,if_false] at hK |-
      go_simp;exact q0 _ _ hK
     ·obtain rfl:=AI ho;have nl:L 17=false:=by
       cases h:L 17
       ·rfl
       ·exact absurd (hcl 17 _ rfl h ⟨1,.phase⟩ (by simp) rfl) (by rw[hno];decide)
      refine AT rfl fun K' q0=>?_;simp (decide:=true) only[upd,nl,hno,cond_true,cond_false,if_true,if_false] at hK |-
      go_simp;exact q0 _ _ hK
     ·obtain rfl:=AI ho;have nl:L 17=false:=by
       cases h:L 17
       ·rfl
       ·exact absurd (hcl 17 _ rfl h ⟨2,.phase⟩ (by simp) rfl) (by rw[hno];decide)
      refine AT rfl fun K' q0=>?_;simp (decide:=true) only[upd,nl,hno,cond_true,cond_false,if_true,if_false] at hK |-
      go_simp;exact q0 _ _ hK
     ·obtain rfl:=AI ho;have a1:=haft ⟨1,.data⟩ (by simp) rfl;have a2:=haft ⟨2,.data⟩ (by simp) rfl;have nl:L 17=false:=by
       cases h:L 17
       ·rfl
       ·exact absurd (hcl 17 _ rfl h ⟨3,.phase⟩ (by simp) rfl) (by rw[hno];decide)
      refine AT rfl fun K' q0=>?_;simp (decide:=true) only[upd,a1,a2,nl,hno,cond_true,cond_false,if_true,if_false] at hK |-
      go_simp;exact q0 _ _ hK
     ·obtain rfl:=AI ho;have nl:L 17=false:=by
       cases h:L 17
       ·rfl
       ·exact absurd (hcl 17 _ rfl h ⟨4,.phase⟩ (by simp) rfl) (by rw[hno];decide)
      refine AT rfl fun K' q0=>?_;simp (decide:=true) only[upd,nl,hno,cond_true,cond_false,if_true,if_false] at hK |-
      go_simp;exact q0 _ _ hK
     ·obtain rfl:=AI ho;have nl:L 17=false:=by
       cases h:L 17
       ·rfl
       ·exact absurd (hcl 17 _ rfl h ⟨5,.phase⟩ (by simp) rfl) (by rw[hno];decide)
      refine AT rfl fun K' q0=>?_;simp (decide:=true) only[upd,nl,hno,cond_true,cond_false,if_true,if_false] at hK |-
      go_simp;exact q0 _ _ hK
     ·obtain rfl:=AI ho;have a5:=haft ⟨5,.data⟩ (by simp) rfl;have nl:L 17=false:=by
       cases h:L 17
       ·rfl
       ·exact absurd (hcl 17 _ rfl h ⟨6,.phase⟩ (by simp) rfl) (by rw[hno];decide)
      refine AT rfl fun K' q0=>?_;simp (decide:=true) only[upd,a5,nl,hno,cond_true,cond_false,if_true,if_false] at hK |-
      go_simp;exact q0 _ _ hK
     ·obtain rfl:=AI ho;have nl:L 17=false:=by
       cases h:L 17
       ·rfl
       ·exact absurd (hcl 17 _ rfl h ⟨7,.phase⟩ (by simp) rfl) (by rw[hno];decide)
      refine AT rfl fun K' q0=>?_;simp (decide:=true) only[upd,nl,hno,cond_true,cond_false,if_true,if_false] at hK |-
      go_simp;exact q0 _ _ hK
     ·obtain rfl:=AI ho;have a6:=haft ⟨6,.data⟩ (by simp) rfl;have a7:=haft ⟨7,.data⟩ (by simp) rfl;have nl:L 17=false:=by
       cases h:L 17
       ·rfl
       ·exact absurd (hcl 17 _ rfl h ⟨8,.phase⟩ (by simp) rfl) (by rw[hno];decide)
      refine AT rfl fun K' q0=>?_;simp (decide:=true) only[upd,a6,a7,nl,hno,cond_true,cond_false,if_true,if_false] at hK |-
      go_simp;exact q0 _ _ hK
     ·obtain rfl:=AI ho;have a4:=haft ⟨4,.data⟩ (by simp) rfl;have a8:=haft ⟨8,.data⟩ (by simp) rfl;have nl:L 17=false:=by
       cases h:L 17
       ·rfl
       ·exact absurd (hcl 17 _ rfl h ⟨9,.phase⟩ (by simp) rfl) (by rw[hno];decide)
      refine AT rfl fun K' q0=>?_;simp (decide:=true) only[upd,a4,a8,nl,hno,cond_true,cond_false,if_true,if_false] at hK |-
      go_simp;exact q0 _ _ hK
     ·obtain rfl:=AI ho;have nl:L 17=false:=by
       cases h:L 17
       ·rfl
       ·exact absurd (hcl 17 _ rfl h ⟨10,.phase⟩ (by simp) rfl) (by rw[hno];decide)
      refine AT rfl fun K' q0=>?_;simp (decide:=true) only[upd,nl,hno,cond_true,cond_false,if_true,if_false] at hK |-
      go_simp;exact q0 _ _ hK
     ·obtain rfl:=AI ho;have nl:L 17=false:=by
       cases h:L 17
       ·rfl
       ·exact absurd (hcl 17 _ rfl h ⟨11,.phase⟩ (by simp) rfl) (by rw[hno];decide)
      refine AT rfl fun K' q0=>?_;simp (decide:=true) only[upd,nl,hno,cond_true,cond_false,if_true,if_false] at hK |-
      go_simp;exact q0 _ _ hK
     ·obtain rfl:=AI ho;have nl:L 17=false:=by
       cases h:L 17
       ·rfl
       ·exact absurd (hcl 17 _ rfl h ⟨12,.phase⟩ (by simp) rfl) (by rw[hno];decide)
      refine AT rfl fun K' q0=>?_;simp (decide:=true) only[upd,nl,hno,cond_true,cond_false,if_true,if_false] at hK |-
      go_simp;exact q0 _ _ hK
     ·obtain rfl:=AI ho;have a12:=haft ⟨12,.data⟩ (by simp) rfl;have nl:L 17=false:=by
       cases h:L 17
       ·rfl
       ·exact absurd (hcl 17 _ rfl h ⟨13,.phase⟩ (by simp) rfl) (by rw[hno];decide)
      refine AT rfl fun K' q0=>?_;simp (decide:=true) only[upd,a12,nl,hno,cond_true,cond_false,if_true,if_false] at hK |-
      go_simp;exact q0 _ _ hK
     ·obtain rfl:=AI ho;have qn:=haft ⟨11,.data⟩ (by simp) rfl;have z6:=haft ⟨13,.data⟩ (by simp) rfl;have nl:L 17=false:=by
       cases h:L 17
       ·rfl
       ·exact absurd (hcl 17 _ rfl h ⟨14,.phase⟩ (by simp) rfl) (by rw[hno];decide)
      refine AT rfl fun K' q0=>?_;simp (decide:=true) only[upd,qn,z6,nl,hno,cond_true,cond_false,if_true,if_false] at hK |-
      go_simp;exact q0 _ _ hK
     ·obtain rfl:=AI ho;have qf:=haft ⟨10,.data⟩ (by simp) rfl;have z7:=haft ⟨14,.data⟩ (by simp) rfl;have nl:L 17=false:=by
       cases h:L 17
       ·rfl
       ·exact absurd (hcl 17 _ rfl h ⟨15,.phase⟩ (by simp) rfl) (by rw[hno];decide)
      refine AT rfl fun K' q0=>?_;simp (decide:=true) only[upd,qf,z7,nl,hno,cond_true,cond_false,if_true,if_false] at hK |-
      go_simp;exact q0 _ _ hK
     ·obtain rfl:=AI ho;have a9:=haft ⟨9,.data⟩ (by simp) rfl;have z8:=haft ⟨15,.data⟩ (by simp) rfl;have nl:L 17=false:=by
       cases h:L 17
       ·rfl
       ·exact absurd (hcl 17 _ rfl h ⟨16,.phase⟩ (by simp) rfl) (by rw[hno];decide)
      refine AT rfl fun K' q0=>?_;simp (decide:=true) only[upd,a9,z8,nl,hno,cond_true,cond_false,if_true,if_false] at hK |-
      go_simp;exact q0 _ _ hK
     ·obtain rfl:=AI ho;have a0:=haft ⟨0,.data⟩ (by simp) rfl;have a1:=haft ⟨1,.phase⟩ (by simp) rfl;have a2:=haft ⟨2,.phase⟩ (by simp) rfl;have a3:=haft ⟨3,.data⟩ (by simp) rfl;have a4:=haft ⟨4,.phase⟩ (by simp) rfl;have a5:=haft ⟨5,.phase⟩ (by simp) rfl;have a6:=haft ⟨6,.phase⟩ (by simp) rfl;have a7:=haft ⟨7,.phase⟩ (by simp) rfl;have a8:=haft ⟨8,.phase⟩ (by simp) rfl;have a9:=haft ⟨9,.phase⟩ (by simp) rfl;have qf:=haft ⟨10,.phase⟩ (by simp) rfl;have qn:=haft ⟨11,.phase⟩ (by simp) rfl;have a12:=haft ⟨12,.phase⟩ (by simp) rfl;have z6:=haft ⟨13,.phase⟩ (by simp) rfl;have z7:=haft ⟨14,.phase⟩ (by simp) rfl;have z8:=haft ⟨15,.phase⟩ (by simp) rfl;have yv:=haft ⟨16,.data⟩ (by simp) rfl;refine AT rfl fun K' q0=>?_;simp (decide:=true) only[upd,a0,a1,a2,a3,a4,a5,a6,a7,a8,a9,qf,qn,a12,z6,z7,z8,yv,hno,cond_true,cond_false,if_true,if_false] at hK |-
      go_simp;exact q0 _ _ hK
    case he=>
     intro L hL;have h0:=hL 0 (by decide);have h1:=hL 1 (by decide);have h2:=hL 2 (by decide);have h3:=hL 3 (by decide);have h4:=hL 4 (by decide);have h5:=hL 5 (by decide);have h6:=hL 6 (by decide);have h7:=hL 7 (by decide);have h8:=hL 8 (by decide);have h9:=hL 9 (by decide);have qo:=hL 10 (by decide);have qp:=hL 11 (by decide);have qq:=hL 12 (by decide);have zw:=hL 13 (by decide);have zx:=hL 14 (by decide);have zy:=hL 15 (by decide);have zz:=hL 16 (by decide);have y3:=hL 17 (by decide);simp only[h0,h1,h2,h3,h4,h5,h6,h7,h8,h9,qo,qp,qq,zw,zx,zy,zz,y3,cond_true];clear hL h0 h1 h2 h3 h4 h5 h6 h7 h8 h9 qo qp qq zw zx zy zz y3
     gi_wp2
     exact Aa qe
 case hdone=>
  intro W hI hK;have j9:W.cell? ⟨w.heap.size+2,0,none⟩=some (.map (some (w.heap.size+1))):=by have:=hI.left;simp[CD,this]
  have q7:=Ab hI;clear hI
  gi_wp2
  have h1:=Aa q7;obtain⟨cnt,D,_,m1,m2⟩:=h1.map;have j5:=Aa qb;refine⟨by simp,.inl ⟨_,_,rfl,run_takeDeferred hK,?_⟩⟩;refine⟨_,results_tmp rfl _ _ _,w.heap.size+1,cnt,D,rfl,by omega,E2 m1 (Ft (by omega)),m2.as fun i j=>by rw[Aa qd];exact Z2 i j,?_⟩;exact⟨h1.bel.os,h1.bel.tape,h1.bel.output,by simpa[World.putObj] using h1.bel.size,fun j hj=>(Ft (by omega)).trans (h1.bel.block j hj)⟩
end
section
theorem DK:∀ (f g:Nat) (a b:List To) (k j:Nat),a.length+b.length<=f->a.length+b.length<=g->eJ f a b k j=eJ g a b k j
 | 0,0,_,_,_,_,_,_=>rfl
 | 0,g+1,[],[],_,_,_,_=>rfl
 | f+1,0,[],[],_,_,_,_=>rfl
 | 0,g+1,x::a,b,_,_,h,_=>by simp at h
 | 0,g+1,[],y::b,_,_,h,_=>by simp at h
 | f+1,0,x::a,b,_,_,_,h=>by simp at h
 | f+1,0,[],y::b,_,_,_,h=>by simp at h
 | f+1,g+1,[],[],_,_,_,_=>rfl
 | f+1,g+1,x::a,[],k,j,h1,h2=>by
  simp only[CR,F5] at h1 h2;rw[eJ,eJ,DK f g a [] k j (by simp;omega) (by simp;omega)]
 | f+1,g+1,[],y::b,k,j,h1,h2=>by
  simp only[CR,F5] at h1 h2;rw[eJ,eJ,DK f g [] b k (j+1) (by simp;omega) (by simp;omega)]
 | f+1,g+1,x::a,y::b,k,j,h1,h2=>by
  simp only[CR] at h1 h2;rw[eJ,eJ,DK f g a (y::b) k j (by simp;omega) (by simp;omega),DK f g (x::a) b k (j+1) (by simp;omega) (by simp;omega),DK f g a b (k+1) (j+1) (by omega) (by omega)]
noncomputable def gK(a b:List To)(k j:Nat):List Nat×List Nat:=eJ (a.length+b.length) a b k j
theorem Yy(k j:Nat):gK [] [] k j=([],[]):=rfl
theorem Yx{x:To}{k j:Nat}(h:eB a b=eB (x::a) b):gK (x::a) b k j=(k::(gK a b k j).1,(gK a b k j).2):=by
 unfold gK;rw[show (x::a).length+b.length=(a.length+b.length)+1 by simp;omega];cases b with
 | nil=>rw[eJ]
 | cons y b=>rw[eJ,if_pos h]
theorem Yz{y:To}{k j:Nat}(h1:a=[]\/eB a.tail (y::b)≠eB a (y::b))(h2:eB a b=eB a (y::b)):gK a (y::b) k j=((gK a b k (j+1)).1,j::(gK a b k (j+1)).2):=by
 unfold gK;rw[show a.length+(y::b).length=(a.length+b.length)+1 by simp;omega];cases a with
 | nil=>rw[eJ]
 | cons x a=>
  grind [eJ,List.tail_cons,gK]
theorem VW{x y:To}{k j:Nat}(h1:eB a (y::b)≠eB (x::a) (y::b))(h2:eB (x::a) b≠eB (x::a) (y::b)):gK (x::a) (y::b) k j=gK a b (k+1) (j+1):=by
 unfold gK;rw[show (x::a).length+(y::b).length=(a.length+b.length+1)+1 by simp;omega,eJ,if_neg h1,if_neg h2];exact DK _ _ _ _ _ _ (by omega) (by omega)
def gR(xs ys:List To)(i j kept:Nat)(rs gJ:List Nat):Prop:=i<=xs.length/\j<=ys.length/\kept<=i/\gK xs ys 0 0=(rs++(gK (xs.drop i) (ys.drop j) kept j).1,gJ++(gK (xs.drop i) (ys.drop j) kept j).2)
variable{xs ys:List To}{i j kept:Nat}{rs gJ:List Nat}
theorem gR.start:gR xs ys 0 0 0 [] []:=⟨G0 _,G0 _,BY _,rfl⟩
theorem gR.rem(h:gR xs ys i j kept rs gJ)(hi:i<xs.length)(he:eB (xs.drop (i+1)) (ys.drop j)=eB (xs.drop i) (ys.drop j)):gR xs ys (i+1) j kept (rs++[kept]) gJ:=by
 obtain⟨h1,h2,h3,h4⟩:=h;have e:=A4 hi;rw[e] at h4 he;refine⟨hi,h2,by omega,?_⟩;rw[h4,Yx he];simp
theorem gR.mis(h:gR xs ys i j kept rs gJ)(hj:j<ys.length)(h1:¬ (i<xs.length/\eB (xs.drop (i+1)) (ys.drop j)=eB (xs.drop i) (ys.drop j)))(he:eB (xs.drop i) (ys.drop (j+1))=eB (xs.drop i) (ys.drop j)):gR xs ys i (j+1) kept rs (gJ++[j]):=by
 obtain⟨g1,g2,g3,g4⟩:=h;have e:=A4 hj;refine⟨g1,hj,g3,?_⟩;rw[e] at g4 he;rw[g4,Yz (b:=ys.drop (j+1)) ?_ he]
 ·simp
 ·by_cases hi:i<xs.length
  ·right
   rw[List.tail_drop]
   grind
  grind
theorem gR.keep(h:gR xs ys i j kept rs gJ)(hi:i<xs.length)(hj:j<ys.length)(h1:eB (xs.drop (i+1)) (ys.drop j)≠eB (xs.drop i) (ys.drop j))(h2:eB (xs.drop i) (ys.drop (j+1))≠eB (xs.drop i) (ys.drop j)):gR xs ys (i+1) (j+1) (kept+1) rs gJ:=by
 obtain⟨g1,g2,g3,g4⟩:=h;refine⟨hi,hj,by omega,?_⟩;have e1:=A4 hi;have e2:=A4 hj;rw[g4];rw[e1,e2] at h1 h2;rw[e1,e2,VW]
 ·exact h1
 ·exact h2
theorem gR.end_(h:gR xs ys i j kept rs gJ)(hi:¬ i<xs.length)(hj:¬ j<ys.length):gK xs ys 0 0=(rs,gJ):=by
 obtain⟨g1,g2,g3,g4⟩:=h;rw[g4,Dp (by omega),show ys.drop j=[] from (by grind),Yy];simp
theorem gR.len(h:gR xs ys i j kept rs gJ):rs.length<=xs.length/\gJ.length<=ys.length /\ ∀k∈gJ,k<ys.length:=by
 have h1:=Du (xs.length+ys.length) xs ys 0 0;have h2:=(Ec (xs.length+ys.length) xs ys 0 0).2;have h4:=h.2.2.2
 grind [D3,gK]
theorem Uc(h:¬ i<xs.length)(j j':Nat):eB (xs.drop i) (ys.drop j)=eB (xs.drop i) (ys.drop j'):=by
 rw[Dp (by omega),eB,eB]
theorem Ub(h:¬ j<ys.length)(i i':Nat):eB (xs.drop i) (ys.drop j)=eB (xs.drop i') (ys.drop j):=by
 rw[show ys.drop j=[] from Dp (by omega),Jm,Jm]
def jX(s:List By)(i:Nat):dX:=(1,Ca s i,.nil)
def LP(s:List By)(ys:List To)(i:Nat):dX:=(0,Ca s i,(ys[i]?).getD .nil)
theorem Xf(s:List By):B6 s xs ys=(gK xs ys 0 0).1.map (jX s)++(gK xs ys 0 0).2.map (LP s ys):=rfl
end
def iv_(i:Nat):D0:=.int .i64 i
structure EU(w1:C2)(Mk:Nat)(n:Int)(M1:Nat->Prop)(ops:List dX)(s:List By)(xs ys:List To)(i j k:Nat)(mv:D0)(wr:C2):Prop where
 ex:∃rs ms M',gR xs ys i j k rs ms/\MkK wr Mk n M' (fun b=>M' b\/mv.ownBlock=some b) (ops++rs.map (jX s))/\JEx M1 M' w1 wr/\wr.ownsRow 0 3 1 mv ms.length (ms.map iv_) /\ ∀g,mv.ownBlock=some g -> ¬ M' g
theorem bS:(Tryz.prog.info? 3).map (fun i=>(i.zero,i.size,i.bytes))=some (some (.int .i64 0),1,8):=by kernel_rfl
theorem Wz{wr w3:C2}{Mk:Nat}{n:Int}{M' own:Nat->Prop}(h:MkK wr Mk n M' (fun b=>M' b\/own b) ops')(ho:∀b,own b->b<wr.heap.size)(hb:F2 wr.heap.size wr w3):
  MkK w3 Mk n (fun b=>M' b\/(wr.heap.size<=b/\b<w3.heap.size)) (fun b=>(M' b\/(wr.heap.size<=b/\b<w3.heap.size))\/own b) ops'/\JEx M' (fun b=>M' b\/(wr.heap.size<=b/\b<w3.heap.size)) wr w3:=by
 have hs:=hb.size;refine⟨h.moved (fun k hk _=>hb.block k hk) (fun k hk=>CH hk) (fun k hk=>?_),⟨hb.os,hb.tape,hb.output,hs,fun k hk=>⟨CH hk,hb.block k (h.low k (CH hk))⟩⟩⟩;rcases hk with (hk|hk)|hk
 ·have:=h.low k (CH hk)
  grind
 ·omega
 grind
theorem QG{w1 wr w3:C2}{Mk:Nat}{n:Int}{M1 M':Nat->Prop}{mv:D0}{ms:List Nat}(h:MkK wr Mk n M' (fun b=>M' b\/mv.ownBlock=some b) ops')(hx:JEx M1 M' w1 wr)(ho:wr.ownsRow 0 3 1 mv ms.length (ms.map iv_))(q8:∀g,mv.ownBlock=some g -> ¬ M' g)(hl:ops'.length<=1000000000)(hb:F2 wr.heap.size wr w3){o:dX}(q6:o.1<3)(htk:Aw w3 (fun b=>wr.heap.size<=b) (.slice (some p) pl pc) o.2.1)(hv:(o.1=1/\x=none)\/(o.1≠1/\Rep top M' wr (.pointer x) o.2.2)):
  HV A5 169 #[.pointer (some ⟨Mk,0,none⟩),.int .i64 o.1,.slice (some p) pl pc,.pointer x] w3 fun e w4=>e=.returned (.tuple #[]) /\ ∃M4,MkK w4 Mk n M4 (fun b=>M4 b\/mv.ownBlock=some b) (ops'++[o])/\JEx M1 M4 w1 w4/\w4.ownsRow 0 3 1 mv ms.length (ms.map iv_) /\ ∀g,mv.ownBlock=some g -> ¬ M4 g:=by
 obtain⟨h3,q4⟩:=Wz h (fun b hb=>(AA ho b hb).1) hb;refine (MC h3 (fun _ hk=>CH hk) hl ⟨rfl,q6,htk.move (by grind),rfl,?_⟩).mono ?_
 ·rcases hv with⟨e1,e2⟩|⟨e1,e2⟩
  ·grind
  ·exact HK ⟨e1,e2.move fun b hb1 hb2=>⟨hb.block b hb2,CH hb1⟩⟩
 ·rintro e w4 ⟨rfl,h4,q0⟩;have q7:JEx M' (fun b=>M' b\/(wr.heap.size<=b/\b<w3.heap.size)) wr w4:=⟨q0.os.trans q4.os,q0.tape.trans q4.tape,q0.output.trans q4.output,F1 q4.size q0.size,fun b q5=>⟨CH q5,(q0.kept b (CH (CH q5))).2.trans (q4.kept b q5).2⟩⟩
  refine⟨rfl,_,h4,hx.trans q7,AC ho fun g hg=>(q0.kept g (HK hg)).2.trans (hb.block g (AA ho g hg).1),fun g hg hm=>?_⟩;rcases hm with hm|hm
  ·grind
  ·have:=(AA ho g hg).1;omega
section
variable{w1 wr w3:C2}{Mk:Nat}{n:Int}{M1:Nat->Prop}{ops:List dX}{s:List By}{xs ys:List To}{i j k:Nat}{mv:D0}
theorem EU.rem(h:EU w1 Mk n M1 ops s xs ys i j k mv wr)(hi:i<xs.length)(he:eB (xs.drop (i+1)) (ys.drop j)=eB (xs.drop i) (ys.drop j))(q0:ops.length<=500000000)(q4:xs.length<=1000000)(hb:F2 wr.heap.size wr w3)(htk:Aw w3 (fun b=>wr.heap.size<=b) (.slice (some p) pl pc) (Ca s k)):
  HV A5 169 #[.pointer (some ⟨Mk,0,none⟩),.int .i64 1,.slice (some p) pl pc,.pointer none] w3 fun e w4=>e=.returned (.tuple #[])/\EU w1 Mk n M1 ops s xs ys (i+1) j k mv w4:=by
 obtain⟨rs,ms,M',h1,h2,h3,h4,h5⟩:=h.ex;have hl:=h1.len;refine (QG (o:=jX s k) h2 h3 h4 h5 (by grind) hb (by show 1<3;decide) htk (CH ⟨rfl,rfl⟩)).mono ?_;rintro e w4 ⟨rfl,M4,k1,k2,k3,k4⟩;exact⟨rfl,⟨rs++[k],ms,M4,h1.rem hi he,by grind,k2,k3,k4⟩⟩
theorem EU.mis(h:EU w1 Mk n M1 ops s xs ys i j k mv wr)(hj:j<ys.length)(hn:¬ (i<xs.length/\eB (xs.drop (i+1)) (ys.drop j)=eB (xs.drop i) (ys.drop j)))(he:eB (xs.drop i) (ys.drop (j+1))=eB (xs.drop i) (ys.drop j)):
  ∃ms:List Nat,ms.length<=ys.length/\wr.ownsRow 0 3 1 mv ms.length (ms.map iv_) /\ ∀ (g cap:Nat) (o:Obj) (w3:C2),w3.ownsRow 0 3 1 (.slice (some ⟨g,0,none⟩) (ms.length+1) cap) (ms.length+1) (ms.map iv_++[iv_ j])->(wr.alloc o).grownBy w3 mv.ownBlock->(mv.ownBlock=some g\/g=wr.heap.size+1)->EU w1 Mk n M1 ops s xs ys i (j+1) k (.slice (some ⟨g,0,none⟩) (ms.length+1) cap) w3:=by
 obtain⟨rs,ms,M',h1,h2,h3,h4,h5⟩:=h.ex;refine⟨ms,h1.len.2.1,h4,fun g cap o w3 ho hg q4=>?_⟩;have hs:wr.heap.size+1<=w3.heap.size:=by have:=hg.size;simpa using this
 have hk:∀b,b<wr.heap.size->mv.ownBlock≠some b->w3.heap[b]? = wr.heap[b]?:=fun b hb hne=>(hg.block b (by simp;omega) (fun e=>hne e.symm)).trans (A6 wr o b hb);have q5:g<w3.heap.size:=(AA ho g rfl).1;refine⟨rs,ms++[j],M',h1.mis hj hn he,h2.moved (fun b hb q0=>hk b hb fun e=>?_) (fun _ hb=>hb) (fun b hb=>?_),h3.trans ⟨hg.os,hg.tape,hg.output,by omega,fun b hb=>⟨hb,hk b (h2.low b (CH hb)) fun e=>h5 b e hb⟩⟩,by simpa using ho,fun q hq hm=>?_⟩
 ·rcases q0 with q0|q0
  ·exact q0 (HK e)
  ·exact h5 b e q0
 ·rcases hb with hb|hb
  ·have:=h2.low b (CH hb);exact⟨CH (CH hb),by omega⟩
  grind [eB,HM]
 ·simp[HM] at hq;subst hq;rcases q4 with e|e
  ·exact h5 _ e hm
  ·have:=h2.low _ (CH hm);omega
theorem EU.keep(h:EU w1 Mk n M1 ops s xs ys i j k mv wr)(hi:i<xs.length)(hj:j<ys.length)(e1:eB (xs.drop (i+1)) (ys.drop j)≠eB (xs.drop i) (ys.drop j))(e2:eB (xs.drop i) (ys.drop (j+1))≠eB (xs.drop i) (ys.drop j)):EU w1 Mk n M1 ops s xs ys (i+1) (j+1) (k+1) mv wr:=by
 obtain⟨rs,ms,M',h1,h2⟩:=h.ex;exact⟨rs,ms,M',h1.keep hi hj e1 e2,h2⟩
end
structure DLo(w1:C2)(Mk:Nat)(n:Int)(M1:Nat->Prop)(ops':List dX)(s:List By)(ys:List To)(ms:List Nat)(mv:D0)(t:Nat)(wr:C2):Prop where
 ex:∃M',MkK wr Mk n M' (fun b=>M' b\/mv.ownBlock=some b) (ops'++(ms.take t).map (LP s ys))/\JEx M1 M' w1 wr/\wr.ownsRow 0 3 1 mv ms.length (ms.map iv_) /\ ∀g,mv.ownBlock=some g -> ¬ M' g
theorem DLo.add{w1 wr w3:C2}{Mk:Nat}{n:Int}{M1:Nat->Prop}{s:List By}{ys:List To}{ms:List Nat}{mv:D0}{t q:Nat}(h:DLo w1 Mk n M1 ops' s ys ms mv t wr)(ht:t<ms.length)(hq:ms[t]=q)(q0:q<ys.length)(hl:ops'.length+ms.length<=1000000000)(hb:F2 wr.heap.size wr w3)(htk:Aw w3 (fun b=>wr.heap.size<=b) (.slice (some p) pl pc) (Ca s q))(hv:Rep top M1 w1 (.pointer x) ys[q]):
  HV A5 169 #[.pointer (some ⟨Mk,0,none⟩),.int .i64 0,.slice (some p) pl pc,.pointer x] w3 fun e w4=>e=.returned (.tuple #[])/\DLo w1 Mk n M1 ops' s ys ms mv (t+1) w4:=by
 obtain⟨M',h2,h3,h4,h5⟩:=h.ex;have e1:(LP s ys q).2.2=ys[q]:=by
  grind [LP,D3,F7]
 have e2:ms.take (t+1)=ms.take t++[q]:=by rw[List.take_succ_eq_append_getElem ht,hq]
 refine (QG (o:=LP s ys q) h2 h3 h4 h5 (by grind) hb (by show 0<3;decide) htk (HK ⟨by show 0≠1;decide,by rw[e1];exact hv.move fun b hb1 _=>⟨(h3.kept b hb1).2,(h3.kept b hb1).1⟩⟩)).mono ?_;rintro e w4 ⟨rfl,M4,k1,k2,k3,k4⟩;exact⟨rfl,⟨M4,by grind,k2,k3,k4⟩⟩
theorem PQ{F':Nat->Prop}{Mk:Nat}{n:Int}{M:Nat->Prop}{ops:List dX}{j3 yb:D0}{y9 ya:List D0}{xs ys:List To}{pa:Option Addr}{s:List By}(h:MkD w Mk n M ops)(hT:Ai w)(yk:∀k,k<NG->M k)(hf:f<=top)(zo:∀k,F' k->M k)(yt:(xs.length+1)*(ys.length+1)<=1000000)(zf:ops.length<=500000000)(o1:w.ownsRow 0 80 1 j3 y9.length y9)(a1:Al (Rep f F w) y9 xs)(o2:w.ownsRow 0 80 1 yb ya.length ya)(ym:∀g,yb.ownBlock=some g->F' g)(a2:Al (Rep f F' w) ya ys)(hp:Aw w M (.slice pa pl pc) s)(yu:s.length<=100000000)(ze:s=[] -> ∃c,(HE pa pl pc)=.slice none 0 c):
  HV A5 168 #[.pointer (some ⟨Mk,0,none⟩),.slice pa pl pc,j3,yb] w (CA Mk n M ops (B6 s xs ys) w):=by
 have qk:=Ab (Np o1 a1 o2 a2 yt);obtain⟨_,hN,ao1,cap1,g1,c1,rfl,_,_,_⟩:=Jd o1 a1;obtain⟨_,hM,ao2,cap2,g2,c2,rfl,z6,yl,yw⟩:=Jd o2 a2;obtain⟨N,zs⟩:∃N,N=xs.length:=⟨_,rfl⟩
 obtain⟨K,zq⟩:∃K,K=ys.length:=⟨_,rfl⟩
 have jy:N+1<=1000000:=by
  have:(xs.length+1)*1<=(xs.length+1)*(ys.length+1):=G1 _ (by omega);omega
 have jx:K+1<=1000000:=by
  have:1*(ys.length+1)<=(xs.length+1)*(ys.length+1):=Dt _ (by omega);omega
 rw[<- zs,<- zq] at qk |-;obtain⟨Q,hQ⟩:∃Q,Q=CA Mk n M ops (B6 s xs ys) w:=⟨_,rfl⟩
 rw[<- hQ];have HQ:=Ab hQ;have HH:=Ab h;have HT:=Ab hT;have yd:=Ab yk;have HF:=Ab zo;have yf:=Ab hp;have yg:=Ab yu;have ye:=Ab ze;have qm:=Ab zs;have qj:=Ab zq;have qx:=Ab zf;have j8:=Ab (show 0<K->ao2=some ⟨g2,0,none⟩/\g2<w.heap.size/\M g2 from fun hp=>by
  obtain⟨e,h2⟩:=z6 (by omega);exact⟨e,h2,zo _ (ym g2 (by rw[e];rfl))⟩)
 have j5:=Ab yl;have jc:=Ab yw;clear hQ h hT yk zo hp yu ze zs zq zf ym z6 yl yw o1 a1 o2 a2 yt hN hM
 go_enter func168,ntmps168
 go_wp2_with (fail);refine (Aa qk).mono ?_
 rintro e w1 ⟨m,cnt,D,rfl,hm,qr,yx,hb1⟩;have zl:m<w1.heap.size:=by obtain⟨es,yh,hb,_⟩:=qr;exact (A2.1 hb).1
 obtain⟨zu,zt⟩:=(Aa HH).grow hb1 (fun b=>w.heap.size<=b/\b<w1.heap.size) (fun _ h=>h);obtain⟨M1,zn⟩:∃M1,M1=fun b=>M b\/(w.heap.size<=b/\b<w1.heap.size):=⟨_,rfl⟩
 rw[<- zn] at zu zt;have jb:=Ab (show M1 m from by rw[zn];exact HK ⟨hm,zl⟩);have j9:=Ab (show EU w1 Mk n M1 ops s xs ys 0 0 0 (.slice none 0 0) w1 from⟨⟨[],[],M1,gR.start,by
  simpa using zu.less (K':=fun b=>M1 b\/(HE none 0 0).ownBlock=some b) (fun b hb=>hb.elim id fun e=>by cases e),JEx.refl _ _,⟨rfl,CH ⟨rfl,rfl⟩⟩,fun g hg=>by cases hg⟩⟩)
 have qn:=Ab zt;have qt:=Ab (And.intro qr yx);clear hm qr yx hb1 zl zu zt zn qk
 go_wp2_with (fail)
 go_loopw [9,10,11,12] (fun mv vi vj vk wr=>∃ (i j k ul uc:Nat) (ua:Option Addr),mv=.slice ua ul uc/\vi=.int .i64 i/\vj=.int .i64 j/\vk=.int .i64 k/\Hid (EU w1 Mk n M1 ops s xs ys i j k (.slice ua ul uc) wr)/\i<=N/\j<=K/\k<=i) (fun _ vi vj _ _=>(N-(HN vi).toNat)+(K-(HN vj).toNat))
 case atStart=>exact⟨0,0,0,0,0,none,rfl,rfl,rfl,rfl,j9,by omega,by omega,by omega⟩
 case round=>
  obtain⟨i,j,k,ul,uc,ua,rfl,rfl,rfl,rfl,HI,yp,jk,yr⟩:=hrel;obtain⟨u0,y4⟩:∃u0,u0=eB (xs.drop i) (ys.drop j):=⟨_,rfl⟩
  obtain⟨u1,y5⟩:∃u1,u1=eB (xs.drop (i+1)) (ys.drop j):=⟨_,rfl⟩
  obtain⟨u2,y6⟩:∃u2,u2=eB (xs.drop i) (ys.drop (j+1)):=⟨_,rfl⟩
  obtain⟨i1,qu⟩:∃i1,i1=i+1:=⟨_,rfl⟩
  obtain⟨j1,qp⟩:∃j1,j1=j+1:=⟨_,rfl⟩
  obtain⟨k1,yq⟩:∃k1,k1=k+1:=⟨_,rfl⟩
  have x2:IntKind.i64.wrap ((i:Int)+1)=(i1:Int):=by rw[Bs];omega
  have x3:IntKind.i64.wrap ((j:Int)+1)=(j1:Int):=by rw[Bs];omega
  have x5:IntKind.i64.wrap ((k:Int)+1)=(k1:Int):=by rw[Bs];omega
  have zk:wr.heap[m]? = w1.heap[m]?:=by
   obtain⟨rs,ms,M',_,_,hx,_⟩:=(Aa HI).ex;exact (hx.kept m (Aa jb)).2
  have L0:=Ja (Aa qt).1 (Aa qt).2 (i:=i) (j:=j) (by omega) (by omega) zk;have L1:=Ja (Aa qt).1 (Aa qt).2 (i:=i1) (j:=j) (by omega) (by omega) zk;have L2:=Ja (Aa qt).1 (Aa qt).2 (i:=i) (j:=j1) (by omega) (by omega) zk;rw[<- y4] at L0;simp only[qu,<- y5] at L1;simp only[qp,<- y6] at L2;rw[<- qu] at L1;rw[<- qp] at L2;have HU:=Ab (show u0=eB (xs.drop i) (ys.drop j)/\u1=eB (xs.drop (i+1)) (ys.drop j)/\u2=eB (xs.drop i) (ys.drop (j+1))/\i1=i+1/\j1=j+1/\k1=k+1 from⟨y4,y5,y6,qu,qp,yq⟩);clear y4 y5 y6 qu qp yq zk;have yc:=Ab (show Ai wr/\Aw wr M1 (.slice pa pl pc) s /\ ∀b,M1 b->b<wr.heap.size from by
   obtain⟨rs,ms,M',_,h2,hx,_⟩:=(Aa HI).ex;have q9:=(Aa qn).trans hx;exact⟨(Aa HT).below ⟨q9.os,q9.tape,q9.output,q9.size,fun b hb=>(q9.kept b (Aa yd b hb)).2⟩,(Aa yf).move fun b hb _=>⟨(q9.kept b hb).2,((Aa qn).kept b hb).1⟩,fun b hb=>h2.low b (CH (hx.kept b hb).1)⟩)
  by_cases hA:i<N/\u1=u0
  ·obtain⟨qe,e1⟩:=hA;have qf:(i:Int)<(N:Int):=by omega
   have yi:((u1:Int)==(u0:Int))=true:=by simp[e1]
   have qy:=Ab (fun (w3:C2) (hb:F2 wr.heap.size wr w3) (p:Addr) (pl pc:Nat) (htk:Aw w3 (fun b=>wr.heap.size<=b) (.slice (some p) pl pc) (Ca s k))=>(Aa HI).rem (by have:=Aa qm;omega) (by obtain⟨a1,a2,_⟩:=Aa HU;rw[<- a1,<- a2];exact e1) (Aa qx) (by have:=Aa qm;omega) hb htk);clear L2 e1
   go_wp2_with (fail);refine (Tryz.strconv_Itoa k (by omega) (by omega) wr (Aa yc).1.tab).mono ?_
   rintro e w2 ⟨rfl,kk,os,rfl⟩;have hb2:=Fu wr kk os;generalize Sort.grow (wr.drewN kk) os=w2 at *;have j4:=Ab hb2;have hs2:=hb2.size;have zi:=Ab (Jh (t:=HO (k:Int)) ((Aa yc).2.1.move fun b hb zj=>⟨hb2.block b zj,hb⟩) (Aa yg) (Aa ye));clear hb2
   go_wp2_with (fail);refine (Aa zi).mono ?_
   rintro e w3 ⟨g',qo,rfl,ji,htk,hb3⟩;have qw:=Ab (Aa qy w3 ((Aa j4).trans (hb3.mono hs2)) ⟨g',0,none⟩ (s.length+1) qo (htk.move fun b hb _=>⟨rfl,F1 hs2 hb⟩));clear htk hb3 qy zi
   go_wp2_with (fail);refine (Aa qw).mono ?_
   rintro e w4 ⟨rfl,yj⟩;have qi:=Ab (show EU w1 Mk n M1 ops s xs ys i1 j k (.slice ua ul uc) w4 from by rw[(Aa HU).2.2.2.1];exact yj);have qu:=(Aa HU).2.2.2.1;have zw:i1<=N:=by omega
   have zx:k<=i1:=by omega
   have jp:(N-i1)<N-i:=by omega
   clear yj qu qw
   go_wp2_with (fail);exact⟨⟨i1,j,k,ul,uc,ua,rfl,rfl,rfl,rfl,qi,zw,jk,zx⟩,by simp[HN];omega⟩
  by_cases hB:j<K/\u2=u0
  ·obtain⟨qq,e2⟩:=hB;have zc:(j:Int)<(K:Int):=by omega
   have jf:((u2:Int)==(u0:Int))=true:=by simp[e2]
   obtain⟨ms,zl,zh,qh⟩:=(Aa HI).mis (by have:=Aa qj;omega) (fun ⟨q1,q2⟩=>hA ⟨by have:=Aa qm;omega,by obtain⟨a1,a2,_⟩:=Aa HU;rw[a1,a2];exact q2⟩) (by obtain⟨a1,_,a3,_⟩:=Aa HU;rw[<- a1,<- a3];exact e2);obtain⟨i0,yo,h0⟩:=Option.map_eq_some_iff.1 bS;injection h0 with hz h0;injection h0 with hz2 hz3;obtain⟨z0,y8⟩:∃z0,z0=Value.int .i64 0:=⟨_,rfl⟩
   rw[<- y8] at hz;have yz:z0.cells.size=1:=by rw[y8];rfl
   have jq:ms.length+1<=1000000:=by have:=Aa qj;omega
   have qd:=Ab zh;have qg:=Ab qh;have jg:(i<N/\u1≠u0) \/ ¬ i<N:=by
    by_cases hi:i<N
    ·exact CH ⟨hi,fun e=>hA ⟨hi,e⟩⟩
    ·exact HK hi
   clear zh qh e2 zl hA y8;have qp:=(Aa HU).2.2.2.2.1;have za:j1<=K:=by omega
   have jp:(K-j1)<K-j:=by omega
   rcases jg with⟨qe,e1⟩|qe
   ·have qf:(i:Int)<(N:Int):=by omega
    have yi:((u1:Int)==(u0:Int))=false:=by simp;omega
    clear e1 qp
    go_wp2_with (at_builtin;refine G3 _ rfl _ _ _ rfl 0 3 i0 z0 1 8 underlying27 yo hz hz2 hz3 yz (by decide) (.slice ua ul uc) ms.length (ms.map iv_) rfl ((Aa qd).alloc _) ⟨wr.heap.size,0,none⟩ 1 1 [.int .i64 j] rfl rfl (G2 (cs:=#[.int .i64 j]) (t:=3) (fr:=(0,0)) (A3 wr _)) (by simp[HR]) (by decide) (by unfold maxLen;omega) (by omega) (G0 _) (wr.heap.size+1) (by simp) ?_;intro g cap w3 q8 q7 qz hlt;have qi:=Ab (Aa qg g cap _ w3 q8 q7 qz);clear q8 q7 qz hlt)
    refine⟨⟨i,j1,k,ms.length+1,cap,some ⟨g,0,none⟩,rfl,rfl,rfl,rfl,?_,yp,za,yr⟩,by simp[HN];omega⟩;rw[(Aa HU).2.2.2.2.1];exact qi
   ·have qf:¬ (i:Int)<(N:Int):=by omega
    clear L1 qp
    go_wp2_with (at_builtin;refine G3 _ rfl _ _ _ rfl 0 3 i0 z0 1 8 underlying27 yo hz hz2 hz3 yz (by decide) (.slice ua ul uc) ms.length (ms.map iv_) rfl ((Aa qd).alloc _) ⟨wr.heap.size,0,none⟩ 1 1 [.int .i64 j] rfl rfl (G2 (cs:=#[.int .i64 j]) (t:=3) (fr:=(0,0)) (A3 wr _)) (by simp[HR]) (by decide) (by unfold maxLen;omega) (by omega) (G0 _) (wr.heap.size+1) (by simp) ?_;intro g cap w3 q8 q7 qz hlt;have qi:=Ab (Aa qg g cap _ w3 q8 q7 qz);clear q8 q7 qz hlt)
    refine⟨⟨i,j1,k,ms.length+1,cap,some ⟨g,0,none⟩,rfl,rfl,rfl,rfl,?_,yp,za,yr⟩,by simp[HN];omega⟩;rw[(Aa HU).2.2.2.2.1];exact qi
  by_cases qe:i<N
  ·have e1:u1≠u0:=fun e=>hA ⟨qe,e⟩;have qq:j<K:=by
    by_cases hj:j<K
    ·exact hj
    ·exfalso
     obtain⟨a1,a2,_⟩:=Aa HU;exact e1 (by rw[a1,a2];exact Ub (by have:=Aa qj;omega) _ _)
   have e2:u2≠u0:=fun e=>hB ⟨qq,e⟩;have qf:(i:Int)<(N:Int):=by omega
   have zc:(j:Int)<(K:Int):=by omega
   have yi:((u1:Int)==(u0:Int))=false:=by simp;omega
   have jf:((u2:Int)==(u0:Int))=false:=by simp;omega
   have qi:=Ab (show EU w1 Mk n M1 ops s xs ys i1 j1 k1 (.slice ua ul uc) wr from by
    obtain⟨a1,a2,a3,a4,a5,a6⟩:=Aa HU;rw[a4,a5,a6];exact (Aa HI).keep (by have:=Aa qm;omega) (by have:=Aa qj;omega) (by rw[<- a1,<- a2];exact e1) (by rw[<- a1,<- a3];exact e2))
   have zy:i1<=N/\j1<=K/\k1<=i1/\N-i1<N-i/\K-j1<K-j:=by
    obtain⟨_,_,_,a4,a5,a6⟩:=Aa HU;omega
   clear e1 e2 hA hB
   go_wp2_with (fail);exact⟨⟨i1,j1,k1,ul,uc,ua,rfl,rfl,rfl,rfl,qi,zy.1,zy.2.1,zy.2.2.1⟩,by simp[HN];omega⟩
  ·have qq:¬ j<K:=fun hj=>by
    obtain⟨a1,_,a3,_⟩:=Aa HU;exact hB ⟨hj,by rw[a1,a3];exact Uc (by have:=Aa qm;omega) _ _⟩
   have qf:¬ (i:Int)<(N:Int):=by omega
   have zc:¬ (j:Int)<(K:Int):=by omega
   obtain⟨rs,ms,M',h1,h2,h3,h4,h5⟩:=(Aa HI).ex;have zg:=h1.end_ (by have:=Aa qm;omega) (by have:=Aa qj;omega);have zb:=h1.len;obtain⟨ops',qb⟩:∃ops',ops'=ops++rs.map (jX s):=⟨_,rfl⟩
   rw[<- qb] at h2;have j6:=Ab (show DLo w1 Mk n M1 ops' s ys ms (.slice ua ul uc) 0 wr from⟨M',by simpa using h2,h3,h4,h5⟩);have qd:=Ab h4;have HP:=Ab (show ops++B6 s xs ys=ops'++ms.map (LP s ys) by rw[Xf,zg,qb,HB]);have HL:=Ab (show ops'.length+ms.length<=1000000000 /\ ∀q∈ms,q<ys.length from by
    have:=Aa qx;have:=Aa qm;have:=Aa qj;rw[qb,D3,F7];exact⟨by omega,zb.2.2⟩)
   clear hA hB L0 L1 L2 h1 h2 h3 h4 h5 zg zb qb;obtain⟨g,jv,yy⟩:∃g,ul=ms.length/\(0<ms.length->ua=some ⟨g,0,none⟩):=by
    rcases (Aa qd).2 with⟨e,h0⟩|⟨g,cap,cur,e,_⟩
    ·injection e with q1 q2 q3;exact⟨0,by omega,fun hp=>by omega⟩
    ·injection e with q1 q2 q3;exact⟨g,q2,fun _=>q1⟩
   subst jv;have jd:=Ab yy;have jr:ms.length<=1000000000:=by have:=(Aa HL).1;omega
   clear yy
   go_wp2_with (fail)
   go_loopw [86] (fun vt jw=>∃t:Nat,t<=ms.length/\vt=.int .i64 t/\Hid (DLo w1 Mk n M1 ops' s ys ms (.slice ua ms.length uc) t jw)) (fun vt _=>ms.length-(HN vt).toNat)
   case atStart=>exact⟨0,by omega,rfl,j6⟩
   case round=>
    obtain⟨t,ht,rfl,HD⟩:=hrel;by_cases y3:t<ms.length
    ·have ju:(t:Int)<(ms.length:Int):=by omega
     obtain rfl:=Aa jd (by omega);obtain⟨q,hq⟩:∃q,q=ms[t]:=⟨_,rfl⟩
     have zz:q<ys.length:=(Aa HL).2 q (by rw[hq];exact List.getElem_mem y3);have x0:q<K:=by have:=Aa qj;omega
     have jt:(q:Int)<(K:Int):=by omega
     obtain⟨M',m2,m3,m4,m5⟩:=(Aa HD).ex;have q9:=(Aa qn).trans m3;have ct:wr.cell? ⟨g,t,none⟩=some (.int .i64 q):=by
      obtain⟨g',qo,e,_,_,_,hc⟩:=Bm m4 (by omega);injection e with e;injection e with e;injection e with e;subst e;rw[hc t (by simpa using y3),hq];simp[iv_]
     obtain⟨jh,z8,z7⟩:=Aa j8 (by omega);subst jh;have cq:wr.cell? ⟨g2,q,none⟩=some (.pointer (c2 q)):=(World.cell?_of_block (a:=⟨g2,q,none⟩) (q9.kept g2 z7).2).trans (Aa j5 q zz);have hrq:Rep top M1 w1 (.pointer (c2 q)) ys[q]:=((Aa jc q zz).move fun b hb zj=>⟨((Aa qn).kept b (Aa HF b hb)).2,((Aa qn).kept b (Aa HF b hb)).1⟩).up hf;have zr:Ai wr:=(Aa HT).below ⟨q9.os,q9.tape,q9.output,q9.size,fun b hb=>(q9.kept b (Aa yd b hb)).2⟩;have yv:Aw wr M1 (.slice pa pl pc) s:=(Aa yf).move fun b hb _=>⟨(q9.kept b hb).2,((Aa qn).kept b hb).1⟩
     have ja:=Ab (fun w1 (hb:F2 wr.heap.size wr w1)=>show HV A5 94 #[.int .i64 q] w1 fun e w'=>e=.returned (.string ⟨(HO (q:Int)).toArray⟩)/\F2 w1.heap.size w1 w' from (Tryz.strconv_Itoa q (by omega) (by omega) w1 (zr.below (hb.mono zr.ng)).tab).mono (by
      rintro e w' ⟨rfl,kk,os,rfl⟩;exact⟨rfl,Fu _ _ _⟩))
     have zi:=Ab (fun w1 (hb:F2 wr.heap.size wr w1)=>Jh (w:=w1) (t:=HO (q:Int)) (yv.move fun b hb1 zj=>⟨hb.block b zj,hb1⟩) (Aa yg) (Aa ye));have qv:=Ab (fun w3 (hb:F2 wr.heap.size wr w3) (p:Addr) (pl pc:Nat) (htk:Aw w3 (fun b=>wr.heap.size<=b) (.slice (some p) pl pc) (Ca s q))=>(Aa HD).add (x:=c2 q) y3 hq.symm zz (Aa HL).1 hb htk hrq);have jz:g<wr.heap.size:=(AA m4 g rfl).1;obtain⟨wl,y7⟩:∃wl,wl=w1:=⟨_,rfl⟩
     rw[<- y7] at qv;have je:=Ab y7;clear y7;have zv:g2<wr.heap.size:=Nat.lt_of_lt_of_le z8 q9.size;have x1:=Ab hq;clear m2 m3 m4 m5 q9 z7 hrq zr yv z8 hq
     go_upto_region 15 with (fail)
     refine wp_region_any (by kernel_rfl) ?_;refine G4 (fun lJ aJ wJ=>lJ.size=10/\(lJ.getD 9 false=false->F2 (wr).heap.size wr wJ) /\ ∃x90 x91 x92 x93 x94 x95 x96 x97 x98 x99,aJ={ tmps:=#[.pointer (some ⟨Mk,0,none⟩),.slice pa pl pc,.slice ao1 N cap1,.slice (some ⟨g2,0,none⟩) K cap2,AS,AS,AS,AS,.map (some m),.slice (some ⟨g,0,none⟩) ms.length uc,.int .i64 ↑i,.int .i64 ↑j,.int .i64 ↑k,u13,AS,.int .i64 ↑q,.slice ao1 N cap1,.slice (some ⟨g2,0,none⟩) K cap2,.map (some m),.int .i64 ↑i,.slice ao1 N cap1,.int .i64 ↑N,.bool false,.bool false,.int .i64 ↑j,.slice (some ⟨g2,0,none⟩) K cap2,.int .i64 ↑K,.bool false,.bool false,u29,u30,u31,u32,u33,u34,u35,u36,u37,u38,u39,u40,u41,u42,u43,u44,u45,u46,u47,u48,u49,u50,u51,u52,u53,u54,u55,u56,u57,u58,u59,u60,u61,u62,u63,u64,u65,u66,u67,u68,u69,u70,u71,u72,u73,u74,u75,u76,u77,u78,u79,u80,u81,u82,u83,.slice (some ⟨g,0,none⟩) ms.length uc,.int .i64 ↑ms.length,.int .i64 ↑t,.bool true,.pointer (some ⟨g,t,none⟩),.int .i64 ↑q,x90,x91,x92,x93,x94,x95,x96,x97,x98,x99,u100],defers:=[] }/\(lJ.getD 0 false=true->x90=.pointer (some ⟨Mk,0,none⟩))/\(lJ.getD 1 false=true->x91=.slice pa pl pc)/\(lJ.getD 2 false=true->x92=.int .i64 q)/\(lJ.getD 3 false=true->x93=.string ⟨(HO (q:Int)).toArray⟩)/\(lJ.getD 4 false=true->lJ.getD 9 false=false->(fun w x=>(∃xa xl xc,x=.slice (some xa) xl xc)/\Aw w (fun b=>wr.heap.size<=b) x (Ca s q)) wJ x94)/\(lJ.getD 5 false=true->x95=.slice (some ⟨g2,0,none⟩) K cap2)/\(lJ.getD 6 false=true->x96=.int .i64 q)/\(lJ.getD 7 false=true->x97=.pointer (some ⟨g2,q,none⟩))/\(lJ.getD 8 false=true->x98=.pointer (c2 q))/\(lJ.getD 9 false=true->(fun w _=>DLo wl Mk n M1 ops' s ys ms (.slice (some ⟨g,0,none⟩) ms.length uc) (t+1) w) wJ x99)) ?hs ?he _ _ _ ?h0
     case h0=>
      refine⟨rfl,fun _=>⟨rfl,rfl,rfl,BY _,fun _ _=>rfl⟩,_,_,_,_,_,_,_,_,_,_,rfl,?_⟩;refine⟨?_,?_,?_,?_,?_,?_,?_,?_,?_,?_⟩<;>(intro h;exact absurd h (by decide))
     case he=>
      intro l a w1 hJ hr;have q5:=Dz hJ.1 (by kernel_rfl) hr;obtain⟨hsz,q0,x90,x91,x92,x93,x94,x95,x96,x97,x98,x99,rfl,e0,e1,e2,e3,e4,e5,e6,e7,e8,e9⟩:=hJ;have f0:=e0 (q5 0 (by decide));have f1:=e1 (q5 1 (by decide));have f2:=e2 (q5 2 (by decide));have f3:=e3 (q5 3 (by decide));have f4:=e4 (q5 4 (by decide));have f5:=e5 (q5 5 (by decide));have f6:=e6 (q5 6 (by decide));have f7:=e7 (q5 7 (by decide));have f8:=e8 (q5 8 (by decide));have f9:=e9 (q5 9 (by decide));clear e0 e1 e2 e3 e4 e5 e6 e7 e8 e9 q5 hr;clear f0 f1 f2 f3 f4 f5 f6 f7 f8;have j7:=Ab f9;clear f9
      go_wp2_with (fail);exact⟨⟨t+1,by omega,by go_num,by rw[<- Aa je];exact j7⟩,by simp[HN];omega⟩
     case hs=>
      intro l a w1 hcl hJ i hi;obtain⟨hno,haft⟩:=BD hi;have jj:i<10:=by
       obtain⟨_,o,ho,_⟩:=mem_ready.1 hi;exact (A2.1 ho).1
      obtain⟨hsz,q0,x90,x91,x92,x93,x94,x95,x96,x97,x98,x99,rfl,e0,e1,e2,e3,e4,e5,e6,e7,e8,e9⟩:=hJ;clear hi;have z1:i=0\/i=1\/i=2\/i=3\/i=4\/i=5\/i=6\/i=7\/i=8\/i=9:=by omega
      rcases z1 with rfl|rfl|rfl|rfl|rfl|rfl|rfl|rfl|rfl|rfl
      ·have q6:l.getD 0 false=false:=by simpa[CL,hsz] using hno
       have hnl:l.getD 9 false=false:=by
        cases h:l.getD 9 false
        ·rfl
        ·have h0:=hcl 9 _ rfl h ⟨0,.data⟩ (by simp) rfl;exact absurd h0 (by rw[q6];decide)
       have hb:=q0 hnl;refine C1 rfl fun K hK=>?_
       go_simp;exact hK _ _ ⟨by simp[hsz],fun h=>q0 ((A1 _ (by decide)).symm.trans h),_,_,_,_,_,_,_,_,_,_,rfl,fun _=>rfl,Ac (by decide) e1,Ac (by decide) e2,Ac (by decide) e3,fun h h'=>e4 ((A1 _ (by decide)).symm.trans h) ((A1 _ (by decide)).symm.trans h'),Ac (by decide) e5,Ac (by decide) e6,Ac (by decide) e7,Ac (by decide) e8,Ac (by decide) e9⟩
      ·have q6:l.getD 1 false=false:=by simpa[CL,hsz] using hno
       have hnl:l.getD 9 false=false:=by
        cases h:l.getD 9 false
        ·rfl
        ·have h0:=hcl 9 _ rfl h ⟨4,.data⟩ (by simp) rfl;have h1:=hcl 4 _ rfl h0 ⟨1,.data⟩ (by simp) rfl;exact absurd h1 (by rw[q6];decide)
       have hb:=q0 hnl;refine C1 rfl fun K hK=>?_
       go_simp;exact hK _ _ ⟨by simp[hsz],fun h=>q0 ((A1 _ (by decide)).symm.trans h),_,_,_,_,_,_,_,_,_,_,rfl,Ac (by decide) e0,fun _=>rfl,Ac (by decide) e2,Ac (by decide) e3,fun h h'=>e4 ((A1 _ (by decide)).symm.trans h) ((A1 _ (by decide)).symm.trans h'),Ac (by decide) e5,Ac (by decide) e6,Ac (by decide) e7,Ac (by decide) e8,Ac (by decide) e9⟩
      ·have q6:l.getD 2 false=false:=by simpa[CL,hsz] using hno
       have hnl:l.getD 9 false=false:=by
        cases h:l.getD 9 false
        ·rfl
        ·have h0:=hcl 9 _ rfl h ⟨4,.data⟩ (by simp) rfl;have h1:=hcl 4 _ rfl h0 ⟨3,.data⟩ (by simp) rfl;have h2:=hcl 3 _ rfl h1 ⟨2,.data⟩ (by simp) rfl;exact absurd h2 (by rw[q6];decide)
       have hb:=q0 hnl;refine C1 rfl fun K hK=>?_
       go_simp;exact hK _ _ ⟨by simp[hsz],fun h=>q0 ((A1 _ (by decide)).symm.trans h),_,_,_,_,_,_,_,_,_,_,rfl,Ac (by decide) e0,Ac (by decide) e1,fun _=>rfl,Ac (by decide) e3,fun h h'=>e4 ((A1 _ (by decide)).symm.trans h) ((A1 _ (by decide)).symm.trans h'),Ac (by decide) e5,Ac (by decide) e6,Ac (by decide) e7,Ac (by decide) e8,Ac (by decide) e9⟩
      ·have q6:l.getD 3 false=false:=by simpa[CL,hsz] using hno
       have hnl:l.getD 9 false=false:=by
        cases h:l.getD 9 false
        ·rfl
        ·have h0:=hcl 9 _ rfl h ⟨4,.data⟩ (by simp) rfl;have h1:=hcl 4 _ rfl h0 ⟨3,.data⟩ (by simp) rfl;exact absurd h1 (by rw[q6];decide)
       obtain rfl:=e2 (haft _ rfl ⟨2,.data⟩ (by simp) rfl);have hb:=q0 hnl;refine C1 rfl fun K hK=>?_
       go_simp;refine (Aa ja w1 hb).mono ?_
       rintro e wn ⟨rfl,hb2⟩;show K _ _;exact hK _ _ ⟨by simp[hsz],fun _=>hb.trans (hb2.mono hb.size),_,_,_,_,_,_,_,_,_,_,rfl,Ac (by decide) e0,Ac (by decide) e1,Ac (by decide) e2,fun _=>rfl,fun h h'=>(fun hb2 ⟨a,h⟩=>⟨a,h.move fun k hk jm=>⟨hb2.block k jm,hk⟩⟩) hb2 (e4 ((A1 _ (by decide)).symm.trans h) ((A1 _ (by decide)).symm.trans h')),Ac (by decide) e5,Ac (by decide) e6,Ac (by decide) e7,Ac (by decide) e8,fun h=>absurd ((A1 _ (by decide)).symm.trans h) (by rw[hnl];decide)⟩
      ·have q6:l.getD 4 false=false:=by simpa[CL,hsz] using hno
       have hnl:l.getD 9 false=false:=by
        cases h:l.getD 9 false
        ·rfl
        ·have h0:=hcl 9 _ rfl h ⟨4,.data⟩ (by simp) rfl;exact absurd h0 (by rw[q6];decide)
       obtain rfl:=e1 (haft _ rfl ⟨1,.data⟩ (by simp) rfl);obtain rfl:=e3 (haft _ rfl ⟨3,.data⟩ (by simp) rfl);have hb:=q0 hnl;refine C1 rfl fun K hK=>?_
       go_simp;refine (Aa zi w1 hb).mono ?_
       rintro e wn ⟨g',qo,rfl,ji,htk,hb2⟩;show K _ _;exact hK _ _ ⟨by simp[hsz],fun _=>hb.trans (hb2.mono hb.size),_,_,_,_,_,_,_,_,_,_,rfl,Ac (by decide) e0,Ac (by decide) e1,Ac (by decide) e2,Ac (by decide) e3,fun _=>fun _=>⟨⟨_,_,_,rfl⟩,htk.move fun k hk _=>⟨rfl,F1 hb.size hk⟩⟩,Ac (by decide) e5,Ac (by decide) e6,Ac (by decide) e7,Ac (by decide) e8,fun h=>absurd ((A1 _ (by decide)).symm.trans h) (by rw[hnl];decide)⟩
      ·have q6:l.getD 5 false=false:=by simpa[CL,hsz] using hno
       have hnl:l.getD 9 false=false:=by
        cases h:l.getD 9 false
        ·rfl
        ·have h0:=hcl 9 _ rfl h ⟨8,.data⟩ (by simp) rfl;have h1:=hcl 8 _ rfl h0 ⟨7,.data⟩ (by simp) rfl;have h2:=hcl 7 _ rfl h1 ⟨5,.data⟩ (by simp) rfl;exact absurd h2 (by rw[q6];decide)
       have hb:=q0 hnl;refine C1 rfl fun K hK=>?_
       go_simp;exact hK _ _ ⟨by simp[hsz],fun h=>q0 ((A1 _ (by decide)).symm.trans h),_,_,_,_,_,_,_,_,_,_,rfl,Ac (by decide) e0,Ac (by decide) e1,Ac (by decide) e2,Ac (by decide) e3,fun h h'=>e4 ((A1 _ (by decide)).symm.trans h) ((A1 _ (by decide)).symm.trans h'),fun _=>rfl,Ac (by decide) e6,Ac (by decide) e7,Ac (by decide) e8,Ac (by decide) e9⟩
      ·have q6:l.getD 6 false=false:=by simpa[CL,hsz] using hno
       have hnl:l.getD 9 false=false:=by
        cases h:l.getD 9 false
        ·rfl
        ·have h0:=hcl 9 _ rfl h ⟨8,.data⟩ (by simp) rfl;have h1:=hcl 8 _ rfl h0 ⟨7,.data⟩ (by simp) rfl;have h2:=hcl 7 _ rfl h1 ⟨6,.data⟩ (by simp) rfl;exact absurd h2 (by rw[q6];decide)
       have hb:=q0 hnl;refine C1 rfl fun K hK=>?_
       go_simp;exact hK _ _ ⟨by simp[hsz],fun h=>q0 ((A1 _ (by decide)).symm.trans h),_,_,_,_,_,_,_,_,_,_,rfl,Ac (by decide) e0,Ac (by decide) e1,Ac (by decide) e2,Ac (by decide) e3,fun h h'=>e4 ((A1 _ (by decide)).symm.trans h) ((A1 _ (by decide)).symm.trans h'),Ac (by decide) e5,fun _=>rfl,Ac (by decide) e7,Ac (by decide) e8,Ac (by decide) e9⟩
      ·have q6:l.getD 7 false=false:=by simpa[CL,hsz] using hno
       have hnl:l.getD 9 false=false:=by
        cases h:l.getD 9 false
        ·rfl
        ·have h0:=hcl 9 _ rfl h ⟨8,.data⟩ (by simp) rfl;have h1:=hcl 8 _ rfl h0 ⟨7,.data⟩ (by simp) rfl;exact absurd h1 (by rw[q6];decide)
       obtain rfl:=e5 (haft _ rfl ⟨5,.data⟩ (by simp) rfl);obtain rfl:=e6 (haft _ rfl ⟨6,.data⟩ (by simp) rfl);have hb:=q0 hnl;refine C1 rfl fun K hK=>?_
       go_simp;exact hK _ _ ⟨by simp[hsz],fun h=>q0 ((A1 _ (by decide)).symm.trans h),_,_,_,_,_,_,_,_,_,_,rfl,Ac (by decide) e0,Ac (by decide) e1,Ac (by decide) e2,Ac (by decide) e3,fun h h'=>e4 ((A1 _ (by decide)).symm.trans h) ((A1 _ (by decide)).symm.trans h'),Ac (by decide) e5,Ac (by decide) e6,fun _=>rfl,Ac (by decide) e8,Ac (by decide) e9⟩
      ·have q6:l.getD 8 false=false:=by simpa[CL,hsz] using hno
       have hnl:l.getD 9 false=false:=by
        cases h:l.getD 9 false
        ·rfl
        ·have h0:=hcl 9 _ rfl h ⟨8,.data⟩ (by simp) rfl;exact absurd h0 (by rw[q6];decide)
       obtain rfl:=e7 (haft _ rfl ⟨7,.data⟩ (by simp) rfl);have hb:=q0 hnl;have z:=(hb.cell (p:=⟨g2,q,none⟩) zv).trans cq;refine C1 rfl fun K hK=>?_
       go_simp;exact hK _ _ ⟨by simp[hsz],fun h=>q0 ((A1 _ (by decide)).symm.trans h),_,_,_,_,_,_,_,_,_,_,rfl,Ac (by decide) e0,Ac (by decide) e1,Ac (by decide) e2,Ac (by decide) e3,fun h h'=>e4 ((A1 _ (by decide)).symm.trans h) ((A1 _ (by decide)).symm.trans h'),Ac (by decide) e5,Ac (by decide) e6,Ac (by decide) e7,fun _=>rfl,Ac (by decide) e9⟩
      ·have q6:l.getD 9 false=false:=by simpa[CL,hsz] using hno
       have hnl:=q6;obtain rfl:=e0 (haft _ rfl ⟨0,.data⟩ (by simp) rfl);have q4:=e4 (haft _ rfl ⟨4,.data⟩ (by simp) rfl) hnl;obtain rfl:=e8 (haft _ rfl ⟨8,.data⟩ (by simp) rfl);have hb:=q0 hnl;obtain⟨⟨xa,xl,xc,rfl⟩,htk⟩:=q4;refine C1 rfl fun K hK=>?_
       go_simp;refine (Aa qv w1 hb xa xl xc htk).mono ?_
       rintro e wn ⟨rfl,hM⟩;show K _ _;exact hK _ _ ⟨by simp[hsz],(fun h=>by rw[R1 hsz 9 (by decide)] at h;cases h),_,_,_,_,_,_,_,_,_,_,rfl,(Ac (by decide) e0),(Ac (by decide) e1),(Ac (by decide) e2),(Ac (by decide) e3),(fun _ h'=>by rw[R1 hsz 9 (by decide)] at h';cases h'),(Ac (by decide) e5),(Ac (by decide) e6),(Ac (by decide) e7),(Ac (by decide) e8),(fun _=>hM)⟩
    ·obtain rfl:t=ms.length:=by omega
     have jo:¬ ((ms.length:Nat):Int)<((ms.length:Nat):Int):=by omega
     have zm:=Ab (show Q (.returned (.tuple #[])) wr from by
      obtain⟨M',m2,m3,_⟩:=(Aa HD).ex;rw[Aa HQ];exact⟨rfl,M',by rw[Aa HP];rw[List.take_length] at m2;exact m2.less fun b hb=>CH hb,(Aa qn).trans m3⟩)
     go_wp2_with (fail);exact bodyPost_end (results_none rfl _ _ _) rfl (Aa zm)
theorem MZ(m:List By->To->To->List dX)(s:List By)(xs bs:List (Lit×To)):∀l k:List By,AN m s xs bs (l++k)=AN m s xs bs l++AN m s xs bs k
 | [],k=>rfl
 | a::l,k=>by rw[HC,AN,AN,MZ m s xs bs l k,HB]
theorem S4(xs bs:List (Lit×To)):(BK xs bs).length<=xs.length+bs.length:=by
 unfold BK;rw[F7];have h:∀ (bs xs:List (Lit×To)),(bs.foldl (fun (l:List (Lit×To)) q=>eE q.1 .nil l) xs).length<=xs.length+bs.length:=fun bs=>by
  induction bs with
  | nil=>grind
  | cons q r ih=>
   intro xs;rw[List.foldl_cons,CR];have h1:=ih (eE q.1 .nil xs);have h2:=Oq q.1 (.nil:To) xs;omega
 grind
theorem KC(f:Nat)(es:List (Lit×To)):es.length<=dT (f+1) (.map es):=by
 show es.length<=2+(es.map fun p=>(Ag (strOf p.1)).length+2+dT f p.2).sum;induction es with
 | nil=>grind
 | cons p r ih=>
  grind
def aZ(d x n:Int)(f:Nat):Prop:=∀ (lv:Int) (F F':Nat->Prop) (w:C2) (Mk:Nat) (M:Nat->Prop) (av bv:D0) (a b:To) (s:List By) (pa:Option Addr) (pl pc:Nat) (ops:List dX),MkD w Mk n M ops->Ai w->(∀k,k<NG->M k)->(∀k,F k->M k)->(∀k,F' k->M k)->Rep f F w av a->Rep f F' w bv b->dY d x f lv a->dY d x f lv b->s.length+dT f a<=400000->dT f b<=400000->(ops.length:Int)+1000000*(d+1-lv)<=400000000->Aw w M (.slice pa pl pc) s->(s=[] -> ∃c,(HE pa pl pc)=.slice none 0 c) ->
  HV A5 123 #[.pointer (some ⟨Mk,0,none⟩),.slice pa pl pc,av,bv] w (CA Mk n M ops (A9 n f s a b) w)
theorem Kj{d x n:Int}(qj:n<=2000):∀ (f:Nat),f<=top->aZ d x n f
 | 0,_=>fun _ _ _ _ _ _ _ _ _ _ _ _ _ _ _ _ _ _ _ _ h=>h.elim
 | f+1,hf=>by
  intro lv F F' w Mk M av bv a b s pa pl pc ops h hT q7 hF q0 ha hb ga gb hsa hsb qk hp q6;have hlv:lv<=d:=ga.1;have qd:ops.length<=400000000:=by omega
  refine PP h ha hb hf q0 hp (by omega) (fun xs z e=>?_) (fun ys z e=>?_) ?_ ?_
  ·subst e;have:=DJ f xs z;omega
  ·subst e;have:=DJ f ys z;omega
  ·intro xs ys m1 n1 D1 m2 n2 D2 e1 e2 k1 k2 o1 p1 o2 p2 w1 hb1;subst e1 e2;obtain⟨h1,qm⟩:=h.bel hb1;have qe:=An o1 (hb1.block m1 (Bg o1));have qf:=An o2 (hb1.block m2 (Bg o2));have qg:=p1.mono fun _ _ hr=>hr.bel hb1;have qh:=p2.mono fun _ _ hr=>hr.bel hb1;have g1:=(Bt ga).2;have g2:=(Bt gb).2;have q5:∀k,(∀c,(Lit.string k,c)∈xs->k.length+1+dT f c<=dT (f+1) (.map xs)) /\ ∀c,(Lit.string k,c)∈ys->k.length+1+dT f c<=dT (f+1) (.map ys):=fun k=>by
    have hq:=FA k;refine⟨fun c hm=>?_,fun c hm=>?_⟩
    ·have h3:(Ag k).length+2+dT f c<=dT (f+1) (.map xs):=E3 (f:=f) hm;omega
    ·have h3:(Ag k).length+2+dT f c<=dT (f+1) (.map ys):=E3 (f:=f) hm;omega
   have qo:=KC f xs;have qp:=KC f ys;have qi:∀t,(ops++AN (A9 n f) s xs ys ((BK xs ys).take t)).length<=ops.length+dT (f+1) (.map xs)+dT (f+1) (.map ys):=fun t=>by
    have h2:(AN (A9 n f) s xs ys (BK xs ys)).length<=dT (f+1) (.map xs)+dT (f+1) (.map ys):=J5 (n:=n) (s:=s) ga gb;have h3:=MZ (A9 n f) s xs ys ((BK xs ys).take t) ((BK xs ys).drop t);rw[List.take_append_drop] at h3
    grind
   refine Oz h1 (by omega) hF q0 (hF _ k1) (q0 _ k2) qe qg qf qh (hp.move fun k hk q8=>⟨hb1.block k q8,hk⟩) (by omega) q6 (BK xs ys) (fun k hk=>?_) ?_ (by grind) (RS qe qg qf qh g1.skey g2.skey (by omega) (by omega)) ?_
   ·rcases (Cw g1.skey g2.skey).1 hk with⟨c,hm⟩|⟨c,hm⟩
    ·grind
    grind
   ·have:=S4 xs ys;omega
   ·rintro k hk u y hu hy M1 wr xv yv qa ql qc ops' ⟨t,rfl⟩ hm hx hrx hry htk;have q9:=Ch g1.skey hu;have qb:=Ch g2.skey hy;have q1:=(q5 k).1 u q9;have q2:=(q5 k).2 y qb;have q3:=qi t;have q4:(AN (A9 n f) s xs ys ((BK xs ys).take t)).length<=1000000:=by grind
    refine Kj qj f (by omega) (lv+1) _ _ _ _ _ _ _ _ _ _ _ _ _ _ hm ?_ (fun j hj=>(hx.kept j (q7 j hj)).1) (fun j hj=>(hx.kept j (hF j hj)).1) (fun j hj=>(hx.kept j (q0 j hj)).1) hrx hry (g1.2 _ q9).2 (g2.2 _ qb).2 ?_ (by omega) ?_ htk (fun e=>by simp at e)
    ·exact (hT.below (hb1.mono hT.ng)).below ⟨hx.os,hx.tape,hx.output,hx.size,fun j hj=>(hx.kept j (q7 j hj)).2⟩
    ·grind
    ·omega
  ·intro xs ys qt qu qq qr e1 e2 qn o1 a1 o2 k2 a2 w1 hb1;subst e1 e2;obtain⟨h1,qm⟩:=h.bel hb1;refine PQ (F:=F) (F':=F') h1 (hT.below (hb1.mono hT.ng)) q7 (by omega) q0 ?_ (by omega) (AC o1 fun g hg=>hb1.block g (AA o1 g hg).1) (a1.mono fun _ _ hr=>hr.bel hb1) (AC o2 fun g hg=>hb1.block g (AA o2 g hg).1) k2 (a2.mono fun _ _ hr=>hr.bel hb1) (hp.move fun k hk q8=>⟨hb1.block k q8,hk⟩) (by omega) q6
   grind
theorem SY:Pq:=by
 intro d x n F F' w Mk M av bv a b q5 hT q4 hM hF q0 ha hb ga gb hd q6 hb2;exact Kj q5 top (BY _) _ _ _ _ _ _ _ _ _ _ [] _ _ _ _ hM hT q4 hF q0 ha hb ga gb (by simp;omega) (by omega) (by simp;omega) (CH (by grind)) (fun _=>⟨0,rfl⟩)
theorem LJ:Lj:=Sn SY
end Go.Proofs.YtdpomdelmdofmaaGreatDoor
