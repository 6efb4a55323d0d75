import Derived.Test.YtdpomdelmdofmaaGreatDoorPfx34
open Go.RowKit.Below renaming heap_setCell->AI,heap_alloc->BY,refl->F5
open Go.AllReadyIn renaming cons->AS,nil->A2
open Go renaming World->AT,Value->A1,wpAnyIn_ready->A3,undef->Bs,wpOpIn_step->CL,heap_alloc_new->Dp
open List renaming getElem?_append_right->A4,getElem?_append_left->A5,drop_eq_getElem_cons->Dt,getElem?_eq_getElem->D0
open Go.World renaming cell?_of_block->A6,putObj_heap_other->CD,setCell->CR,cell?->C1,news_of_block->D3,frozen?->Ft
open Array renaming getElem?_eq_some_iff->CH,getElem?_modify->D1
open Go.Oper renaming semAt_some->C2
open Nat renaming le_refl->DD,le_trans->F1,reduceAdd->G1,zero_le->G2
open Go.Proofs.Tryz renaming prog->D2
open Go.Value renaming ownBlock->F2,oneCell'->G0
set_option maxRecDepth 100000
set_option maxHeartbeats 8000000
namespace Go.Proofs.YtdpomdelmdofmaaGreatDoor
open Go.Proofs.Tryz Go.RowKit Go.Maps
variable{W:AT}{G:Nat->Prop}{o:ZT}{pa fa y:Option Addr}{pl pc fl fc:Nat}{ops:List ZT}{xs:List A1}
section
attribute [local go_sem] C2 CB
theorem Fc{l:Nat}{w:AT}{o:Oper}{a:Act}{K:Act->AT->Prop}{Q:Exit->Act->AT->Prop}(s x:Operand)(t:TypeId)(ho:o.op=.call { callee:=.builtin .append,args:=#[s,x],argTypes:=#[t,t] })(base:Nat)(e:TypeId)(i:TypeInfo)(z:A1)(size bytes:Nat)(ht:Tryz.prog.underlying t=some (.slice e))(hi:Tryz.prog.info? e=some i)(hz:i.zero=some z)(q7:i.size=size)(qb:i.bytes=bytes)(qd:z.cells.size=size)(hsz:0<size)(v:A1)(n:Nat)(xs:List A1)(hs:a.eval s=v)(q8:w.ownsRow base e size v n xs)(ad:Addr)(m c:Nat)(q0:List A1)(hx:a.eval x=.slice (some ad) m c)(hl:q0.length=m*size)(q6:∀j u,q0[j]? = some u->w.cell? (ad.add j)=some u)(h1:∀u∈q0,u.oneCell'=true)(hm:0<m)(q9:n+m<=maxLen)(q4:(n+m)*bytes<=140737488355328)(q5:base<=w.heap.size)(H:Nat)(hH:w.heap.size=H)(h:∀g cap w',w'.ownsRow base e size (.slice (some ⟨g,0,none⟩) (n+m) cap) (n+m) (xs++q0)->w.grownBy w' v.ownBlock->(v.ownBlock=some g\/g=H)->g<w'.heap.size->K (a.put o.dst (.slice (some ⟨g,0,none⟩) (n+m) cap)) w'):
  Oper.wpIn (Fence.wide.inRound l) 0 D2 o a w K Q:=by
 obtain⟨g,cap,w',hr,h2,h3,h4,h5⟩:=run_append_lies (P:=D2) (w:=w) t o.type base e i z size bytes ht hi hz q7 qb qd hsz v n xs q8 ad m c q0 hl q6 h1 hm q9 q4 q5 H hH;refine⟨fun f _=>trivial,?_⟩;rw[show (Fence.wide.inRound l).round=some l from rfl,C2 _ _ _ (by grind)];unfold execOp;simp only[ho,resolve,invoke,builtin,Sem.run_bind,Sem.run_pure,Result.andThen_ok,List.map_toArray,List.map_cons,List.map_nil,hs,hx,hr];exact h g cap w' h2 h3 h4 h5
theorem V1:(Tryz.prog.info? 178).map (fun i=>(i.zero.map (fun z=>z.cells.size),i.size,i.bytes))=some (some 4,4,64):=by kernel_rfl
theorem IU:∃i z,Tryz.prog.info? 178=some i/\i.zero=some z/\z.cells.size=4/\i.size=4/\i.bytes=64:=by
 obtain⟨i,hi,h⟩:=Option.map_eq_some_iff.1 V1
 simp_all
def pk(n k:Nat)(v:A1):A1:=if k<=n then v else Bs
def wz(z:Nat)(w1 w2:AT):AT:=if 3<=z then w2 else w1
def FR(c:Nat->A1)(N:Nat):Nat->List A1
 | 0=>[]
 | k+1=>FR c N k++[c ((N-1-k)*5+1),c ((N-1-k)*5+2),c ((N-1-k)*5+3),c ((N-1-k)*5+4)]
theorem CV.snoc{w:AT}{G:Nat->Prop}{kv pv fv vv:A1}{o:Zk}(ho:EW w G kv pv fv vv o):∀ {xs:List A1} {js:List Zk},CV w G xs js->CV w G (xs++[kv,pv,fv,vv]) (js++[o])
 | [],[],_=>⟨ho,trivial⟩
 | _::_::_::_::_,_::_,⟨a,b⟩=>⟨a,CV.snoc ho b⟩
structure DE(w wB:AT)(D g N B:Nat)(rv jn:A1)(ch:Bool)(c:Nat->A1)(k:Nat)(W:AT):Prop where
 bx:W.heap[w.heap.size]? = wB.heap[w.heap.size]?
 box:W.heap[w.heap.size+1]? = wB.heap[w.heap.size+1]?
 row:0<N->W.heap[g]? = w.heap[g]?
 os:W.os=w.os
 tape:W.tape=w.tape
 output:W.output=w.output
 size:B<=W.heap.size
 old:∀j,j<w.heap.size->j≠D->W.heap[j]? = w.heap[j]?
 doc:∃iv,DB W D rv jn ch iv/\W.ownsRow 0 178 4 iv k (FR c N k) /\ ∀q,iv.ownBlock=some q->w.heap.size+2<=q/\q≠B/\q≠B+1
structure L8(w wB:AT)(D g N B:Nat)(rv jn:A1)(ch:Bool)(c:Nat->A1)(E:Array A1)(k X:Nat)(W:AT):Prop where
 inv:DE w wB D g N B rv jn ch c k W
 ne:w.heap.size+2<=X/\X≠B/\X≠B+1
 blk:W.heap[X]? = some (.cells E 230 (0,0))
 far:∀q iv,DB W D rv jn ch iv->iv.ownBlock=some q->q≠X
section
variable{w wB:AT}{D g N B:Nat}{rv jn:A1}{ch:Bool}{c:Nat->A1}
theorem DE.apart(hB:B=w.heap.size+2)(hD:D<w.heap.size)(hg:0<N->g<w.heap.size)(k:Nat):Dy B (DE w wB D g N B rv jn ch c k):=by
 intro W W' h e1 e2 e3 e4 e5;have hs:=h.size;obtain⟨iv,h1,h2,h3⟩:=h.doc;refine⟨(e5 _ (by omega) (by omega) (by omega)).trans h.bx,(e5 _ (by omega) (by omega) (by omega)).trans h.box,fun hN=>(e5 g (by omega) (by omega) (by omega)).trans (h.row hN),e1.trans h.os,e2.trans h.tape,e3.trans h.output,F1 hs e4,fun j hj q0=>(e5 j (by omega) (by omega) (by omega)).trans (h.old j hj q0),iv,h1.kept (by grind),AD h2 fun q hq=>e5 q (AC h2 q hq).1 (h3 q hq).2.1 (h3 q hq).2.2,h3⟩
theorem L8.apart{E:Array A1}(hB:B=w.heap.size+2)(hD:D<w.heap.size)(hg:0<N->g<w.heap.size)(k X:Nat):Dy B (L8 w wB D g N B rv jn ch c E k X):=by
 intro W W' h e1 e2 e3 e4 e5;have hs:=h.inv.size;refine⟨DE.apart hB hD hg k W W' h.inv e1 e2 e3 e4 e5,h.ne,(e5 X (CH.1 h.blk).1 h.ne.2.1 h.ne.2.2).trans h.blk,fun q iv h1 h2=>h.far q iv (h1.kept (by grind)) h2⟩
theorem DB.iv{iv q0:A1}(h:DB W D rv jn ch iv)(h':DB W D rv jn ch q0):iv=q0:=by
 have e:=(show W.heap[D]? = _ from h).symm.trans (show W.heap[D]? = _ from h');injection e with e;injection e with e;simp at e;exact e
end
end
section
attribute [local go_sem] C2 CB
section
variable{w wB:AT}{D g N B:Nat}{rv jn iv:A1}{ch:Bool}{c:Nat->A1}
theorem DB.set3(h:DB W D rv jn ch iv)(v:A1):DB (W.setCell ⟨D,3,none⟩ v) D rv jn ch v:=by
 simp only[DB,CR,D1];rw[if_pos trivial,show W.heap[D]? = _ from h];rfl
theorem DE.turn{k q cap:Nat}{W2 W3:AT}(hB:B=w.heap.size+2)(hD:D<w.heap.size)(hg:0<N->g<w.heap.size/\g≠D)(hl:B+1<W.heap.size)(h:DE w wB D g N B rv jn ch c k W)(q8:DB W D rv jn ch iv)(h2:Below W.heap.size W W2)(ho:W3.ownsRow 0 178 4 (.slice (some ⟨q,0,none⟩) (k+1) cap) (k+1) (FR c N k++[c ((N-1-k)*5+1),c ((N-1-k)*5+2),c ((N-1-k)*5+3),c ((N-1-k)*5+4)]))(q5:W2.grownBy W3 iv.ownBlock)(q7:iv.ownBlock=some q\/W.heap.size<=q):
  Two B W (W3.setCell ⟨D,3,none⟩ (.slice (some ⟨q,0,none⟩) (k+1) cap))/\DE w wB D g N B rv jn ch c (k+1) (W3.setCell ⟨D,3,none⟩ (.slice (some ⟨q,0,none⟩) (k+1) cap)):=by
 have hs:=h.size;have hs2:=h2.size;have q9:=q5.size;obtain⟨qb,d1,d2,d3⟩:=h.doc;obtain rfl:=q8.iv d1;have keep:∀j,j<W.heap.size->iv.ownBlock≠some j->W3.heap[j]? = W.heap[j]?:=fun j hj q4=>(q5.block j (by omega) (fun e=>q4 e.symm)).trans (h2.block j hj);have far:∀j,(j<w.heap.size+2\/j=B\/j=B+1)->iv.ownBlock≠some j:=fun j hj e=>by
  obtain⟨p1,p2,p3⟩:=d3 j e;omega
 have q6:∀j,j≠D->(W3.setCell ⟨D,3,none⟩ (.slice (some ⟨q,0,none⟩) (k+1) cap)).heap[j]? = W3.heap[j]?:=fun j hj=>AI _ _ _ _ hj;have hq:w.heap.size+2<=q/\q≠B/\q≠B+1:=by
  rcases q7 with e|e
  ·exact d3 q e
  ·omega
 have q0:∀j,j<W.heap.size->(j<w.heap.size+2\/j=B\/j=B+1)->j≠D->(W3.setCell ⟨D,3,none⟩ (.slice (some ⟨q,0,none⟩) (k+1) cap)).heap[j]? = W.heap[j]?:=fun j hj hf q4=>(q6 j q4).trans (keep j hj (far j hf));refine⟨⟨q0 B (by omega) (by omega) (by omega),q0 (B+1) (by omega) (by omega) (by omega)⟩,(q0 _ (by omega) (by omega) (by omega)).trans h.bx,(q0 _ (by omega) (by omega) (by omega)).trans h.box,fun hN=>?_,?_,?_,?_,?_,fun j hj q4=>(q0 j (by omega) (by omega) q4).trans (h.old j hj q4),.slice (some ⟨q,0,none⟩) (k+1) cap,?_,?_,?_⟩
 ·obtain⟨g1,g2⟩:=hg hN;exact (q0 g (by omega) (by omega) g2).trans (h.row hN)
 ·exact q5.os.trans (h2.os.trans h.os)
 ·exact q5.tape.trans (h2.tape.trans h.tape)
 ·exact q5.output.trans (h2.output.trans h.output)
 ·show B<=(W3.setCell _ _).heap.size;simp[CR];omega
 ·exact (d1.kept (keep D (by omega) (far D (by omega)))).set3 _
 ·exact AD ho fun j hj=>q6 j (by simp[F2] at hj;omega)
 ·intro j hj;simp[F2] at hj;subst hj;exact hq
end
end
section
attribute [local go_sem] C2 CB
theorem MZ{L:Nat}{w:AT}{D:Nat}{rv jn iv:A1}{ch:Bool}{Tb T:Zf}{Mb M:Nat->Prop}{wb:AT}{js:List Zk}(h:Bm L w D rv jn iv ch Tb Mb wb T M js)(hl:js.length<=1000000000):
  Calls D2 119 #[.pointer (some ⟨D,0,none⟩)] w fun e w'=>e=.returned (.tuple #[]) /\ ∃ya,DB w' D rv (.slice none 0 0) true ya/\Ji w' (fun k=>GA L Tb wb M k\/w.heap.size<=k) ya js.reverse/\Ao (fun k=>k=D) w w':=by
 obtain⟨xs,cs,qv,qy,zx,zj⟩:=h.ex;obtain⟨y8,zz,ao,cap,g,zw,hg⟩:=JA qy;obtain⟨zs,qm⟩:=zx.at
 obtain⟨N,hN⟩:∃N,N=js.length:=⟨_,rfl⟩
 rw[<- hN] at y8 hg zs zw hl zz;subst zw;have qg:=qv.lt;have hM:∀j,M j->j<w.heap.size:=fun j hj=>(h.low j hj).1;obtain⟨c,hc⟩:∃c:Nat->A1,c=fun j=>xs[j]?.getD .nilFunc:=⟨_,rfl⟩
 have qo:0<N->g<w.heap.size/\g≠D:=fun hp=>⟨(hg hp).2.2.1,fun e=>h.jD (by rw[<- e];exact (hg hp).2.1)⟩
 obtain⟨w1,qd⟩:∃w1,w1=(w.alloc (.cells #[.pointer (some ⟨D,0,none⟩)] 60)).setCell ⟨D,3,none⟩ (.slice none 0 0):=⟨_,rfl⟩
 obtain⟨wB,q9⟩:∃wB,wB=w1.alloc (.cells #[.slice ao N cap] 112):=⟨_,rfl⟩
 have zi:w1.heap.size=w.heap.size+1:=by rw[qd];simp[CR]
 have zq:wB.heap.size=w.heap.size+2:=by rw[q9];simp[zi]
 have zg:w1.heap[w.heap.size]? = some (.cells #[.pointer (some ⟨D,0,none⟩)] 60 (0,0)):=by
  rw[qd];exact (AI _ _ _ _ (by show w.heap.size≠D;omega)).trans (Dp w _)
 have y6:wB.heap[w.heap.size]? = some (.cells #[.pointer (some ⟨D,0,none⟩)] 60 (0,0)):=by rw[q9];exact (BY w1 _ _ (by omega)).trans zg
 have zr:wB.heap[w.heap.size+1]? = some (.cells #[.slice ao N cap] 112 (0,0)):=by rw[q9,<- zi];exact Dp w1 _
 have hold:∀j,j<w.heap.size->j≠D->wB.heap[j]? = w.heap[j]?:=fun j hj y5=>by
  rw[q9,BY w1 _ j (by omega),qd];exact (AI _ _ _ _ y5).trans (BY w _ j hj)
 have zf:DB w1 D rv (.slice ao N cap) ch (.slice none 0 0):=by
  rw[qd];exact (qv.kept (w':=w.alloc (.cells #[.pointer (some ⟨D,0,none⟩)] 60)) (BY w _ D qg)).set3 _
 have zt:DB wB D rv (.slice ao N cap) ch (.slice none 0 0):=zf.kept (by rw[q9];exact BY w1 _ D (by omega));obtain⟨B,hB⟩:∃B,B=w.heap.size+2:=⟨_,rfl⟩
 have h0:DE w wB D g N B rv (.slice ao N cap) ch c 0 wB:=by
  refine⟨rfl,rfl,fun hp=>hold g (qo hp).1 (qo hp).2,by rw[q9,qd];rfl,by rw[q9,qd];rfl,by rw[q9,qd];rfl,by omega,hold,_,zt,⟨rfl,Or.inl ⟨rfl,rfl⟩⟩,fun q hq=>by cases hq⟩
 have qr:=Ab (fun (k:Nat) (hk:k<N)=>(show ∃ (fn:Nat) (caps:Array A1) (kk:Int) (pa:Option Addr) (pl pc:Nat) (x:Option Addr),c ((N-1-k)*5)=.func (.func fn) #[] caps/\c ((N-1-k)*5+1)=.int .i64 kk/\c ((N-1-k)*5+2)=.slice pa pl pc/\c ((N-1-k)*5+3)=.slice none 0 0/\c ((N-1-k)*5+4)=.pointer x from by
  have h1:N-1-k<cs.length:=by omega
  obtain⟨kv,pv,fv,vv,q0,q1,q2,q3,q4,o1,_,o2,o3,o4⟩:=qm (N-1-k) (by omega) h1;obtain⟨pa,pl,pc,rfl⟩:∃pa pl pc,pv=.slice pa pl pc:=by
   rcases o2 with⟨_,a,c,e,_⟩|⟨g,o,cap,e,_⟩
   ·exact⟨_,_,_,e⟩
   ·exact⟨_,_,_,e⟩
  obtain⟨x,rfl⟩:∃x,vv=.pointer x:=by
   rcases o4 with⟨_,e⟩|⟨_,hr⟩
   ·exact⟨_,e⟩
   ·obtain⟨b,e,_⟩:=hr;exact⟨_,e⟩
  subst o1;subst o3;refine⟨cs[N-1-k].1,cs[N-1-k].2,(((js[N-1-k]'(by omega)).1:Nat):Int),pa,pl,pc,x,?_,?_,?_,?_,?_⟩
  ·rw[hc];simp only[q0];rfl
  ·rw[hc];simp only[q1];rfl
  ·rw[hc];simp only[q2];rfl
  ·rw[hc];simp only[q3];rfl
  ·rw[hc];simp only[q4];rfl))
 have zc:Hid (∀k,k<=N->CV w (GA L Tb wb M) (FR c N k) (js.reverse.take k)):=by
  intro k;induction k with
  | zero=>intro _;exact trivial
  | succ k ih=>
   intro hk;have h1:N-1-k<cs.length:=by omega
   obtain⟨kv,pv,fv,vv,q0,q1,q2,q3,q4,o1⟩:=qm (N-1-k) (by omega) h1;have e1:js.reverse.take (k+1)=js.reverse.take k++[js[N-1-k]'(by omega)]:=by
    rw[List.take_succ_eq_append_getElem (by simp;omega),List.getElem_reverse];congr 3;omega
   rw[e1,FR,hc];simp only[q1,q2,q3,q4,Option.getD_some];exact CV.snoc o1 (hc▸ih (by omega))
 have qq:=Ab (fun (hp:0<N)=>(show ∀j,j<N*5->w.cell? ⟨g,j,none⟩=some (c j) from fun j hj=>by
  rw[(hg hp).2.2.2 j (by omega),hc];simp[D0 (show j<xs.length by omega)]))
 have qu:=Ab (fun (k q cap2:Nat) (W W2 W3:AT) (iv:A1) (hl:B+1<W.heap.size) (hI:DE w wB D g N B rv (.slice ao N cap) ch c k W)=>DE.turn (iv:=iv) (q:=q) (cap:=cap2) (W2:=W2) (W3:=W3) hB qg qo hl hI);have HI:=Ab (fun k=>DE.apart (w:=w) (wB:=wB) (D:=D) (g:=g) (N:=N) (B:=B) (rv:=rv) (jn:=.slice ao N cap) (ch:=ch) (c:=c) hB qg (fun hp=>(qo hp).1) k);have HA:=Ab (fun (E:Array A1) (k X:Nat)=>L8.apart (w:=w) (wB:=wB) (D:=D) (g:=g) (N:=N) (B:=B) (rv:=rv) (jn:=.slice ao N cap) (ch:=ch) (c:=c) (E:=E) hB qg (fun hp=>(qo hp).1) k X);have yb:=Ab (fun (hp:0<N)=>(hg hp).1);have H0:=Ab h0;have yx:=Ab qv;have z6:=qv.kept (w':=w.alloc (.cells #[.pointer (some ⟨D,0,none⟩)] 60)) (BY w _ D qg);have z1:(w.alloc (.cells #[.pointer (some ⟨D,0,none⟩)] 60)).cell? ⟨D,1,none⟩=some (.slice ao N cap):=z6.c1;have z3:(w.alloc (.cells #[.pointer (some ⟨D,0,none⟩)] 60)).cell? ⟨D,3,none⟩=some iv:=z6.c3;have y3:(w.alloc (.cells #[.pointer (some ⟨D,0,none⟩)] 60)).frozen? ⟨D,3,none⟩=false:=by simp[Ft,show _=_ from z6]
 have j3:=Ab zg;have yy:=Ab zf;have zm:=Ab y6;have yc:=Ab zr;have qp:=Ab zq;have qi:=Ab hB;have yk:=Ab q9;have yi:=Ab qd;have za:=Ab qg;have yh:=Ab hN;have yz:=Ab hM;have yg:=Ab h.dD.2;clear h qy zx zj y8 hg zs qm h0 zg y6 zr hold zf zt qv qo z6 zi zq hB q9 qd qg hN hc hM;refine (callsIn_wide (n:=0)).1 (callsIn_of_wp_marks func119 rfl trivial ?_ rfl);simp only[ntmps119,List.size_toArray,List.length_cons,List.length_nil,G1,Nat.reduceSub,Array.replicate_succ,Array.replicate_zero,List.push_toArray,List.append_toArray,List.nil_append,List.cons_append]
 gi_wp2_with (refine⟨trivial,rfl,?_⟩;gi_at_call 158;refine (callsIn_wide.2 LC).mono ?_;rintro e w' ⟨rfl,rfl⟩)
 rw[<- Aa yi,<- Aa yk];refine FU (gf:=204) (lb:=#[.pointer (some ⟨w.heap.size+1,0,none⟩)]) rfl (Fv func204 (by kernel_rfl) rfl) N (fun k=>#[.int .i64 ((N-1-k:Nat):Int),GL c (N-1-k)]) (fun _=>rfl) (DE w wB D g N B rv (.slice ao N cap) ch c)
  (fun k a' W=>∃X,L8 w wB D g N B rv (.slice ao N cap) ch c #[c ((N-1-k)*5),c ((N-1-k)*5+1),c ((N-1-k)*5+2),c ((N-1-k)*5+3),c ((N-1-k)*5+4)] k X W/\a'={ tmps:=#[.pointer (some ⟨D,0,none⟩),.pointer (some ⟨w.heap.size,0,none⟩),Bs,.pointer (some ⟨X,0,none⟩),.pointer (some ⟨D,0,none⟩),.pointer (some ⟨D,0,none⟩),.pointer (some ⟨D,3,none⟩),.pointer (some ⟨D,0,none⟩),.pointer (some ⟨D,0,none⟩),.pointer (some ⟨D,1,none⟩),.slice ao N cap,.func (.func 204) #[] #[.pointer (some ⟨w.heap.size+1,0,none⟩)],.int .i64 ((N-1-k:Nat):Int),GL c (N-1-k),Bs,Bs,Bs,Bs,Bs,Bs,Bs,Bs,Bs,Bs,Bs,Bs,Bs,Bs,Bs,Bs,Bs],defers:=[] })
  ?hI ?hA (Aa H0) ?hiter ?hassign ?hbody ?hdone
 case hI=>
  rw[Aa qp,<- Aa qi];exact Aa HI
 case hA=>
  rw[Aa qp,<- Aa qi];rintro k a' W W' ⟨X,hX,e⟩ e1 e2 e3 e4 e5;exact⟨X,Aa HA _ k X W W' hX e1 e2 e3 e4 e5,e⟩
 case hiter=>
  intro l J W yo hY ym;refine NI (cap:=cap) zz (Aa yb) (fun k W hj=>?_) hY ym;have hi:=yo k W hj;refine⟨?_,fun j yr=>?_⟩
  ·have:=hi.box.trans (Aa yc);simp[C1,this]
  ·have hp:0<N:=by omega
   rw[A6 (w:=w) (hi.row hp)];exact Aa qq hp j yr
 case hassign=>
  intro l k W hk hi hsz;rw[Aa qp,<- Aa qi] at hsz |-;have qe:=Ab hi;obtain⟨fn,caps,kk,pa,pl,pc,x,e0,e1,e2,e3,e4⟩:=Aa qr k hk;clear hi;unfold GL;rw[e0,e1,e2,e3,e4];clear e0 e1 e2 e3 e4
  gi_wp2
  have hb:=(F5 W.heap.size W).alloc (DD _) (.cells #[.func (.func fn) #[] caps,.int .i64 kk,.slice pa pl pc,.slice none 0 0,.pointer x] 230);have yl:=Aa qi;have zv:=Aa qe;obtain⟨j5,d1,d2,d3⟩:=zv.doc;have z7:=d1.lt;exact⟨⟨hb.block B (by omega),hb.block (B+1) (by omega)⟩,⟨Aa HI k W _ zv hb.os hb.tape hb.output hb.size fun j hj _ _=>hb.block j hj,⟨by omega,by omega,by omega⟩,Dp W _,fun q yu h1 h2=>by
   have h3:DB W D rv (.slice ao N cap) ch yu:=h1.kept (hb.block D z7).symm;obtain rfl:=h3.iv d1;have:=(AC d2 q h2).1;omega⟩⟩
 case hbody=>
  rintro l k a' W hk ⟨X,hX,rfl⟩ hsz -;rw[Aa qp,<- Aa qi] at hsz |-;obtain⟨fn,caps,kk,pa,pl,pc,px,e0,e1,e2,e3,e4⟩:=Aa qr k hk;have qb:=hX.blk;rw[e0,e1,e2,e3,e4] at qb;obtain⟨iv2,q7,q5,q6⟩:=hX.inv.doc;have z7:=q7.lt;obtain⟨i0,z0,zu,hz0,y9,hz2,hz3⟩:=IU;have y7:FR c N k++[c ((N-1-k)*5+1),c ((N-1-k)*5+2),c ((N-1-k)*5+3),c ((N-1-k)*5+4)]=FR c N k++[.int .i64 kk,.slice pa pl pc,.slice none 0 0,.pointer px]:=by rw[e1,e2,e3,e4]
  have hT:=fun q cap2 W2 W3=>Aa qu k q cap2 W W2 W3 iv2 hsz hX.inv q7;simp only[y7] at hT;have HT:=Ab hT;obtain⟨W2,qw⟩:∃W2,W2=W.drew.alloc (.cells #[.int .i64 kk,.slice pa pl pc,.slice none 0 0,.pointer px] 178):=⟨_,rfl⟩
  have hb2:Below W.heap.size W W2:=by
   rw[qw];have h1:=(F5 W.heap.size W).alloc (DD _) (.cells #[.int .i64 kk,.slice pa pl pc,.slice none 0 0,.pointer px] 178);exact⟨h1.os,h1.tape,h1.output,h1.size,h1.block⟩
  have qz:W2.heap.size=W.heap.size+1:=by rw[qw];simp
  have y4:W2.heap[W.heap.size]? = some (.cells #[.int .i64 kk,.slice pa pl pc,.slice none 0 0,.pointer px] 178 (0,0)):=by rw[qw];exact Dp W.drew _
  have qk:W.heap[w.heap.size]? = some (.cells #[.pointer (some ⟨D,0,none⟩)] 60 (0,0)):=hX.inv.bx.trans (Aa zm);have zy:w.heap.size<W.heap.size:=(CH.1 qk).1;have yt:X<W.heap.size:=(CH.1 qb).1;have z8:∀j,j<W.heap.size -> ∀z,(wz z W.drew W2).heap[j]? = W.heap[j]?:=fun j hj z=>by
   unfold wz;split
   ·exact hb2.block j hj
   ·rfl
  have qh:=AD (w':=W2) q5 fun q hq=>hb2.block q (AC q5 q hq).1;have fP:∀z,(wz z W.drew W2).cell? ⟨w.heap.size,0,none⟩=some (.pointer (some ⟨D,0,none⟩)):=fun z=>by
   rw[A6 (w:=W) (z8 _ zy z)];simp[C1,qk]
  have fD:∀z,(wz z W.drew W2).cell? ⟨D,3,none⟩=some iv2:=fun z=>by
   rw[A6 (w:=W) (z8 _ z7 z)];exact q7.c3
  have fX:∀z,(wz z W.drew W2).cell? ⟨X,1,none⟩=some (.int .i64 kk)/\(wz z W.drew W2).cell? ⟨X,2,none⟩=some (.slice pa pl pc)/\(wz z W.drew W2).cell? ⟨X,3,none⟩=some (.slice none 0 0)/\(wz z W.drew W2).cell? ⟨X,4,none⟩=some (.pointer px):=fun z=>by
   refine⟨?_,?_,?_,?_⟩;all_goals (rw[A6 (w:=W) (z8 _ yt z)];simp[C1,qb])
  obtain⟨E0,zo⟩:∃E0,E0=GL c (N-1-k):=⟨_,rfl⟩
  rw[<- zo];have yj:=Ab qw;have zl:=Ab y4;have zn:=Ab qz;have zk:=Ab hb2;have qf:=Ab qh;have zb:=Ab fP;have yd:=Ab fD;have ye:=Ab fX;have HZ:=Ab (show ∀W3:AT,W2.grownBy W3 iv2.ownBlock->W3.cell? ⟨D,3,none⟩=some iv2/\W3.frozen? ⟨D,3,none⟩=false/\W3.cell? ⟨w.heap.size,0,none⟩=some (.pointer (some ⟨D,0,none⟩)) from fun W3 q8=>by
   have h3:DB W3 D rv (.slice ao N cap) ch iv2:=q7.kept ((q8.block D (by omega) (fun e=>by have:=q6 D e.symm;have:=Aa za;omega)).trans (hb2.block D z7));have h4:W3.heap[w.heap.size]? = some (.cells #[.pointer (some ⟨D,0,none⟩)] 60 (0,0)):=((q8.block _ (by omega) (fun e=>by have:=q6 _ e.symm;omega)).trans (hb2.block _ zy)).trans qk;exact⟨h3.c3,by simp[Ft,show W3.heap[D]? = _ from h3],by simp[C1,h4]⟩)
  obtain⟨fi,j4⟩:∃a b n,iv2=.slice a b n:=by
   rcases q5.2 with⟨e,_⟩|⟨_,_,_,e,_⟩
   ·exact⟨_,_,_,e⟩
   ·exact⟨_,_,_,e⟩
  clear qb hX e0 e1 e2 e3 e4 q7 q5 q6 hT y7 qw hb2 qz y4 qk z8 qh fP fD fX zo
  gi_wp2
  refine wpIn_region_any (by kernel_rfl) ?_;refine WO (A:=fun x y z=>{ tmps:=#[.pointer (some ⟨D,0,none⟩),.pointer (some ⟨w.heap.size,0,none⟩),Bs,.pointer (some ⟨X,0,none⟩),.pointer (some ⟨D,0,none⟩),.pointer (some ⟨D,0,none⟩),.pointer (some ⟨D,3,none⟩),.pointer (some ⟨D,0,none⟩),.pointer (some ⟨D,0,none⟩),.pointer (some ⟨D,1,none⟩),.slice ao N cap,.func (.func 204) #[] #[.pointer (some ⟨w.heap.size+1,0,none⟩)],.int .i64 ((N-1-k:Nat):Int),E0,pk x 1 (.pointer (some ⟨D,0,none⟩)),pk y 1 (.pointer (some ⟨D,0,none⟩)),pk y 2 (.pointer (some ⟨D,0,none⟩)),pk y 3 (.pointer (some ⟨D,3,none⟩)),pk y 4 iv2,pk z 1 (.pointer (some ⟨X,1,none⟩)),pk z 2 (.agg #[.int .i64 kk,.slice pa pl pc,.slice none 0 0,.pointer px]),pk z 3 (.slice (some ⟨W.heap.size,0,none⟩) 1 1),Bs,Bs,Bs,Bs,Bs,Bs,Bs,Bs,Bs],defers:=[] }) (W:=fun z=>wz z W.drew W2) (by kernel_rfl) ?h0 ?h1 ?h5 ?hl ?hl0
  case h0=>
   intro y z K hy hz hk;refine CL rfl (fun K' hK=>?_);have f:=Aa zb z
   go_simp;exact hK _ _ hk
  case h1=>
   intro x y z K hx hy hz hk;have f:=Aa zb z;have f3:=Aa yd z;have yv:∀v,pk 1 1 v=v:=fun _=>rfl;have yw:∀v,pk 2 2 v=v:=fun _=>rfl;have j6:∀v,pk 3 3 v=v:=fun _=>rfl
   match y,hy with
   | 0,_=>
    refine CL rfl (fun K' hK=>?_)
    go_simp;exact hK _ _ hk
   | 1,_=>
    refine CL rfl (fun K' hK=>?_)
    go_simp;exact hK _ _ hk
   | 2,_=>
    refine CL rfl (fun K' hK=>?_)
    go_simp;exact hK _ _ hk
   | 3,_=>
    refine CL rfl (fun K' hK=>?_)
    go_simp;exact hK _ _ hk
  case h5=>
   intro x y z K hx hy hz hk;obtain⟨f1,f2,f3,f4⟩:=Aa ye z;have yv:∀v,pk 1 1 v=v:=fun _=>rfl;have yw:∀v,pk 2 2 v=v:=fun _=>rfl
   match z,hz with
   | 0,_=>
    refine CL rfl (fun K' hK=>?_)
    go_simp;exact hK _ _ hk
   | 1,_=>
    refine CL rfl (fun K' hK=>?_)
    go_simp;exact hK _ _ hk
   | 2,_=>
    have e2:wz 2 W.drew W2=W.drew:=rfl;have e3:wz 3 W.drew W2=W2:=rfl;simp only[e2] at f1 f2 f3 f4 |-;simp only[G1,e3] at hk;rw[Aa yj] at hk;refine CL rfl (fun K' hK=>?_)
    go_simp;exact hK _ _ hk
  case hl=>
   refine A3 (rs:=[8]) (by kernel_rfl) (by simp) (AS rfl (fun K hK=>?_) A2);rw[if_pos (by rfl)];refine Fc (.tmp 18) (.tmp 21) 113 rfl 0 178 i0 z0 4 64 underlying113 zu hz0 hz2 hz3 y9 (by decide) iv2 k (FR c N k) rfl (Aa qf) ⟨W.heap.size,0,none⟩ 1 1 [.int .i64 kk,.slice pa pl pc,.slice none 0 0,.pointer px] rfl rfl (D3 (cs:=#[.int .i64 kk,.slice pa pl pc,.slice none 0 0,.pointer px]) (t:=178) (fr:=(0,0)) (Aa zl)) (by simp[G0]) (by decide) (by unfold maxLen;omega) (by omega) (G2 _) (W.heap.size+1) (Aa zn) ?_;intro q cap2 W3 ho q8 qx hlt;refine hK _ _ ?_;obtain⟨y1,y2,y3⟩:=Aa HZ W3 q8;have qj:=Ab (Aa HT q cap2 W2 W3 (Aa zk) ho q8 (qx.imp id (fun h=>by omega)));clear hK ho q8 qx hlt;refine A3 (rs:=[9]) (by kernel_rfl) (by simp) (AS rfl (fun K hK=>?_) A2)
   go_simp;refine hK _ _ ?_
   clear hK;refine A3 (rs:=[10]) (by kernel_rfl) (by simp) (AS rfl (fun K hK=>?_) A2)
   go_simp;refine hK _ _ ?_
   clear hK;refine A3 (rs:=[11]) (by kernel_rfl) (by simp) (AS rfl (fun K hK=>?_) A2)
   go_simp;refine hK _ _ ?_
   clear hK;refine wpAnyIn_done (by kernel_rfl) ?_ _;exact⟨rfl,Aa qj⟩
  case hl0=>
   intro hL;refine A3 (rs:=[0,8]) (by kernel_rfl) (by simp) (AS rfl (fun K hK=>?_) (AS rfl (fun K hK=>?_) A2))
   ·have f:=Aa zb 3
    go_simp;exact hK _ _ hL
   clear hL;rw[if_pos (by rfl)];refine Fc (.tmp 18) (.tmp 21) 113 rfl 0 178 i0 z0 4 64 underlying113 zu hz0 hz2 hz3 y9 (by decide) iv2 k (FR c N k) rfl (Aa qf) ⟨W.heap.size,0,none⟩ 1 1 [.int .i64 kk,.slice pa pl pc,.slice none 0 0,.pointer px] rfl rfl (D3 (cs:=#[.int .i64 kk,.slice pa pl pc,.slice none 0 0,.pointer px]) (t:=178) (fr:=(0,0)) (Aa zl)) (by simp[G0]) (by decide) (by unfold maxLen;omega) (by omega) (G2 _) (W.heap.size+1) (Aa zn) ?_;intro q cap2 W3 ho q8 qx hlt;refine hK _ _ ?_;obtain⟨y1,y2,y3⟩:=Aa HZ W3 q8;have qj:=Ab (Aa HT q cap2 W2 W3 (Aa zk) ho q8 (qx.imp id (fun h=>by omega)));clear hK ho q8 qx hlt;refine A3 (rs:=[0]) (by kernel_rfl) (by simp) (AS rfl (fun K hK=>?_) A2)
   go_simp;refine hK _ _ ?_
   clear hK;refine A3 (rs:=[9]) (by kernel_rfl) (by simp) (AS rfl (fun K hK=>?_) A2)
   go_simp;refine hK _ _ ?_
   clear hK;refine A3 (rs:=[10]) (by kernel_rfl) (by simp) (AS rfl (fun K hK=>?_) A2)
   go_simp;refine hK _ _ ?_
   clear hK;refine A3 (rs:=[11]) (by kernel_rfl) (by simp) (AS rfl (fun K hK=>?_) A2)
   go_simp;refine hK _ _ ?_
   clear hK;refine wpAnyIn_done (by kernel_rfl) ?_ _;exact⟨rfl,Aa qj⟩
 case hdone=>
  intro W hI hK;rw[Aa qp,<- Aa qi] at hK |-;obtain⟨iv2,q7,q5,q6⟩:=hI.doc;have qk:W.heap[w.heap.size]? = some (.cells #[.pointer (some ⟨D,0,none⟩)] 60 (0,0)):=hI.bx.trans (Aa zm);have f0:W.cell? ⟨w.heap.size,0,none⟩=some (.pointer (some ⟨D,0,none⟩)):=by simp[C1,qk]
  have d1:=q7.c1;have d2:=q7.c2;have dz:∀o,W.frozen? ⟨D,o,none⟩=false:=fun o=>by simp[Ft,show W.heap[D]? = _ from q7]
  have y5:w.heap.size≠D:=by have:=Aa za;omega
  have yf:=Ab q7;have ze:=Ab q5;have qt:=Ab q6;have qe:=Ab hI;clear q7 q5 q6 hI qk
  gi_wp2
  have yl:=Aa qi;have qg:=Aa za;have yq:=Aa yh;have yp:((W.setCell ⟨D,2,none⟩ (.bool true)).setCell ⟨D,1,none⟩ (.slice none 0 0)).heap[B]? = some (.deferred (some [])):=(AI _ _ _ _ (by show B≠D;omega)).trans ((AI _ _ _ _ (by show B≠D;omega)).trans hK);refine⟨by simp,.inl ⟨_,_,rfl,run_takeDeferred yp,?_⟩⟩;refine⟨_,results_none rfl _ _ _,rfl,iv2,?_,⟨FR c N N,?_,fun q hq=>Or.inr (by have:=(Aa qt q hq).1;omega),?_⟩,?_⟩
  ·have h2:DB (W.setCell ⟨D,2,none⟩ (.bool true)) D rv (.slice ao N cap) true iv2:=by
    have h:=Aa yf;simp only[DB,CR,D1];rw[if_pos trivial,show W.heap[D]? = _ from h];rfl
   exact (CD (by omega)).trans (h2.set1 _)
  ·rw[List.length_reverse,<- yq];refine AD (Aa ze) fun q hq=>?_;obtain⟨p1,p2,p3⟩:=Aa qt q hq;exact (CD (by omega)).trans ((AI _ _ _ _ (by show q≠D;omega)).trans (AI _ _ _ _ (by show q≠D;omega)))
  ·have h1:=Aa zc N (DD _);rw[List.take_of_length_le (by simp;omega)] at h1;refine h1.move fun q hq zh=>⟨?_,Or.inl hq⟩
   have qn:q≠D:=fun e=>Aa yg (e▸hq.1);exact (CD (by omega)).trans ((AI _ _ _ _ qn).trans ((AI _ _ _ _ qn).trans ((Aa qe).old q zh qn)))
  ·refine⟨(Aa qe).os,(Aa qe).tape,(Aa qe).output,?_,fun q zh qn=>(CD (by omega)).trans ((AI _ _ _ _ qn).trans ((AI _ _ _ _ qn).trans ((Aa qe).old q zh qn)))⟩;have:=(Aa qe).size;simp[World.putObj,CR];omega
end
def Kc(w:AT)(G:Nat->Prop)(g:Nat)(ops:List ZT):Prop:=∀i (h:i<ops.length),∃pa pl pc fa fl fc y,GR w G ops[i] pa pl pc fa fl fc y/\w.cell? ⟨g,i*4,none⟩=some (.int .i64 ops[i].1)/\w.cell? ⟨g,i*4+1,none⟩=some (.slice pa pl pc)/\w.cell? ⟨g,i*4+2,none⟩=some (.slice fa fl fc)/\w.cell? ⟨g,i*4+3,none⟩=some (.pointer y)
theorem GR.move{w w':AT}{G':Nat->Prop}(h:GR w G o pa pl pc fa fl fc y)(hk:∀k,G k->k<w.heap.size->w'.heap[k]? = w.heap[k]? /\ G' k):GR w' G' o pa pl pc fa fl fc y:=
 ⟨h.1,h.2.1.move hk,fun h3=>(h.2.2.1 h3).move hk,fun h3=>(h.2.2.2 h3).move hk⟩
def DT(D R:Nat)(iv:A1)(ch:Bool)(Tb:Zf)(Mb:Nat->Prop)(wb:AT)(M:Nat->Prop)(d x:Int)(n:Nat)(w:AT)(r:Except (Nat×Nat) (To×List Zk))(e:Ending)(w':AT):Prop:=match r with
 | .ok (v,j)=>e=.returned (.tuple #[.int .i64 0,.int .i64 0]) /\ ∃wp jn T a M' wk q0,JS wk D R wp jn iv ch Tb Mb wb T a v M' j/\JEx M M' w wk/\DB w' D (.pointer (some ⟨R,0,none⟩)) (.slice none 0 0) true q0/\Ji w' (fun k=>GA (top+1) Tb wb M' k\/wk.heap.size<=k) q0 j.reverse/\Ao (fun k=>k=D) wk w'/\Zx d x 200000 v/\(Zm top v).length<=80000/\(∀o∈j,FZ d x 200000 o)/\j.length<=2*n
 | .error (c,i)=>e=.returned (.tuple #[.int .i64 i,.int .i64 c])/\DB w' D (.pointer (some ⟨R,0,none⟩)) (.slice none 0 0) ch iv/\BG (top+1) (.pointer (some ⟨R,0,none⟩)) Tb Mb (fun k=>k=D) wb w'/\w'.os=w.os/\w'.tape=w.tape/\w'.output=w.output/\w.heap.size<=w'.heap.size
structure U6(D R:Nat)(iv:A1)(ch:Bool)(Tb:Zf)(Mb:Nat->Prop)(wb:AT)(M:Nat->Prop)(d x:Int)(w:AT)(v0:To)(ops:List ZT)(k:Nat)(W:AT):Prop where
 ex:∃wp jn T a v M' j,JS W D R wp jn iv ch Tb Mb wb T a v M' j/\JEx M M' w W/\j.length<=2*k/\Zx d x 200000 v/\(Zm top v).length<=80000/\(∀o∈j,FZ d x 200000 o)/\DQ d 0 v0 [] ops=DQ d k v j (ops.drop k)
section
variable{w:AT}{D R:Nat}{wp:Option Addr}{jn iv:A1}{ch:Bool}{Tb T a:Zf}{Mb M:Nat->Prop}{wb:AT}{v:To}{d x:Int}{js:List Zk}
theorem Ff{c i n:Nat}{M':Nat->Prop}(h:JS W D R wp jn iv ch Tb Mb wb T a v M' js)(hX:JEx M M' w W)(q0:∀k,Mb k->k≠D/\k<w.heap.size):
  Calls D2 118 #[.pointer (some ⟨D,0,none⟩)] W fun e w'=>e=.returned (.tuple #[])/\Hid (DT D R iv ch Tb Mb wb M d x n w (.error (c,i)) (.returned (.tuple #[.int .i64 i,.int .i64 c])) w'):=by
 refine (Mh h.j (fun k hk=>⟨(q0 k hk).1,Nat.lt_of_lt_of_le (q0 k hk).2 hX.size⟩)).mono ?_;rintro e w' ⟨rfl,t1,t2,t3,t4,t5,t6⟩;exact⟨rfl,rfl,t1,t2,t3.trans hX.os,t4.trans hX.tape,t5.trans hX.output,F1 hX.size t6⟩
theorem Qw{ao:Option Addr}{g cap:Nat}(h:JS w D R wp jn iv ch Tb Mb wb T a v M [])(hT:Af w)(qw:∀k,k<NG->M k)(qx:∀k,Mb k->k≠D/\k<w.heap.size)(hd:d<=100)(hv:Zx d x 200000 v)(z1:(Zm top v).length<=80000)(qy:0<ops.length->ao=some ⟨g,0,none⟩/\M g)(qb:Kc w (GA (top+1) Tb wb M) g ops)(qz:∀o∈ops,bN (d+2) x 200000 o)(hn:ops.length<=400000000):
  Calls D2 84 #[.pointer (some ⟨D,0,none⟩),.slice ao ops.length cap,.int .i64 d] w (DT D R iv ch Tb Mb wb M d x ops.length w (DQ d 0 v [] ops)):=by
 have qh:Hid (U6 D R iv ch Tb Mb wb M d x w v ops 0 w):=⟨wp,jn,T,a,v,M,[],h,JEx.refl _ _,by simp,hv,z1,fun o ho=>(by cases ho),rfl⟩
 have zb:=Ab (fun k (hk:M k)=>(h.j.low k hk).1);obtain⟨n,qp⟩:∃n,n=ops.length:=⟨_,rfl⟩
 obtain⟨Q,hQ⟩:∃Q,Q=DT D R iv ch Tb Mb wb M d x ops.length w (DQ d 0 v [] ops):=⟨_,rfl⟩
 rw[<- hQ,<- qp];have zn:(n:Int)<=400000000:=by omega
 have HT:=Ab hT;have qi:=Ab qw;have qu:=Ab qx;have za:=Ab qy;have qj:=Ab qb;have zc:=Ab qz;have HN:=Ab qp;have HQ:=Ab hQ;clear h hT qw qx hv z1 qy qb qz hn qp hQ
 go_enter func84,ntmps84
 go_wp2_with (fail)
 go_loopw [13] (fun i wr=>∃k:Nat,k<=n/\i=.int .i64 k/\U6 D R iv ch Tb Mb wb M d x w v ops k wr) (fun i _=>n-(intOf i).toNat)
 case atStart=>exact⟨0,by omega,rfl,Aa qh⟩
 case round=>
  obtain⟨k,hk,rfl,zm,zl,T1,a1,v1,M1,j1,i1,i2,i3,i4,i5,i6,i7⟩:=hrel;by_cases hlt:k<n
  ·have qn:k<ops.length:=by have:=Aa HN;omega
   obtain⟨zf,zh⟩:=Aa za (by omega);obtain⟨pa,pl,pc,fa,fl,fc,y,r0,r1,r2,r3,r4⟩:=Aa qj k qn;have q9:∀o:Nat,wr.cell? ⟨g,o,none⟩=w.cell? ⟨g,o,none⟩:=fun o=>A6 (w:=w) (i2.kept g zh).2;have c0:=(q9 _).trans r1;have c1:=(q9 _).trans r2;have c2:=(q9 _).trans r3;have c3:=(q9 _).trans r4;have HR:=Ab (r0.move (w':=wr) (G':=GA (top+1) Tb wb M1) fun q hq _=>⟨(i2.kept q hq.1).2,(i2.kept q hq.1).1,hq.2⟩);have q5:=Ab (Aa zc _ (List.getElem_mem qn));have qg:=Ab (show DQ d 0 v [] ops=(match aX v1 ops[k] with | .error c=>.error (c,k) | .ok (d',j')=>if GG d d'=0 then DQ d (k+1) d' (j1++j') (ops.drop (k+1)) else .error (GG d d',k)) by
    rw[i7,Dt qn];rfl)
   obtain⟨o,ho⟩:∃o,o=ops[k]:=⟨_,rfl⟩
   rw[<- ho] at c0 HR q5 qg;have qo:(k:Int)<(n:Int):=by omega
   have HJ:=Ab i1;have HX:=Ab i2;have H3:=Ab i3;have H4:=Ab i4;have H6:=Ab i6;subst zf;clear i1 i2 i3 i4 i5 i6 i7 r0 r1 r2 r3 r4 q9 qh ho;obtain⟨kk,hkk⟩:∃kk:Nat,kk=o.1:=⟨_,rfl⟩
   rw[<- hkk] at c0;have q7:Below wr.heap.size wr (wr.alloc (.cells #[.int .i64 kk,.slice pa pl pc,.slice fa fl fc,.pointer y] 178)):=(F5 _ _).alloc (DD _) _;have ze:=Ab ((Aa HT).jex (Aa qi) (Aa HX));have qq:=Ab q7;have qe:=Ab (XT (d:=d+2) (B:=200000) ((Aa HJ).bel q7) ((Aa ze).bel q7) (fun q hq=>((Aa HX).kept q (Aa qi q hq)).1) ((Aa H4).mono (by omega) (by omega) (DD _)) (by omega) (by have:=Aa H3;omega) ((Aa HR).move fun q hq zj=>⟨q7.block q zj,hq⟩) (Aa q5));rw[<- hkk] at qe;clear q7 hkk
   go_wp2_with (fail);refine (Aa qe).mono ?_
   rintro e w2 he;cases hdo:aX v1 o with
   | error c=>
    rw[hdo] at he;obtain⟨rfl,z7,z6,T2,a2,v2,M2,j2,s1,s2⟩:=he;have zg:=XU hdo;have q6:=(Aa HX).trans (JEx.below (Aa qq) (fun q hq=>((Aa HJ).j.low q hq).1) s2);have qk:=Ab (Ff (d:=d) (x:=x) (n:=ops.length) (c:=c) (i:=k) s1 q6 (Aa qu));have e1:((c:Int)==0)=false:=by rw[beq_eq_false_iff_ne];omega
    have e2:((c:Int) != 0)=true:=by rw[bne_iff_ne];omega
    have q0:=Ab (show DQ d 0 v [] ops=.error (c,k) by have:=Aa qg;rw[hdo] at this;exact this);clear s1 s2 q6 hdo zg qe
    go_wp2_with (fail);refine (Aa qk).mono ?_
    rintro e w3 ⟨rfl,hp⟩
    go_wp2_with (fail);show Q (.returned (.tuple #[.int .i64 k,.int .i64 c])) _
    rw[Aa HQ,Aa q0];exact Aa hp
   | ok vj=>
    obtain⟨v2,j2⟩:=vj;rw[hdo] at he;obtain⟨rfl,z7,z6,T2,a2,M2,s1,s2⟩:=he;obtain⟨f1,f2,f3⟩:=WL (Aa H4) (Aa q5) hd hdo;have q6:=(Aa HX).trans (JEx.below (Aa qq) (fun q hq=>((Aa HJ).j.low q hq).1) s2);have qf:=Ab s1;have qv:=Ab q6;have q4:=Ab (Of (dp:=d) s1 ((Aa HT).jex (Aa qi) q6) f1 (by omega));have qt:=Ab (fun q (hq:M2 q)=>(s1.j.low q hq).1);have qm:=Aa qg;rw[hdo] at qm;have qr:=Ab qm;have HF:=Ab (show (∀o∈j1++j2,FZ d x 200000 o)/\(j1++j2).length<=2*(k+1) from⟨fun o ho=>(List.mem_append.1 ho).elim (Aa H6 o) (f2 o),by have:=Aa H3;simp;omega⟩);have z8:=Ab f1;clear s1 s2 q6 hdo qe f1 f2 f3 qm
    go_wp2_with (fail);refine (Aa q4).mono ?_
    rintro e w3 ⟨rfl,hb3⟩;have qd:=Ab hb3;clear hb3 q4;obtain⟨m,hm⟩:∃m,m=GG d v2:=⟨_,rfl⟩
    rw[<- hm];by_cases q8:m=0
    ·have HG:=Ab (show U6 D R iv ch Tb Mb wb M d x w v ops (k+1) w3 from by
      obtain⟨g1,g2⟩:=T6 (Aa z8) hd (hm▸q8);refine⟨z7,z6,T2,a2,v2,M2,j1++j2,(Aa qf).bel (Aa qd),(Aa qv).trans ((Aa qf).j.bel (Aa qd)).2,(Aa HF).2,g1.mono (Int.le_refl _) (by omega) (by omega),by omega,(Aa HF).1,?_⟩;have:=Aa qr;rw[this]
      try simp only[]
      rw[if_pos (hm▸q8)])
     clear hm;subst q8
     go_wp2_with (fail);exact⟨⟨k+1,by omega,by go_num,Aa HG⟩,by simp[intOf];omega⟩
    ·have qk:=Ab (Ff (d:=d) (x:=x) (n:=ops.length) (c:=m) (i:=k) ((Aa qf).bel (Aa qd)) ((Aa qv).trans ((Aa qf).j.bel (Aa qd)).2) (Aa qu));have e1:((m:Int)==0)=false:=by rw[beq_eq_false_iff_ne];omega
     have e2:((m:Int) != 0)=true:=by rw[bne_iff_ne];omega
     have q0:=Ab (show DQ d 0 v [] ops=.error (m,k) by
      have:=Aa qr;rw[this]
      try simp only[]
      rw[if_neg (hm▸q8),hm])
     clear hm q8
     go_wp2_with (fail);refine (Aa qk).mono ?_
     rintro e w4 ⟨rfl,hp⟩
     go_wp2_with (fail);show Q (.returned (.tuple #[.int .i64 k,.int .i64 m])) _
     rw[Aa HQ,Aa q0];exact Aa hp
  ·have zi:k=ops.length:=by have:=Aa HN;omega
   have HK:=Ab (MZ i1.j (by omega));have q0:=Ab (show DQ d 0 v [] ops=.ok (v1,j1) by rw[i7,List.drop_eq_nil_of_le (by omega)];rfl);have HJ:=Ab i1;have HX:=Ab i2;have H4:=Ab i4;have H5:=Ab i5;have H6:=Ab i6;have H3:=Ab i3;have qo:¬ (k:Int)<(n:Int):=by omega
   clear i1 i2 i3 i4 i5 i6 i7 zi qh
   go_wp2_with (fail);refine (Aa HK).mono ?_
   rintro e w2 ⟨rfl,zk,k1,k2,k3⟩;have HP:=Ab (show DT D R iv ch Tb Mb wb M d x ops.length w (.ok (v1,j1)) (.returned (.tuple #[.int .i64 0,.int .i64 0])) w2 from⟨rfl,zm,zl,T1,a1,M1,wr,zk,Aa HJ,Aa HX,k1,k2,k3,Aa H4,Aa H5,Aa H6,by have:=Aa H3;have:=Aa HN;omega⟩);clear k1 k2 k3
   go_wp2_with (fail);show Q (.returned (.tuple #[.int .i64 0,.int .i64 0])) _
   rw[Aa HQ,Aa q0];exact Aa HP
end
def Df(w:AT)(G:Nat->Prop)(xs:List A1)(ops:List ZT):Prop:=∀i (h:i<ops.length),∃pa pl pc fa fl fc y,GR w G ops[i] pa pl pc fa fl fc y/\xs[i*4]? = some (.int .i64 ops[i].1)/\xs[i*4+1]? = some (.slice pa pl pc)/\xs[i*4+2]? = some (.slice fa fl fc)/\xs[i*4+3]? = some (.pointer y)
theorem Df.move{w w':AT}{G':Nat->Prop}(h:Df w G xs ops)(hk:∀k,G k->k<w.heap.size->w'.heap[k]? = w.heap[k]? /\ G' k):Df w' G' xs ops:=fun i hi=>by
 obtain⟨pa,pl,pc,fa,fl,fc,y,h1,h2⟩:=h i hi;exact⟨pa,pl,pc,fa,fl,fc,y,h1.move hk,h2⟩
theorem Df.snoc{w:AT}(h:Df w G xs ops)(hl:xs.length=ops.length*4)(ho:GR w G o pa pl pc fa fl fc y):
  Df w G (xs++[.int .i64 o.1,.slice pa pl pc,.slice fa fl fc,.pointer y]) (ops++[o]):=fun i hi=>by
 by_cases hlt:i<ops.length
 ·obtain⟨pa,pl,pc,fa,fl,fc,y,h1,h2,h3,h4,h5⟩:=h i hlt;rw[List.getElem_append_left hlt];exact⟨pa,pl,pc,fa,fl,fc,y,h1,by rw[A5 (by omega)];exact h2,by rw[A5 (by omega)];exact h3,by rw[A5 (by omega)];exact h4,by rw[A5 (by omega)];exact h5⟩
 ·obtain rfl:i=ops.length:=by simp at hi;omega
  refine⟨pa,pl,pc,fa,fl,fc,y,?_,?_,?_,?_,?_⟩
  ·simpa using ho
  ·rw[A4 (by omega)];simp[show ops.length*4-xs.length=0 by omega]
  ·rw[A4 (by omega)];simp[show ops.length*4+1-xs.length=1 by omega]
  ·rw[A4 (by omega)];simp[show ops.length*4+2-xs.length=2 by omega]
  ·rw[A4 (by omega)];simp[show ops.length*4+3-xs.length=3 by omega]
theorem GB{w:AT}{B e n:Nat}{v:A1}(h:w.ownsRow B e 4 v n xs):∃ao cap g,v=.slice ao n cap/\(0<n->ao=some ⟨g,0,none⟩/\v.ownBlock=some g/\B<=g /\ ∀k (hk:k<xs.length),w.cell? ⟨g,k,none⟩=some xs[k]):=by
 obtain⟨q4,h⟩:=h;rcases h with⟨h1,h0⟩|⟨g,cap,cur,h1,hB,h3,h4,h5,h6,h7⟩
 ·subst h0;exact⟨none,0,0,h1,fun h=>absurd h (by omega)⟩
 ·refine⟨_,cap,g,h1,fun _=>⟨rfl,by rw[h1];rfl,hB,fun k hk=>?_⟩⟩;have h8:cur.toList[k]? = some xs[k]:=by
   have h9:(cur.toList.take (n*4))[k]? = some xs[k]:=by rw[h7];exact D0 hk
   rw[List.getElem?_take_of_lt (by omega)] at h9;exact h9
  have q0:cur[k]? = some xs[k]:=by rw[<- h8,Array.getElem?_toList]
  simp[C1,h3,q0]
theorem Df.mem{w:AT}(h:Df w G xs ops){g:Nat}(hc:0<ops.length -> ∀k (hk:k<xs.length),w.cell? ⟨g,k,none⟩=some xs[k]):Kc w G g ops:=fun i hi=>by
 obtain⟨pa,pl,pc,fa,fl,fc,y,h1,h2,h3,h4,h5⟩:=h i hi;have q0:∀k u,xs[k]? = some u->w.cell? ⟨g,k,none⟩=some u:=fun k u hu=>by
  obtain⟨hk,e⟩:=List.getElem?_eq_some_iff.1 hu;rw[hc (by omega) k hk,e]
 exact⟨pa,pl,pc,fa,fl,fc,y,h1,q0 _ _ h2,q0 _ _ h3,q0 _ _ h4,q0 _ _ h5⟩
def C5(F:Nat->Prop)(d:To)(w:AT)(e:Ending)(w':AT):Prop:=match Eu d with
 | .error i=>e=.returned (.tuple #[.slice none 0 0,.int .i64 i,.bool false])
 | .ok l=>∃ao g cap,e=.returned (.tuple #[.slice ao l.length cap,.int .i64 0,.bool true])/\(0<l.length->ao=some ⟨g,0,none⟩/\w.heap.size<=g)/\Kc w' (fun k=>(F k/\k<w.heap.size)\/w.heap.size<=k) g l
structure RdI(F:Nat->Prop)(w1:AT)(es:List To)(k:Nat)(pv:A1)(xs:List A1)(ops:List ZT)(W:AT):Prop where
 len:ops.length=k
 own:W.ownsRow w1.heap.size 178 4 pv k xs
 bel:Below w1.heap.size w1 W
 rops:Df W (fun q=>((F q/\q<w1.heap.size)\/w1.heap.size<=q)/\pv.ownBlock≠some q) xs ops
 eq:CC 0 es=match CC k (es.drop k) with
  | .ok l=>.ok (ops++l)
  | .error c=>.error c
theorem RdI.next{F:Nat->Prop}{w1:AT}{es:List To}{k:Nat}{pv q5:A1}{W4 W5:AT}(h:RdI F w1 es k pv xs ops W)(hk:k<es.length)(ho:Dz es[k]=some o)(hb:Below W.heap.size W W4)(qb:GR W4 (fun q=>((F q/\q<w1.heap.size)/\q<W.heap.size)\/W.heap.size<q) o pa pl pc fa fl fc y)(q6:W5.ownsRow w1.heap.size 178 4 q5 (k+1) (xs++[.int .i64 o.1,.slice pa pl pc,.slice fa fl fc,.pointer y]))(hg:W4.grownBy W5 pv.ownBlock)(q9:q5.ownBlock=pv.ownBlock\/q5.ownBlock=some W4.heap.size):
  RdI F w1 es (k+1) q5 (xs++[.int .i64 o.1,.slice pa pl pc,.slice fa fl fc,.pointer y]) (ops++[o]) W5:=by
 have hsz:=h.bel.size;have q4:∀g,pv.ownBlock=some g->g<W.heap.size/\w1.heap.size<=g:=fun g hg=>AC h.own g hg;have q7:∀q,q<W4.heap.size->pv.ownBlock≠some q->q5.ownBlock≠some q:=fun q hq h1 h2=>by
  rcases q9 with e|e
  ·exact h1 (e▸h2)
  ·rw[e] at h2;injection h2 with h2;omega
 refine⟨by simp[h.len],q6,(h.bel.trans (hb.mono hsz)).grown hg (F1 hsz hb.size) (fun g q8=>(q4 g q8).2),?_,?_⟩
 ·refine Df.snoc ((h.rops.move (w':=W4) (G':=fun q=>(((F q/\q<w1.heap.size)\/w1.heap.size<=q)/\pv.ownBlock≠some q)) fun q hq q0=>⟨hb.block q q0,hq⟩).move fun q hq q0=>⟨hg.block q q0 fun e=>hq.2 e.symm,hq.1,q7 q q0 hq.2⟩) (by rw[h.own.1,h.len]) ?_;refine qb.move fun q hq q0=>?_;have hr:pv.ownBlock≠some q:=fun e=>by
   obtain⟨a,b⟩:=q4 q e;rcases hq with⟨⟨_,h1⟩,_⟩|h1<;>omega
  refine⟨hg.block q q0 fun e=>hr e.symm,?_,q7 q q0 hr⟩;rcases hq with⟨h1,_⟩|h1
  ·exact Or.inl h1
  ·exact Or.inr (by omega)
 ·rw[h.eq,Dt hk,CC,ho];simp only;cases CC (k+1) (es.drop (k+1))<;>simp
end Go.Proofs.YtdpomdelmdofmaaGreatDoor
