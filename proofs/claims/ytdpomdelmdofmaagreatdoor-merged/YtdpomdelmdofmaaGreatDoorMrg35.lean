/-
  A region whose order is drawn, of three chains that meet: each state is walked once.
-/
import Derived.Test.YtdpomdelmdofmaaGreatDoorMrg24
import Derived.OrdersIn
import Derived.Deep.AppendLies
import Derived.Test.YtdpomdelmdofmaaGreatDoorMrg25
namespace Go.Proofs.YtdpomdelmdofmaaGreatDoor
section
open Go.RowKit
def lst (x y z:Nat):Array Bool:=#[decide (1≤x),decide (1≤y),decide (2≤y),decide (3≤y),decide (4≤y),decide (1≤z),decide (2≤z),decide (3≤z),false,false,false,false]
def rdy (x y z:Nat):List Nat:=(if x<1 then [0] else [])++((if y<4 then [1+y] else [])++(if z<3 then [5+z] else []))
def isDiamond (ops:Array Oper):Bool:=(List.range 2).all fun x=>(List.range 5).all fun y=>(List.range 4).all fun z=>(y == 4 && z == 3) || (Region.ready .any ops (lst x y z) == rdy x y z)
theorem lst_x (y z:Nat):(lst 0 y z).setIfInBounds 0 true=lst 1 y z:=rfl
theorem lst_y {x y z:Nat} (h:y<4):(lst x y z).setIfInBounds (1+y) true=lst x (y+1) z:=by
 match y,h with
 | 0,_=>rfl
 | 1,_=>rfl
 | 2,_=>rfl
 | 3,_=>rfl
theorem lst_z {x y z:Nat} (h:z<3):(lst x y z).setIfInBounds (5+z) true=lst x y (z+1):=by
 match z,h with
 | 0,_=>rfl
 | 1,_=>rfl
 | 2,_=>rfl
theorem diamond {F:Fence} {n:Nat} {P:Program} {ops:Array Oper} {Q:Exit→Act→World→Prop} (A:Nat→Nat→Nat→Act) (W:Nat→World) (hd:isDiamond ops=true)
  (h0:∀y z (K:Act→World→Prop),y≤4→z≤3→K (A 1 y z) (W z)→wpOpIn F n P ops Q 0 K (A 0 y z) (W z))
  (h1:∀x y z (K:Act→World→Prop),x≤1→y<4→z≤3→K (A x (y+1) z) (W z)→wpOpIn F n P ops Q (1+y) K (A x y z) (W z))
  (h5:∀x y z (K:Act→World→Prop),x≤1→y≤4→z<3→K (A x y (z+1)) (W (z+1))→wpOpIn F n P ops Q (5+z) K (A x y z) (W z))
  (hl:wpAnyIn F n P .any ops Q 4 (lst 1 4 3) (A 1 4 3) (W 3)) (hl0:wpAnyIn F n P .any ops Q 4 (lst 1 4 3) (A 1 4 3) (W 3)→wpAnyIn F n P .any ops Q 5 (lst 0 4 3) (A 0 4 3) (W 3)):wpAnyIn F n P .any ops Q 12 (lst 0 0 0) (A 0 0 0) (W 0):=by
 suffices H:∀m x y z,x≤1→y≤4→z≤3→x+y+z+m=8→wpAnyIn F n P .any ops Q (m+4) (lst x y z) (A x y z) (W z) from H 8 0 0 0 (by omega) (by omega) (by omega) rfl
 intro m
 induction m with
 | zero =>
  intro x y z hx hy hz e
  obtain rfl:x=1:=by omega
  obtain rfl:y=4:=by omega
  obtain rfl:z=3:=by omega
  exact hl
 | succ m ih =>
  intro x y z hx hy hz e
  by_cases hyz:y=4∧z=3
  ·obtain⟨rfl,rfl⟩:=hyz
   obtain rfl:x=0:=by omega
   obtain rfl:m=0:=by omega
   exact hl0 hl
  have hr:Region.ready .any ops (lst x y z)=rdy x y z:=by
   unfold isDiamond at hd
   have h2:=List.all_eq_true.1 hd x (by simp;omega)
   have h3:=List.all_eq_true.1 h2 y (by simp;omega)
   have h4:=List.all_eq_true.1 h3 z (by simp;omega)
   simp only[Bool.or_eq_true,Bool.and_eq_true,beq_iff_eq] at h4
   rcases h4 with h4|h4
   ·omega
   ·exact h4
  have hne:rdy x y z≠[]:=by
   unfold rdy
   intro h
   rw[List.append_eq_nil_iff,List.append_eq_nil_iff] at h
   obtain⟨q1,q2,q3⟩:=h
   split at q1
   ·cases q1
   ·split at q2
    ·cases q2
    ·split at q3
     ·cases q3
     ·omega
  have e4:m+1+4=(m+4)+1:=by omega
  rw[e4]
  refine wpAnyIn_ready hr hne ?_
  intro i hi
  unfold rdy at hi
  rcases List.mem_append.1 hi with hi|hi
  ·split at hi
   ·obtain rfl:i=0:=by simpa using hi
    obtain rfl:x=0:=by omega
    refine h0 y z _ hy hz ?_
    rw[lst_x]
    exact ih 1 y z (by omega) hy hz (by omega)
   ·cases hi
  ·rcases List.mem_append.1 hi with hi|hi
   ·split at hi
    ·rename_i hy4
     obtain rfl:i=1+y:=by simpa using hi
     refine h1 x y z _ hx hy4 hz ?_
     rw[lst_y hy4]
     exact ih x (y+1) z hx (by omega) hz (by omega)
    ·cases hi
   ·split at hi
    ·rename_i hz3
     obtain rfl:i=5+z:=by simpa using hi
     refine h5 x y z _ hx hy hz3 ?_
     rw[lst_z hz3]
     exact ih x y (z+1) hx hy (by omega) (by omega)
    ·cases hi
end

section
open Go.RowKit Go.Maps
attribute [local go_sem] Oper.semAt_some run_store_func
theorem wpIn_append_lies {l:Nat} {w:World} {o:Oper} {a:Act} {K:Act→World→Prop} {Q:Exit→Act→World→Prop} (s x:Operand) (t:TypeId)
  (ho:o.op = .call { callee:=.builtin .append,args:=#[s,x],argTypes:=#[t,t] })
  (base:Nat) (e:TypeId) (i:TypeInfo) (z:Value) (size bytes:Nat) (ht:Tryz.prog.underlying t=some (.slice e)) (hi:Tryz.prog.info? e=some i) (hz:i.zero=some z)
  (hsize:i.size=size) (hby:i.bytes=bytes) (hzs:z.cells.size=size) (hsz:0<size)
  (v:Value) (n:Nat) (xs:List Value) (hs:a.eval s=v) (hown:w.ownsRow base e size v n xs)
  (ad:Addr) (m c:Nat) (news:List Value) (hx:a.eval x = .slice (some ad) m c) (hl:news.length=m*size) (hnews:∀j u,news[j]? = some u→w.cell? (ad.add j)=some u) (h1:∀u∈news,u.oneCell'=true)
  (hm:0<m) (h63:n+m≤maxLen) (hbytes:(n+m)*bytes≤140737488355328) (hbase:base≤w.heap.size) (H:Nat) (hH:w.heap.size=H)
  (h:∀g cap w',w'.ownsRow base e size (.slice (some ⟨g,0,none⟩) (n+m) cap) (n+m) (xs++news)→w.grownBy w' v.ownBlock→(v.ownBlock=some g∨g=H)→g<w'.heap.size→K (a.put o.dst (.slice (some ⟨g,0,none⟩) (n+m) cap)) w') :
  Oper.wpIn (Fence.wide.inRound l) 0 Tryz.prog o a w K Q:=by
 obtain⟨g,cap,w',hr,h2,h3,h4,h5⟩:=run_append_lies (P:=Tryz.prog) (w:=w) t o.type base e i z size bytes ht hi hz hsize hby hzs hsz v n xs hown ad m c news hl hnews h1 hm h63 hbytes hbase H hH
 refine⟨fun f _=>trivial,?_⟩
 rw[show (Fence.wide.inRound l).round=some l from rfl,Oper.semAt_some _ _ _ (by intro c hc;rw[ho] at hc;cases hc)]
 unfold execOp
 simp only[ho,resolve,invoke,builtin,Sem.run_bind,Sem.run_pure,Result.andThen_ok,List.map_toArray,List.map_cons,List.map_nil,hs,hx,hr]
 exact h g cap w' h2 h3 h4 h5
theorem op_info:(Tryz.prog.info? 178).map (fun i=>(i.zero.map (fun z=>z.cells.size),i.size,i.bytes))=some (some 4,4,64):=by kernel_rfl
theorem op_parts:∃i z,Tryz.prog.info? 178=some i∧i.zero=some z∧z.cells.size=4∧i.size=4∧i.bytes=64:=by
 obtain⟨i,hi,h⟩:=Option.map_eq_some_iff.1 op_info
 simp only[Prod.mk.injEq] at h
 obtain⟨z,hz,h1⟩:=Option.map_eq_some_iff.1 h.1
 exact⟨i,z,hi,hz,h1,h.2.1,h.2.2⟩
def pk (n k:Nat) (v:Value):Value:=if k≤n then v else undef
def wz (z:Nat) (w1 w2:World):World:=if 3≤z then w2 else w1
def ysOf (c:Nat→Value) (N:Nat):Nat→List Value
 | 0=>[]
 | k+1=>ysOf c N k++[c ((N-1-k)*5+1),c ((N-1-k)*5+2),c ((N-1-k)*5+3),c ((N-1-k)*5+4)]
theorem Opns.snoc {w:World} {G:Nat→Prop} {kv pv fv vv:Value} {o:Sp.Opn} (ho:OpnR w G kv pv fv vv o):∀ {xs:List Value} {js:List Sp.Opn},Opns w G xs js→Opns w G (xs++[kv,pv,fv,vv]) (js++[o])
 | [],[],_=>⟨ho,trivial⟩
 | _::_::_::_::_,_::_,⟨a,b⟩=>⟨a,Opns.snoc ho b⟩
structure KeepI (w wB:World) (D g N B:Nat) (rv jn:Value) (ch:Bool) (c:Nat→Value) (k:Nat) (W:World):Prop where
 bx:W.heap[w.heap.size]? = wB.heap[w.heap.size]?
 box:W.heap[w.heap.size+1]? = wB.heap[w.heap.size+1]?
 row:0<N→W.heap[g]? = w.heap[g]?
 os:W.os=w.os
 tape:W.tape=w.tape
 output:W.output=w.output
 size:B≤W.heap.size
 old:∀j,j<w.heap.size→j≠D→W.heap[j]? = w.heap[j]?
 doc:∃iv,DB W D rv jn ch iv∧W.ownsRow 0 178 4 iv k (ysOf c N k) ∧ ∀q,iv.ownBlock=some q→w.heap.size+2≤q∧q≠B∧q≠B+1
structure KeepA (w wB:World) (D g N B:Nat) (rv jn:Value) (ch:Bool) (c:Nat→Value) (E:Array Value) (k X:Nat) (W:World):Prop where
 inv:KeepI w wB D g N B rv jn ch c k W
 ne:w.heap.size+2≤X∧X≠B∧X≠B+1
 blk:W.heap[X]? = some (.cells E 230 (0,0))
 far:∀q iv,DB W D rv jn ch iv→iv.ownBlock=some q→q≠X
section
variable {w wB:World} {D g N B:Nat} {rv jn:Value} {ch:Bool} {c:Nat→Value}
theorem KeepI.apart (hB:B=w.heap.size+2) (hD:D<w.heap.size) (hg:0<N→g<w.heap.size) (k:Nat):Apart2 B (KeepI w wB D g N B rv jn ch c k):=by
 intro W W' h e1 e2 e3 e4 e5
 have hs:=h.size
 obtain⟨iv,h1,h2,h3⟩:=h.doc
 refine⟨(e5 _ (by omega) (by omega) (by omega)).trans h.bx,(e5 _ (by omega) (by omega) (by omega)).trans h.box,fun hN=>(e5 g (by have:=hg hN;omega) (by have:=hg hN;omega) (by have:=hg hN;omega)).trans (h.row hN),e1.trans h.os,e2.trans h.tape,e3.trans h.output,Nat.le_trans hs e4,fun j hj hne=>(e5 j (by omega) (by omega) (by omega)).trans (h.old j hj hne),iv,h1.kept (e5 D (by omega) (by omega) (by omega)),ownsN_kept h2 fun q hq=>e5 q (ownsN_lt h2 q hq).1 (h3 q hq).2.1 (h3 q hq).2.2,h3⟩
theorem KeepA.apart {E:Array Value} (hB:B=w.heap.size+2) (hD:D<w.heap.size) (hg:0<N→g<w.heap.size) (k X:Nat):Apart2 B (KeepA w wB D g N B rv jn ch c E k X):=by
 intro W W' h e1 e2 e3 e4 e5
 have hs:=h.inv.size
 refine⟨KeepI.apart hB hD hg k W W' h.inv e1 e2 e3 e4 e5,h.ne,(e5 X (Array.getElem?_eq_some_iff.1 h.blk).1 h.ne.2.1 h.ne.2.2).trans h.blk,fun q iv h1 h2=>h.far q iv (h1.kept (e5 D (by omega) (by omega) (by omega)).symm) h2⟩
theorem DB.iv {W:World} {iv iv':Value} (h:DB W D rv jn ch iv) (h':DB W D rv jn ch iv'):iv=iv':=by
 have e:=(show W.heap[D]? = _ from h).symm.trans (show W.heap[D]? = _ from h')
 injection e with e
 injection e with e
 simp at e
 exact e
end
end

section
open Go.RowKit Go.Maps
attribute [local go_sem] Oper.semAt_some run_store_func
section
variable {w wB:World} {D g N B:Nat} {rv jn iv:Value} {ch:Bool} {c:Nat→Value}
theorem DB.set3 {W:World} (h:DB W D rv jn ch iv) (v:Value):DB (W.setCell ⟨D,3,none⟩ v) D rv jn ch v:=by
 simp only[DB,World.setCell,Array.getElem?_modify]
 rw[if_pos trivial,show W.heap[D]? = _ from h];rfl
theorem KeepI.turn {k q cap:Nat} {W W2 W3:World} (hB:B=w.heap.size+2) (hD:D<w.heap.size) (hg:0<N→g<w.heap.size∧g≠D) (hl:B+1<W.heap.size) (h:KeepI w wB D g N B rv jn ch c k W) (hiv:DB W D rv jn ch iv) (h2:Below W.heap.size W W2)
  (ho:W3.ownsRow 0 178 4 (.slice (some ⟨q,0,none⟩) (k+1) cap) (k+1) (ysOf c N k++[c ((N-1-k)*5+1),c ((N-1-k)*5+2),c ((N-1-k)*5+3),c ((N-1-k)*5+4)])) (hgr:W2.grownBy W3 iv.ownBlock) (hat:iv.ownBlock=some q∨W.heap.size≤q) :
  Two B W (W3.setCell ⟨D,3,none⟩ (.slice (some ⟨q,0,none⟩) (k+1) cap))∧KeepI w wB D g N B rv jn ch c (k+1) (W3.setCell ⟨D,3,none⟩ (.slice (some ⟨q,0,none⟩) (k+1) cap)):=by
 have hs:=h.size
 have hs2:=h2.size
 have hs3:=hgr.size
 obtain⟨iv0,d1,d2,d3⟩:=h.doc
 obtain rfl:=hiv.iv d1
 have keep:∀j,j<W.heap.size→iv.ownBlock≠some j→W3.heap[j]? = W.heap[j]?:=fun j hj hne=>(hgr.block j (by omega) (fun e=>hne e.symm)).trans (h2.block j hj)
 have far:∀j,(j<w.heap.size+2∨j=B∨j=B+1)→iv.ownBlock≠some j:=fun j hj e=>by
  obtain⟨p1,p2,p3⟩:=d3 j e
  omega
 have hset:∀j,j≠D→(W3.setCell ⟨D,3,none⟩ (.slice (some ⟨q,0,none⟩) (k+1) cap)).heap[j]? = W3.heap[j]?:=fun j hj=>Below.heap_setCell _ _ _ _ hj
 have hq:w.heap.size+2≤q∧q≠B∧q≠B+1:=by
  rcases hat with e|e
  ·exact d3 q e
  ·omega
 have hall:∀j,j<W.heap.size→(j<w.heap.size+2∨j=B∨j=B+1)→j≠D→(W3.setCell ⟨D,3,none⟩ (.slice (some ⟨q,0,none⟩) (k+1) cap)).heap[j]? = W.heap[j]?:=fun j hj hf hne=>(hset j hne).trans (keep j hj (far j hf))
 refine⟨⟨hall B (by omega) (by omega) (by omega),hall (B+1) (by omega) (by omega) (by omega)⟩,(hall _ (by omega) (by omega) (by omega)).trans h.bx,(hall _ (by omega) (by omega) (by omega)).trans h.box,fun hN=>?_,?_,?_,?_,?_,fun j hj hne=>(hall j (by omega) (by omega) hne).trans (h.old j hj hne),.slice (some ⟨q,0,none⟩) (k+1) cap,?_,?_,?_⟩
 ·obtain⟨g1,g2⟩:=hg hN
  exact (hall g (by omega) (by omega) g2).trans (h.row hN)
 ·exact hgr.os.trans (h2.os.trans h.os)
 ·exact hgr.tape.trans (h2.tape.trans h.tape)
 ·exact hgr.output.trans (h2.output.trans h.output)
 ·show B≤(W3.setCell _ _).heap.size
  simp[World.setCell];omega
 ·exact (d1.kept (keep D (by omega) (far D (by omega)))).set3 _
 ·exact ownsN_kept ho fun j hj=>hset j (by simp[Value.ownBlock] at hj;omega)
 ·intro j hj
  simp[Value.ownBlock] at hj
  subst hj
  exact hq
end
end

section
set_option maxRecDepth 100000
set_option maxHeartbeats 8000000
open Go.RowKit Go.Maps
attribute [local go_sem] Oper.semAt_some run_store_func
theorem keep_any {L:Nat} {w:World} {D:Nat} {rv jn iv:Value} {ch:Bool} {Tb T:Sp.A} {Mb M:Nat→Prop} {wb:World} {js:List Sp.Opn} (h:JDoc L w D rv jn iv ch Tb Mb wb T M js) (hl:js.length≤1000000000) :
  Calls Tryz.prog 119 #[.pointer (some ⟨D,0,none⟩)] w fun e w'=>e = .returned (.tuple #[]) ∧ ∃iv',DB w' D rv (.slice none 0 0) true iv'∧OpsR w' (fun k=>GA L Tb wb M k∨w.heap.size≤k) iv' js.reverse∧KeptF (fun k=>k=D) w w':=by
 obtain⟨xs,cs,hDB,hown,hjr,hund⟩:=h.ex
 obtain⟨hxl,hlm,ao,cap,g,hjn,hg⟩:=owns_cell5 hown
 obtain⟨hcl,hent⟩:=hjr.at
 obtain⟨N,hN⟩:∃N,N=js.length:=⟨_,rfl⟩
 rw[← hN] at hxl hg hcl hjn hl hlm
 subst hjn
 have hDl:=hDB.lt
 have hM:∀j,M j→j<w.heap.size:=fun j hj=>(h.low j hj).1
 obtain⟨c,hc⟩:∃c:Nat→Value,c=fun j=>xs[j]?.getD .nilFunc:=⟨_,rfl⟩
 have hgl:0<N→g<w.heap.size∧g≠D:=fun hp=>⟨(hg hp).2.2.1,fun e=>h.jD (by rw[← e];exact (hg hp).2.1)⟩
 obtain⟨w1,hw1⟩:∃w1,w1=(w.alloc (.cells #[.pointer (some ⟨D,0,none⟩)] 60)).setCell ⟨D,3,none⟩ (.slice none 0 0):=⟨_,rfl⟩
 obtain⟨wB,hwB⟩:∃wB,wB=w1.alloc (.cells #[.slice ao N cap] 112):=⟨_,rfl⟩
 have hs1:w1.heap.size=w.heap.size+1:=by rw[hw1];simp[World.setCell]
 have hbs:wB.heap.size=w.heap.size+2:=by rw[hwB];simp[hs1]
 have hp1:w1.heap[w.heap.size]? = some (.cells #[.pointer (some ⟨D,0,none⟩)] 60 (0,0)):=by
  rw[hw1]
  exact (Below.heap_setCell _ _ _ _ (by show w.heap.size≠D;omega)).trans (heap_alloc_new w _)
 have hpB:wB.heap[w.heap.size]? = some (.cells #[.pointer (some ⟨D,0,none⟩)] 60 (0,0)):=by rw[hwB];exact (Below.heap_alloc w1 _ _ (by omega)).trans hp1
 have hbx:wB.heap[w.heap.size+1]? = some (.cells #[.slice ao N cap] 112 (0,0)):=by rw[hwB,← hs1];exact heap_alloc_new w1 _
 have hold:∀j,j<w.heap.size→j≠D→wB.heap[j]? = w.heap[j]?:=fun j hj hne=>by
  rw[hwB,Below.heap_alloc w1 _ j (by omega),hw1]
  exact (Below.heap_setCell _ _ _ _ hne).trans (Below.heap_alloc w _ j hj)
 have hd1:DB w1 D rv (.slice ao N cap) ch (.slice none 0 0):=by
  rw[hw1]
  exact (hDB.kept (w':=w.alloc (.cells #[.pointer (some ⟨D,0,none⟩)] 60)) (Below.heap_alloc w _ D hDl)).set3 _
 have hdB:DB wB D rv (.slice ao N cap) ch (.slice none 0 0):=hd1.kept (by rw[hwB];exact Below.heap_alloc w1 _ D (by omega))
 obtain⟨B,hB⟩:∃B,B=w.heap.size+2:=⟨_,rfl⟩
 have h0:KeepI w wB D g N B rv (.slice ao N cap) ch c 0 wB:=by
  refine⟨rfl,rfl,fun hp=>hold g (hgl hp).1 (hgl hp).2,by rw[hwB,hw1];rfl,by rw[hwB,hw1];rfl,by rw[hwB,hw1];rfl,by omega,hold,_,hdB,⟨rfl,Or.inl ⟨rfl,rfl⟩⟩,fun q hq=>by cases hq⟩
 have HCLO:=hide (fun (k:Nat) (hk:k<N)=>(show ∃ (fn:Nat) (caps:Array Value) (kk:Int) (pa:Option Addr) (pl pc:Nat) (x:Option Addr),c ((N-1-k)*5) = .func (.func fn) #[] caps∧c ((N-1-k)*5+1) = .int .i64 kk∧c ((N-1-k)*5+2) = .slice pa pl pc∧c ((N-1-k)*5+3) = .slice none 0 0∧c ((N-1-k)*5+4) = .pointer x from by
  have h1:N-1-k<cs.length:=by omega
  obtain⟨kv,pv,fv,vv,q0,q1,q2,q3,q4,o1,_,o2,o3,o4⟩:=hent (N-1-k) (by omega) h1
  obtain⟨pa,pl,pc,rfl⟩:∃pa pl pc,pv = .slice pa pl pc:=by
   rcases o2 with⟨_,a,c,e,_⟩|⟨g,o,cap,e,_⟩
   ·exact⟨_,_,_,e⟩
   ·exact⟨_,_,_,e⟩
  obtain⟨x,rfl⟩:∃x,vv = .pointer x:=by
   rcases o4 with⟨_,e⟩|⟨_,hr⟩
   ·exact⟨_,e⟩
   ·obtain⟨b,e,_⟩:=hr
    exact⟨_,e⟩
  subst o1;subst o3
  refine⟨cs[N-1-k].1,cs[N-1-k].2,(((js[N-1-k]'(by omega)).1:Nat):Int),pa,pl,pc,x,?_,?_,?_,?_,?_⟩
  ·rw[hc];simp only[q0];rfl
  ·rw[hc];simp only[q1];rfl
  ·rw[hc];simp only[q2];rfl
  ·rw[hc];simp only[q3];rfl
  ·rw[hc];simp only[q4];rfl))
 have HOPS:Hid (∀k,k≤N→Opns w (GA L Tb wb M) (ysOf c N k) (js.reverse.take k)):=by
  intro k
  induction k with
  | zero=>intro _;exact trivial
  | succ k ih =>
   intro hk
   have h1:N-1-k<cs.length:=by omega
   obtain⟨kv,pv,fv,vv,q0,q1,q2,q3,q4,o1⟩:=hent (N-1-k) (by omega) h1
   have e1:js.reverse.take (k+1)=js.reverse.take k++[js[N-1-k]'(by omega)]:=by
    rw[List.take_succ_eq_append_getElem (by simp;omega),List.getElem_reverse]
    congr 3
    omega
   rw[e1,ysOf,hc]
   simp only[q1,q2,q3,q4,Option.getD_some]
   exact Opns.snoc o1 (hc▸ih (by omega))
 have HCELL:=hide (fun (hp:0<N)=>(show ∀j,j<N*5→w.cell? ⟨g,j,none⟩=some (c j) from fun j hj=>by
  rw[(hg hp).2.2.2 j (by omega),hc]
  simp[List.getElem?_eq_getElem (show j<xs.length by omega)]))
 have HTURN:=hide (fun (k q cap2:Nat) (W W2 W3:World) (iv:Value) (hl:B+1<W.heap.size) (hI:KeepI w wB D g N B rv (.slice ao N cap) ch c k W)=>KeepI.turn (iv:=iv) (q:=q) (cap:=cap2) (W2:=W2) (W3:=W3) hB hDl hgl hl hI)
 have HI:=hide (fun k=>KeepI.apart (w:=w) (wB:=wB) (D:=D) (g:=g) (N:=N) (B:=B) (rv:=rv) (jn:=.slice ao N cap) (ch:=ch) (c:=c) hB hDl (fun hp=>(hgl hp).1) k)
 have HA:=hide (fun (E:Array Value) (k X:Nat)=>KeepA.apart (w:=w) (wB:=wB) (D:=D) (g:=g) (N:=N) (B:=B) (rv:=rv) (jn:=.slice ao N cap) (ch:=ch) (c:=c) (E:=E) hB hDl (fun hp=>(hgl hp).1) k X)
 have HAO:=hide (fun (hp:0<N)=>(hg hp).1)
 have H0:=hide h0
 have HD0:=hide hDB
 have hDa:=hDB.kept (w':=w.alloc (.cells #[.pointer (some ⟨D,0,none⟩)] 60)) (Below.heap_alloc w _ D hDl)
 have z1:(w.alloc (.cells #[.pointer (some ⟨D,0,none⟩)] 60)).cell? ⟨D,1,none⟩=some (.slice ao N cap):=hDa.c1
 have z3:(w.alloc (.cells #[.pointer (some ⟨D,0,none⟩)] 60)).cell? ⟨D,3,none⟩=some iv:=hDa.c3
 have y3:(w.alloc (.cells #[.pointer (some ⟨D,0,none⟩)] 60)).frozen? ⟨D,3,none⟩=false:=by simp[World.frozen?,show _=_ from hDa]
 have HP1:=hide hp1
 have HD1:=hide hd1
 have HPB:=hide hpB
 have HBX:=hide hbx
 have HBS:=hide hbs
 have HBe:=hide hB
 have HWB:=hide hwB
 have HW1:=hide hw1
 have HDL:=hide hDl
 have HNJ:=hide hN
 have HMM:=hide hM
 have HMD:=hide h.dD.2
 clear h hown hjr hund hxl hg hcl hent h0 hp1 hpB hbx hold hd1 hdB hDB hgl hDa hs1 hbs hB hwB hw1 hDl hN hc hM
 refine (callsIn_wide (n:=0)).1 (callsIn_of_wp_marks Tryz.func119 rfl trivial ?_ rfl)
 simp only[Tryz.ntmps119,List.size_toArray,List.length_cons,List.length_nil,Nat.reduceAdd,Nat.reduceSub,Array.replicate_succ,Array.replicate_zero,List.push_toArray,List.append_toArray,List.nil_append,List.cons_append]
 gi_wp2_with (refine⟨trivial,rfl,?_⟩;gi_at_call 158;refine (callsIn_wide.2 backC_any).mono ?_;rintro e w' ⟨rfl,rfl⟩)
 rw[← unhide HW1,← unhide HWB]
 refine range_turns (gf:=204) (lb:=#[.pointer (some ⟨w.heap.size+1,0,none⟩)]) rfl (ent_of Tryz.func204 (by kernel_rfl) rfl) N (fun k=>#[.int .i64 ((N-1-k:Nat):Int),entV c (N-1-k)]) (fun _=>rfl) (KeepI w wB D g N B rv (.slice ao N cap) ch c)
  (fun k a' W=>∃X,KeepA w wB D g N B rv (.slice ao N cap) ch c #[c ((N-1-k)*5),c ((N-1-k)*5+1),c ((N-1-k)*5+2),c ((N-1-k)*5+3),c ((N-1-k)*5+4)] k X W∧a'={ tmps:=#[.pointer (some ⟨D,0,none⟩),.pointer (some ⟨w.heap.size,0,none⟩),undef,.pointer (some ⟨X,0,none⟩),.pointer (some ⟨D,0,none⟩),.pointer (some ⟨D,0,none⟩),.pointer (some ⟨D,3,none⟩),.pointer (some ⟨D,0,none⟩),.pointer (some ⟨D,0,none⟩),.pointer (some ⟨D,1,none⟩),.slice ao N cap,.func (.func 204) #[] #[.pointer (some ⟨w.heap.size+1,0,none⟩)],.int .i64 ((N-1-k:Nat):Int),entV c (N-1-k),undef,undef,undef,undef,undef,undef,undef,undef,undef,undef,undef,undef,undef,undef,undef,undef,undef],defers:=[] })
  ?hI ?hA (unhide H0) ?hiter ?hassign ?hbody ?hdone
 case hI =>
  rw[unhide HBS,← unhide HBe]
  exact unhide HI
 case hA =>
  rw[unhide HBS,← unhide HBe]
  rintro k a' W W' ⟨X,hX,e⟩ e1 e2 e3 e4 e5
  exact⟨X,unhide HA _ k X W W' hX e1 e2 e3 e4 e5,e⟩
 case hiter =>
  intro l J W hJI hY hJ0
  refine back1_in (cap:=cap) hlm (unhide HAO) (fun k W hj=>?_) hY hJ0
  have hi:=hJI k W hj
  refine⟨?_,fun j hj2=>?_⟩
  ·have:=hi.box.trans (unhide HBX)
   simp[World.cell?,this]
  ·have hp:0<N:=by omega
   rw[World.cell?_of_block (w:=w) (hi.row hp)]
   exact unhide HCELL hp j hj2
 case hassign =>
  intro l k W hk hi hsz
  rw[unhide HBS,← unhide HBe] at hsz ⊢
  have HII:=hide hi
  obtain⟨fn,caps,kk,pa,pl,pc,x,e0,e1,e2,e3,e4⟩:=unhide HCLO k hk
  clear hi
  unfold entV
  rw[e0,e1,e2,e3,e4]
  clear e0 e1 e2 e3 e4
  gi_wp2
  have hb:=(Below.refl W.heap.size W).alloc (Nat.le_refl _) (.cells #[.func (.func fn) #[] caps,.int .i64 kk,.slice pa pl pc,.slice none 0 0,.pointer x] 230)
  have hBe:=unhide HBe
  have hiI:=unhide HII
  obtain⟨iv0,d1,d2,d3⟩:=hiI.doc
  have hdl:=d1.lt
  exact⟨⟨hb.block B (by omega),hb.block (B+1) (by omega)⟩,⟨unhide HI k W _ hiI hb.os hb.tape hb.output hb.size fun j hj _ _=>hb.block j hj,⟨by omega,by omega,by omega⟩,heap_alloc_new W _,fun q iv1 h1 h2=>by
   have h3:DB W D rv (.slice ao N cap) ch iv1:=h1.kept (hb.block D hdl).symm
   obtain rfl:=h3.iv d1
   have:=(ownsN_lt d2 q h2).1
   omega⟩⟩
 case hbody =>
  rintro l k a' W hk ⟨X,hX,rfl⟩ hsz -
  rw[unhide HBS,← unhide HBe] at hsz ⊢
  obtain⟨fn,caps,kk,pa,pl,pc,px,e0,e1,e2,e3,e4⟩:=unhide HCLO k hk
  have hblk:=hX.blk
  rw[e0,e1,e2,e3,e4] at hblk
  obtain⟨iv2,hiv,hrow,hfar⟩:=hX.inv.doc
  have hdl:=hiv.lt
  obtain⟨i0,z0,hi0,hz0,hz1,hz2,hz3⟩:=op_parts
  have hsp:ysOf c N k++[c ((N-1-k)*5+1),c ((N-1-k)*5+2),c ((N-1-k)*5+3),c ((N-1-k)*5+4)]=ysOf c N k++[.int .i64 kk,.slice pa pl pc,.slice none 0 0,.pointer px]:=by rw[e1,e2,e3,e4]
  have hT:=fun q cap2 W2 W3=>unhide HTURN k q cap2 W W2 W3 iv2 hsz hX.inv hiv
  simp only[hsp] at hT
  have HT:=hide hT
  obtain⟨W2,hW2⟩:∃W2,W2=W.drew.alloc (.cells #[.int .i64 kk,.slice pa pl pc,.slice none 0 0,.pointer px] 178):=⟨_,rfl⟩
  have hb2:Below W.heap.size W W2:=by
   rw[hW2]
   have h1:=(Below.refl W.heap.size W).alloc (Nat.le_refl _) (.cells #[.int .i64 kk,.slice pa pl pc,.slice none 0 0,.pointer px] 178)
   exact⟨h1.os,h1.tape,h1.output,h1.size,h1.block⟩
  have hw2s:W2.heap.size=W.heap.size+1:=by rw[hW2];simp
  have hn2:W2.heap[W.heap.size]? = some (.cells #[.int .i64 kk,.slice pa pl pc,.slice none 0 0,.pointer px] 178 (0,0)):=by rw[hW2];exact heap_alloc_new W.drew _
  have hPX:W.heap[w.heap.size]? = some (.cells #[.pointer (some ⟨D,0,none⟩)] 60 (0,0)):=hX.inv.bx.trans (unhide HPB)
  have hlP:w.heap.size<W.heap.size:=(Array.getElem?_eq_some_iff.1 hPX).1
  have hlX:X<W.heap.size:=(Array.getElem?_eq_some_iff.1 hblk).1
  have hwz:∀j,j<W.heap.size → ∀z,(wz z W.drew W2).heap[j]? = W.heap[j]?:=fun j hj z=>by
   unfold wz
   split
   ·exact hb2.block j hj
   ·rfl
  have hown2:=ownsN_kept (w':=W2) hrow fun q hq=>hb2.block q (ownsN_lt hrow q hq).1
  have fP:∀z,(wz z W.drew W2).cell? ⟨w.heap.size,0,none⟩=some (.pointer (some ⟨D,0,none⟩)):=fun z=>by
   rw[World.cell?_of_block (w:=W) (hwz _ hlP z)];simp[World.cell?,hPX]
  have fD:∀z,(wz z W.drew W2).cell? ⟨D,3,none⟩=some iv2:=fun z=>by
   rw[World.cell?_of_block (w:=W) (hwz _ hdl z)];exact hiv.c3
  have fX:∀z,(wz z W.drew W2).cell? ⟨X,1,none⟩=some (.int .i64 kk)∧(wz z W.drew W2).cell? ⟨X,2,none⟩=some (.slice pa pl pc)∧(wz z W.drew W2).cell? ⟨X,3,none⟩=some (.slice none 0 0)∧(wz z W.drew W2).cell? ⟨X,4,none⟩=some (.pointer px):=fun z=>by
   refine⟨?_,?_,?_,?_⟩
   all_goals (rw[World.cell?_of_block (w:=W) (hwz _ hlX z)];simp[World.cell?,hblk])
  obtain⟨E0,hE0⟩:∃E0,E0=entV c (N-1-k):=⟨_,rfl⟩
  rw[← hE0]
  have HW2:=hide hW2
  have HN2:=hide hn2
  have HWS:=hide hw2s
  have HB2:=hide hb2
  have HOWN2:=hide hown2
  have HFP:=hide fP
  have HFD:=hide fD
  have HFX:=hide fX
  have HZ:=hide (show ∀W3:World,W2.grownBy W3 iv2.ownBlock→W3.cell? ⟨D,3,none⟩=some iv2∧W3.frozen? ⟨D,3,none⟩=false∧W3.cell? ⟨w.heap.size,0,none⟩=some (.pointer (some ⟨D,0,none⟩)) from fun W3 hgr=>by
   have h3:DB W3 D rv (.slice ao N cap) ch iv2:=hiv.kept ((hgr.block D (by omega) (fun e=>by have:=hfar D e.symm;have:=unhide HDL;omega)).trans (hb2.block D hdl))
   have h4:W3.heap[w.heap.size]? = some (.cells #[.pointer (some ⟨D,0,none⟩)] 60 (0,0)):=((hgr.block _ (by omega) (fun e=>by have:=hfar _ e.symm;omega)).trans (hb2.block _ hlP)).trans hPX
   exact⟨h3.c3,by simp[World.frozen?,show W3.heap[D]? = _ from h3],by simp[World.cell?,h4]⟩)
  obtain⟨fi,hfi⟩:∃a b n,iv2 = .slice a b n:=by
   rcases hrow.2 with⟨e,_⟩|⟨_,_,_,e,_⟩
   ·exact⟨_,_,_,e⟩
   ·exact⟨_,_,_,e⟩
  clear hblk hX e0 e1 e2 e3 e4 hiv hrow hfar hT hsp hW2 hb2 hw2s hn2 hPX hwz hown2 fP fD fX hE0
  gi_wp2
  refine wpIn_region_any (by kernel_rfl) ?_
  refine diamond (A:=fun x y z=>{ tmps:=#[.pointer (some ⟨D,0,none⟩),.pointer (some ⟨w.heap.size,0,none⟩),undef,.pointer (some ⟨X,0,none⟩),.pointer (some ⟨D,0,none⟩),.pointer (some ⟨D,0,none⟩),.pointer (some ⟨D,3,none⟩),.pointer (some ⟨D,0,none⟩),.pointer (some ⟨D,0,none⟩),.pointer (some ⟨D,1,none⟩),.slice ao N cap,.func (.func 204) #[] #[.pointer (some ⟨w.heap.size+1,0,none⟩)],.int .i64 ((N-1-k:Nat):Int),E0,pk x 1 (.pointer (some ⟨D,0,none⟩)),pk y 1 (.pointer (some ⟨D,0,none⟩)),pk y 2 (.pointer (some ⟨D,0,none⟩)),pk y 3 (.pointer (some ⟨D,3,none⟩)),pk y 4 iv2,pk z 1 (.pointer (some ⟨X,1,none⟩)),pk z 2 (.agg #[.int .i64 kk,.slice pa pl pc,.slice none 0 0,.pointer px]),pk z 3 (.slice (some ⟨W.heap.size,0,none⟩) 1 1),undef,undef,undef,undef,undef,undef,undef,undef,undef],defers:=[] }) (W:=fun z=>wz z W.drew W2) (by kernel_rfl) ?h0 ?h1 ?h5 ?hl ?hl0
  case h0 =>
   intro y z K hy hz hk
   refine wpOpIn_step rfl (fun K' hK=>?_)
   have f:=unhide HFP z
   go_simp
   exact hK _ _ hk
  case h1 =>
   intro x y z K hx hy hz hk
   have f:=unhide HFP z
   have f3:=unhide HFD z
   have p11:∀v,pk 1 1 v=v:=fun _=>rfl
   have p22:∀v,pk 2 2 v=v:=fun _=>rfl
   have p33:∀v,pk 3 3 v=v:=fun _=>rfl
   match y,hy with
   | 0,_ =>
    refine wpOpIn_step rfl (fun K' hK=>?_)
    go_simp
    exact hK _ _ hk
   | 1,_ =>
    refine wpOpIn_step rfl (fun K' hK=>?_)
    go_simp
    exact hK _ _ hk
   | 2,_ =>
    refine wpOpIn_step rfl (fun K' hK=>?_)
    go_simp
    exact hK _ _ hk
   | 3,_ =>
    refine wpOpIn_step rfl (fun K' hK=>?_)
    go_simp
    exact hK _ _ hk
  case h5 =>
   intro x y z K hx hy hz hk
   obtain⟨f1,f2,f3,f4⟩:=unhide HFX z
   have p11:∀v,pk 1 1 v=v:=fun _=>rfl
   have p22:∀v,pk 2 2 v=v:=fun _=>rfl
   match z,hz with
   | 0,_ =>
    refine wpOpIn_step rfl (fun K' hK=>?_)
    go_simp
    exact hK _ _ hk
   | 1,_ =>
    refine wpOpIn_step rfl (fun K' hK=>?_)
    go_simp
    exact hK _ _ hk
   | 2,_ =>
    have e2:wz 2 W.drew W2=W.drew:=rfl
    have e3:wz 3 W.drew W2=W2:=rfl
    simp only[e2] at f1 f2 f3 f4 ⊢
    simp only[Nat.reduceAdd,e3] at hk
    rw[unhide HW2] at hk
    refine wpOpIn_step rfl (fun K' hK=>?_)
    go_simp
    exact hK _ _ hk
  case hl =>
   refine wpAnyIn_ready (rs:=[8]) (by kernel_rfl) (by simp) (AllReadyIn.cons rfl (fun K hK=>?_) AllReadyIn.nil)
   rw[if_pos (by rfl)]
   refine wpIn_append_lies (.tmp 18) (.tmp 21) 113 rfl 0 178 i0 z0 4 64 Tryz.underlying113 hi0 hz0 hz2 hz3 hz1 (by decide) iv2 k (ysOf c N k) rfl (unhide HOWN2) ⟨W.heap.size,0,none⟩ 1 1 [.int .i64 kk,.slice pa pl pc,.slice none 0 0,.pointer px] rfl rfl (World.news_of_block (cs:=#[.int .i64 kk,.slice pa pl pc,.slice none 0 0,.pointer px]) (t:=178) (fr:=(0,0)) (unhide HN2)) (by simp[Value.oneCell']) (by decide) (by unfold maxLen;omega) (by omega) (Nat.zero_le _) (W.heap.size+1) (unhide HWS) ?_
   intro q cap2 W3 ho hgr hat hlt
   refine hK _ _ ?_
   obtain⟨y1,y2,y3⟩:=unhide HZ W3 hgr
   have HEND:=hide (unhide HT q cap2 W2 W3 (unhide HB2) ho hgr (hat.imp id (fun h=>by omega)))
   clear hK ho hgr hat hlt
   refine wpAnyIn_ready (rs:=[9]) (by kernel_rfl) (by simp) (AllReadyIn.cons rfl (fun K hK=>?_) AllReadyIn.nil)
   go_simp
   refine hK _ _ ?_
   clear hK
   refine wpAnyIn_ready (rs:=[10]) (by kernel_rfl) (by simp) (AllReadyIn.cons rfl (fun K hK=>?_) AllReadyIn.nil)
   go_simp
   refine hK _ _ ?_
   clear hK
   refine wpAnyIn_ready (rs:=[11]) (by kernel_rfl) (by simp) (AllReadyIn.cons rfl (fun K hK=>?_) AllReadyIn.nil)
   go_simp
   refine hK _ _ ?_
   clear hK
   refine wpAnyIn_done (by kernel_rfl) ?_ _
   exact⟨rfl,unhide HEND⟩
  case hl0 =>
   intro hL
   refine wpAnyIn_ready (rs:=[0,8]) (by kernel_rfl) (by simp) (AllReadyIn.cons rfl (fun K hK=>?_) (AllReadyIn.cons rfl (fun K hK=>?_) AllReadyIn.nil))
   ·have f:=unhide HFP 3
    go_simp
    exact hK _ _ hL
   clear hL
   rw[if_pos (by rfl)]
   refine wpIn_append_lies (.tmp 18) (.tmp 21) 113 rfl 0 178 i0 z0 4 64 Tryz.underlying113 hi0 hz0 hz2 hz3 hz1 (by decide) iv2 k (ysOf c N k) rfl (unhide HOWN2) ⟨W.heap.size,0,none⟩ 1 1 [.int .i64 kk,.slice pa pl pc,.slice none 0 0,.pointer px] rfl rfl (World.news_of_block (cs:=#[.int .i64 kk,.slice pa pl pc,.slice none 0 0,.pointer px]) (t:=178) (fr:=(0,0)) (unhide HN2)) (by simp[Value.oneCell']) (by decide) (by unfold maxLen;omega) (by omega) (Nat.zero_le _) (W.heap.size+1) (unhide HWS) ?_
   intro q cap2 W3 ho hgr hat hlt
   refine hK _ _ ?_
   obtain⟨y1,y2,y3⟩:=unhide HZ W3 hgr
   have HEND:=hide (unhide HT q cap2 W2 W3 (unhide HB2) ho hgr (hat.imp id (fun h=>by omega)))
   clear hK ho hgr hat hlt
   refine wpAnyIn_ready (rs:=[0]) (by kernel_rfl) (by simp) (AllReadyIn.cons rfl (fun K hK=>?_) AllReadyIn.nil)
   go_simp
   refine hK _ _ ?_
   clear hK
   refine wpAnyIn_ready (rs:=[9]) (by kernel_rfl) (by simp) (AllReadyIn.cons rfl (fun K hK=>?_) AllReadyIn.nil)
   go_simp
   refine hK _ _ ?_
   clear hK
   refine wpAnyIn_ready (rs:=[10]) (by kernel_rfl) (by simp) (AllReadyIn.cons rfl (fun K hK=>?_) AllReadyIn.nil)
   go_simp
   refine hK _ _ ?_
   clear hK
   refine wpAnyIn_ready (rs:=[11]) (by kernel_rfl) (by simp) (AllReadyIn.cons rfl (fun K hK=>?_) AllReadyIn.nil)
   go_simp
   refine hK _ _ ?_
   clear hK
   refine wpAnyIn_done (by kernel_rfl) ?_ _
   exact⟨rfl,unhide HEND⟩
 case hdone =>
  intro W hI hK
  rw[unhide HBS,← unhide HBe] at hK ⊢
  obtain⟨iv2,hiv,hrow,hfar⟩:=hI.doc
  have hPX:W.heap[w.heap.size]? = some (.cells #[.pointer (some ⟨D,0,none⟩)] 60 (0,0)):=hI.bx.trans (unhide HPB)
  have f0:W.cell? ⟨w.heap.size,0,none⟩=some (.pointer (some ⟨D,0,none⟩)):=by simp[World.cell?,hPX]
  have d1:=hiv.c1
  have d2:=hiv.c2
  have dz:∀o,W.frozen? ⟨D,o,none⟩=false:=fun o=>by simp[World.frozen?,show W.heap[D]? = _ from hiv]
  have hne:w.heap.size≠D:=by have:=unhide HDL;omega
  have HIV:=hide hiv
  have HROW:=hide hrow
  have HFAR:=hide hfar
  have HII:=hide hI
  clear hiv hrow hfar hI hPX
  gi_wp2
  have hBe:=unhide HBe
  have hDl:=unhide HDL
  have hNJ:=unhide HNJ
  have hK2:((W.setCell ⟨D,2,none⟩ (.bool true)).setCell ⟨D,1,none⟩ (.slice none 0 0)).heap[B]? = some (.deferred (some [])):=(Below.heap_setCell _ _ _ _ (by show B≠D;omega)).trans ((Below.heap_setCell _ _ _ _ (by show B≠D;omega)).trans hK)
  refine⟨by simp,.inl ⟨_,_,rfl,run_takeDeferred hK2,?_⟩⟩
  refine⟨_,results_none rfl _ _ _,rfl,iv2,?_,⟨ysOf c N N,?_,fun q hq=>Or.inr (by have:=(unhide HFAR q hq).1;omega),?_⟩,?_⟩
  ·have h2:DB (W.setCell ⟨D,2,none⟩ (.bool true)) D rv (.slice ao N cap) true iv2:=by
    have h:=unhide HIV
    simp only[DB,World.setCell,Array.getElem?_modify]
    rw[if_pos trivial,show W.heap[D]? = _ from h];rfl
   exact (World.putObj_heap_other (by omega)).trans (h2.set1 _)
  ·rw[List.length_reverse,← hNJ]
   refine ownsN_kept (unhide HROW) fun q hq=>?_
   obtain⟨p1,p2,p3⟩:=unhide HFAR q hq
   exact (World.putObj_heap_other (by omega)).trans ((Below.heap_setCell _ _ _ _ (by show q≠D;omega)).trans (Below.heap_setCell _ _ _ _ (by show q≠D;omega)))
  ·have h1:=unhide HOPS N (Nat.le_refl _)
   rw[List.take_of_length_le (by simp;omega)] at h1
   refine h1.move fun q hq hql=>⟨?_,Or.inl hq⟩
   have hqD:q≠D:=fun e=>unhide HMD (e▸hq.1)
   exact (World.putObj_heap_other (by omega)).trans ((Below.heap_setCell _ _ _ _ hqD).trans ((Below.heap_setCell _ _ _ _ hqD).trans ((unhide HII).old q hql hqD)))
  ·refine⟨(unhide HII).os,(unhide HII).tape,(unhide HII).output,?_,fun q hql hqD=>(World.putObj_heap_other (by omega)).trans ((Below.heap_setCell _ _ _ _ hqD).trans ((Below.heap_setCell _ _ _ _ hqD).trans ((unhide HII).old q hql hqD)))⟩
   have:=(unhide HII).size
   simp[World.putObj,World.setCell];omega
end

section
open Go.RowKit Go.Maps
def PatchEnd (D R:Nat) (iv:Value) (ch:Bool) (Tb:Sp.A) (Mb:Nat→Prop) (wb:World) (M:Nat→Prop) (d x:Int) (n:Nat) (w:World) (r:Except (Nat×Nat) (Sp.V×List Sp.Opn)) (e:Ending) (w':World):Prop:=match r with
 | .ok (v,j)=>e = .returned (.tuple #[.int .i64 0,.int .i64 0]) ∧ ∃wp jn T a M' wk iv',JS wk D R wp jn iv ch Tb Mb wb T a v M' j∧JEx M M' w wk∧DB w' D (.pointer (some ⟨R,0,none⟩)) (.slice none 0 0) true iv'∧OpsR w' (fun k=>GA (top+1) Tb wb M' k∨wk.heap.size≤k) iv' j.reverse∧KeptF (fun k=>k=D) wk w'∧Sp.Fit d x 200000 v∧(Sp.can top v).length≤80000∧(∀o∈j,Sp.OnOk d x 200000 o)∧j.length≤2*n
 | .error (c,i)=>e = .returned (.tuple #[.int .i64 i,.int .i64 c])∧DB w' D (.pointer (some ⟨R,0,none⟩)) (.slice none 0 0) ch iv∧TreeAt (top+1) (.pointer (some ⟨R,0,none⟩)) Tb Mb (fun k=>k=D) wb w'∧w'.os=w.os∧w'.tape=w.tape∧w'.output=w.output∧w.heap.size≤w'.heap.size
section
variable {w:World} {D R:Nat} {wp:Option Addr} {jn iv:Value} {ch:Bool} {Tb T a:Sp.A} {Mb M:Nat→Prop} {wb:World} {v:Sp.V} {d x:Int} {js:List Sp.Opn}
theorem takeBack_end {c i n:Nat} {M':Nat→Prop} {W:World} (h:JS W D R wp jn iv ch Tb Mb wb T a v M' js) (hX:JEx M M' w W) (hMb:∀k,Mb k→k≠D∧k<w.heap.size) :
  Calls Tryz.prog 118 #[.pointer (some ⟨D,0,none⟩)] W fun e w'=>e = .returned (.tuple #[])∧Hid (PatchEnd D R iv ch Tb Mb wb M d x n w (.error (c,i)) (.returned (.tuple #[.int .i64 i,.int .i64 c])) w'):=by
 refine (takeBack_any h.j (fun k hk=>⟨(hMb k hk).1,Nat.lt_of_lt_of_le (hMb k hk).2 hX.size⟩)).mono ?_
 rintro e w' ⟨rfl,t1,t2,t3,t4,t5,t6⟩
 exact⟨rfl,rfl,t1,t2,t3.trans hX.os,t4.trans hX.tape,t5.trans hX.output,Nat.le_trans hX.size t6⟩
end
end
end Go.Proofs.YtdpomdelmdofmaaGreatDoor
