import Derived.Test.YtdpomdelmdofmaaGreatDoorRea35
import Derived.OrdersIn
open Go renaming Value->AI,World->AS,wpAnyIn->A6
open List renaming mem_append->AT,length_cons->A1,append_eq_nil_iff->A2,mem_singleton->A4,all_eq_true->A5,range->Bs,map_cons->CD,mem_map->CL
open Go.Oper renaming semAt_some->A3
open Go.Value renaming ownBlock->BY
open Go.World renaming setCell->CH
open Go.Region renaming ready->CR
namespace Go.Proofs.YtdpomdelmdofmaaGreatDoor
open Go.Proofs.Tryz Go.RowKit Go.Maps
variable{f:Nat}{W:AS}
theorem Ec:∀ (n:Nat) (a b:List To) (k j:Nat),(∀i∈(eJ n a b k j).1,i<=k+a.length) /\ ∀i∈(eJ n a b k j).2,i<j+b.length
 | 0,_,_,_,_=>⟨(fun i hi=>by cases hi),fun i hi=>by cases hi⟩
 | _+1,[],[],_,_=>⟨(fun i hi=>by cases hi),fun i hi=>by cases hi⟩
 | n+1,x::a,[],k,j=>by
  have h:=Ec n a [] k j
  grind [eJ,A1]
 | n+1,[],y::b,k,j=>by
  have h:=Ec n [] b k (j+1)
  grind [eJ,A1]
 | n+1,x::a,y::b,k,j=>by
  have h1:=Ec n a (y::b) k j;have h2:=Ec n (x::a) b k (j+1);have h3:=Ec n a b (k+1) (j+1)
  grind [eJ,A1]
def G8(s:List By):Nat:=(s.map fun t=>t.length+1).sum
theorem LZ(s:List By)(t:By):G8 (s++[t])=G8 s+(t.length+1):=EF s t
section
variable{d x n:Int}{B:Nat}
theorem UU{P:Nat}{dU:Int}{s:List By}{xs ys:List To}(hlv:1<=dU)(hb:∀e∈ys,dY d x f (dU+1) e/\dT f e<=B)(hx:xs.length<=1000000)(hy:ys.length<=1000000)(hP:G8 s+1001<=P):∀o∈B6 s xs ys,iE d x B P o:=by
 have h:=Ec (xs.length+ys.length) xs ys 0 0;have q0:∀i:Nat,i<=1000000->((Ca s i).map fun t=>t.length+1).sum<=P:=fun i hi=>by
  have h1:((Ca s i).map fun t=>t.length+1).sum=G8 s+((Lib.itoa (i:Int)).length+1):=LZ s _;have h2:=KR i (by omega);omega
 intro o ho;unfold B6 at ho;rcases AT.1 ho with ho|ho
 ·obtain⟨i,hi,rfl⟩:=CL.1 ho;exact⟨by show 1<3;decide,q0 i (by have:=h.1 i hi;omega),fun e=>absurd rfl e⟩
 ·obtain⟨i,hi,rfl⟩:=CL.1 ho;have q4:=h.2 i hi;rw[Nat.zero_add] at q4;refine⟨by show 0<3;decide,q0 i (by omega),fun _=>⟨f,dU+1,by omega,?_⟩⟩;show dY d x f (dU+1) ((ys[i]?).getD .nil)/\dT f ((ys[i]?).getD .nil)<=B;rw[List.getElem?_eq_getElem q4];exact hb _ (List.getElem_mem q4)
theorem aV{dU:Int}{es y:List To}(h:dY d x (f+1) dU (.slice es y)):∀e∈es,dY d x f (dU+1) e:=by
 obtain⟨_,h⟩:=h;rcases h with⟨k,_,e⟩|⟨s,_,e⟩|⟨n,_,_,_,e⟩|⟨es',h,e⟩|⟨es',_,_,e⟩
 ·cases e
 ·cases e
 ·cases e
 ·injection e with e1 _
  grind
 ·cases e
theorem SG{es y:List To}{e:To}(h:e∈es):dT f e<=dT (f+1) (.slice es y):=by
 show dT f e<=2+(es.map fun e=>dT f e+1).sum;have:∀l:List To,e∈l->dT f e<=(l.map fun e=>dT f e+1).sum:=by
  intro l;induction l with
  | nil=>intro h;cases h
  | cons a l ih=>
   intro h;rw[CD,List.sum_cons];rcases List.mem_cons.1 h with rfl|h
   ·omega
   ·have:=ih h;omega
 have:=this es h;omega
theorem IQ{m:List By->To->To->List dX}{s:List By}{xs bs:List (Lit×To)}{o:dX}:∀ {l:List By},o∈AN m s xs bs l -> ∃k∈l,(Aj bs (.string k)=none/\o=(1,s++[k],.nil))\/(∃y,Aj bs (.string k)=some y/\o=(0,s++[k],y)) \/ ∃u y,Aj xs (.string k)=some u/\Aj bs (.string k)=some y/\o∈m (s++[k]) u y
 | [],h=>by cases h
 | k::l,h=>by
  rw[AN] at h;rcases AT.1 h with h|h
  ·refine⟨k,List.mem_cons_self,?_⟩;cases hy:Aj bs (.string k) with
   | none=>
    rw[hy] at h;cases hx:Aj xs (.string k)<;>(rw[hx] at h;simp only[A4] at h;exact Or.inl ⟨rfl,h⟩)
   | some y=>
    rw[hy] at h;cases hx:Aj xs (.string k) with
    | none=>
     rw[hx] at h;simp only[A4] at h;exact Or.inr (Or.inl ⟨y,rfl,h⟩)
    | some u=>
     rw[hx] at h;exact Or.inr (Or.inr ⟨u,y,rfl,rfl,h⟩)
  ·obtain⟨j,hj,hr⟩:=IQ h;exact⟨j,List.mem_cons_of_mem _ hj,hr⟩
end
section
variable{d x n:Int}{B:Nat}
theorem J4:∀ {f P:Nat} {dU:Int} {s:List By} {a b:To},1<=dU->dY d x f dU a->dY d x f dU b->dT f a<=1000000->dT f b<=B->B<=1000000->G8 s+dT f a+dT f b+1001<=P -> ∀o∈A9 n f s a b,iE d x B P o
 | 0,_,_,_,_,_,_,h,_,_,_,_,_=>h.elim
 | f+1,P,dU,s,a,b,hlv,ha,hb,hsa,hsb,hB,hP=>by
  by_cases hob:fI a=true/\fI b=true
  ·obtain⟨h1,h2⟩:=hob;obtain⟨xs,rfl⟩:∃xs,a=.map xs:=by
    cases a with
    | map xs=>exact⟨xs,rfl⟩
    | _=>cases h1
   obtain⟨ys,rfl⟩:∃ys,b=.map ys:=by
    cases b with
    | map ys=>exact⟨ys,rfl⟩
    | _=>cases h2
   have iG:=(Bt ha).2;have gU:=(Bt hb).2;intro o ho;have q8:o∈AN (A9 n f) s xs ys (BK xs ys):=ho;obtain⟨k,hk,hc⟩:=IQ q8;have q0:∀c,((Lit.string k,c)∈xs->k.length+1+dT f c<=dT (f+1) (.map xs))/\((Lit.string k,c)∈ys->k.length+1+dT f c<=dT (f+1) (.map ys)):=fun c=>by
    have hq:=FA k;refine⟨fun hm=>?_,fun hm=>?_⟩
    ·have h3:(Ag k).length+2+dT f c<=dT (f+1) (.map xs):=E3 (f:=f) hm;omega
    ·have h3:(Ag k).length+2+dT f c<=dT (f+1) (.map ys):=E3 (f:=f) hm;omega
   have q7:k.length+1<=dT (f+1) (.map xs)+dT (f+1) (.map ys):=by
    rcases (Cw iG.skey gU.skey).1 hk with⟨c,hm⟩|⟨c,hm⟩
    ·have:=(q0 c).1 hm;omega
    grind
   have qd:G8 (s++[k])=G8 s+(k.length+1):=LZ s k;have qb:((s++[k]).map fun t=>t.length+1).sum=G8 (s++[k]):=rfl;rcases hc with⟨_,rfl⟩|⟨y,hy,rfl⟩|⟨u,y,hu,hy,hm⟩
   ·refine⟨by show 1<3;decide,?_,fun e=>absurd rfl e⟩
    grind
   ·have q5:=Ch gU.skey hy;refine⟨by show 0<3;decide,?_,fun _=>⟨f,dU+1,by omega,(gU.2 _ q5).2,?_⟩⟩
    ·grind
    grind
   ·have q6:=Ch iG.skey hu;have q5:=Ch gU.skey hy;have q1:=(q0 u).1 q6;have q2:=(q0 y).2 q5;exact J4 (P:=P) (dU:=dU+1) (s:=s++[k]) (a:=u) (b:=y) (by omega) (iG.2 _ q6).2 (gU.2 _ q5).2 (by omega) (by omega) hB (by omega) o hm
  ·have q9:∀c:Bool,∀o∈(if c=true then ([]:List dX) else [(2,s,b)]),iE d x B P o:=fun c o ho=>by
    cases c with
    | true=>simp at ho
    | false=>
     have e:o=(2,s,b):=by simpa using ho
     subst e;refine⟨by show 2<3;decide,?_,by grind⟩;show G8 s<=P;omega
   by_cases q4:∃xs y ys z,a=.slice xs y/\b=.slice ys z
   ·obtain⟨xs,y,ys,z,rfl,rfl⟩:=q4;have e1:=DJ f xs y;have e2:=DJ f ys z;show ∀o∈(if ((xs.length:Int)+1)*((ys.length:Int)+1)<=n then B6 s xs ys else if veq (.slice xs y) (.slice ys z)=true then [] else [(2,s,.slice ys z)]),iE d x B P o;split
    ·exact UU hlv (fun e he=>⟨aV hb e he,by have h3:dT f e<=dT (f+1) (.slice ys z):=SG he;omega⟩) (by omega) (by omega) (by omega)
    simp_all
   ·have e:A9 n (f+1) s a b=if veq a b=true then [] else [(2,s,b)]:=by
     cases a<;>cases b<;>first|rfl|exact absurd ⟨rfl,rfl⟩ hob|exact absurd ⟨_,_,_,_,rfl,rfl⟩ q4
    simp_all
end
def lst(x y z:Nat):Array Bool:=#[decide (1<=x),decide (1<=y),decide (2<=y),decide (3<=y),decide (4<=y),decide (1<=z),decide (2<=z),decide (3<=z),false,false,false,false]
def rdy(x y z:Nat):List Nat:=(if x<1 then [0] else [])++((if y<4 then [1+y] else [])++(if z<3 then [5+z] else []))
def MJ(ops:Array Oper):Bool:=(Bs 2).all fun x=>(Bs 5).all fun y=>(Bs 4).all fun z=>(y==4 && z==3) || (CR .any ops (lst x y z)==rdy x y z)
theorem bV(y z:Nat):(lst 0 y z).setIfInBounds 0 true=lst 1 y z:=rfl
theorem bU{x y z:Nat}(h:y<4):(lst x y z).setIfInBounds (1+y) true=lst x (y+1) z:=by
 match y,h with
 | 0,_=>rfl
 | 1,_=>rfl
 | 2,_=>rfl
 | 3,_=>rfl
theorem bT{x y z:Nat}(h:z<3):(lst x y z).setIfInBounds (5+z) true=lst x y (z+1):=by
 match z,h with
 | 0,_=>rfl
 | 1,_=>rfl
 | 2,_=>rfl
theorem Zh{F:Fence}{n:Nat}{P:Program}{ops:Array Oper}{Q:Exit->Act->AS->Prop}(A:Nat->Nat->Nat->Act)(W:Nat->AS)(hd:MJ ops=true)(h0:∀y z (K:Act->AS->Prop),y<=4->z<=3->K (A 1 y z) (W z)->wpOpIn F n P ops Q 0 K (A 0 y z) (W z))(h1:∀x y z (K:Act->AS->Prop),x<=1->y<4->z<=3->K (A x (y+1) z) (W z)->wpOpIn F n P ops Q (1+y) K (A x y z) (W z))(h5:∀x y z (K:Act->AS->Prop),x<=1->y<=4->z<3->K (A x y (z+1)) (W (z+1))->wpOpIn F n P ops Q (5+z) K (A x y z) (W z))(hl:A6 F n P .any ops Q 4 (lst 1 4 3) (A 1 4 3) (W 3))(hl0:A6 F n P .any ops Q 4 (lst 1 4 3) (A 1 4 3) (W 3)->A6 F n P .any ops Q 5 (lst 0 4 3) (A 0 4 3) (W 3)):A6 F n P .any ops Q 12 (lst 0 0 0) (A 0 0 0) (W 0):=by
 suffices H:∀m x y z,x<=1->y<=4->z<=3->x+y+z+m=8->A6 F n P .any ops Q (m+4) (lst x y z) (A x y z) (W z) from (by grind)
 intro m;induction m with
 | zero=>
  intro x y z hx hy hz e;obtain rfl:x=1:=by omega
  obtain rfl:y=4:=by omega
  obtain rfl:z=3:=by omega
  exact hl
 | succ m ih=>
  intro x y z hx hy hz e;by_cases q4:y=4/\z=3
  ·obtain⟨rfl,rfl⟩:=q4;obtain rfl:x=0:=by omega
   obtain rfl:m=0:=by omega
   exact hl0 hl
  have hr:CR .any ops (lst x y z)=rdy x y z:=by
   unfold MJ at hd;have h2:=A5.1 hd x (by simp;omega);have h3:=A5.1 h2 y (by simp;omega)
   grind
  have hne:rdy x y z≠[]:=by
   unfold rdy;intro h;rw[A2,A2] at h
   grind
  have e4:m+1+4=(m+4)+1:=by omega
  rw[e4];refine wpAnyIn_ready hr hne ?_;intro i hi;unfold rdy at hi;rcases AT.1 hi with hi|hi
  ·split at hi
   ·obtain rfl:i=0:=by grind
    obtain rfl:x=0:=by omega
    refine h0 y z _ hy hz ?_;rw[bV];exact (by grind)
   ·cases hi
  ·rcases AT.1 hi with hi|hi
   ·split at hi
    ·rename_i q0;obtain rfl:i=1+y:=by grind
     refine h1 x y z _ hx q0 hz ?_;rw[bU q0];exact (by grind)
    ·cases hi
   ·split at hi
    ·rename_i hz3;obtain rfl:i=5+z:=by grind
     refine h5 x y z _ hx hy hz3 ?_;rw[bT hz3];exact (by grind)
    ·cases hi
section
attribute [local go_sem] A3 CO
theorem FI{l:Nat}{w:AS}{o:Oper}{a:Act}{K:Act->AS->Prop}{Q:Exit->Act->AS->Prop}(s x:Operand)(t:TypeId)(ho:o.op=.call { callee:=.builtin .append,args:=#[s,x],argTypes:=#[t,t] })(base:Nat)(e:TypeId)(i:TypeInfo)(z:AI)(size bytes:Nat)(ht:Tryz.prog.underlying t=some (.slice e))(hi:Tryz.prog.info? e=some i)(hz:i.zero=some z)(q7:i.size=size)(qb:i.bytes=bytes)(qd:z.cells.size=size)(hsz:0<size)(v:AI)(n:Nat)(xs:List AI)(hs:a.eval s=v)(q8:w.ownsRow base e size v n xs)(ad:Addr)(m c:Nat)(q0:List AI)(hx:a.eval x=.slice (some ad) m c)(hl:q0.length=m*size)(q6:∀j u,q0[j]? = some u->w.cell? (ad.add j)=some u)(h1:∀u∈q0,u.oneCell'=true)(hm:0<m)(q9:n+m<=maxLen)(q4:(n+m)*bytes<=140737488355328)(q5:base<=w.heap.size)(H:Nat)(hH:w.heap.size=H)(h:∀g cap w',w'.ownsRow base e size (.slice (some ⟨g,0,none⟩) (n+m) cap) (n+m) (xs++q0)->w.grownBy w' v.ownBlock->(v.ownBlock=some g\/g=H)->g<w'.heap.size->K (a.put o.dst (.slice (some ⟨g,0,none⟩) (n+m) cap)) w'):
  Oper.wpIn (Fence.wide.inRound l) 0 Tryz.prog o a w K Q:=by
 obtain⟨g,cap,w',hr,h2,h3,h4,h5⟩:=run_append_lies (P:=Tryz.prog) (w:=w) t o.type base e i z size bytes ht hi hz q7 qb qd hsz v n xs q8 ad m c q0 hl q6 h1 hm q9 q4 q5 H hH;refine⟨fun f _=>trivial,?_⟩;rw[show (Fence.wide.inRound l).round=some l from rfl,A3 _ _ _ (by grind)];unfold execOp;simp only[ho,resolve,invoke,builtin,Sem.run_bind,Sem.run_pure,Result.andThen_ok,List.map_toArray,CD,List.map_nil,hs,hx,hr];exact h g cap w' h2 h3 h4 h5
theorem YE:(Tryz.prog.info? 178).map (fun i=>(i.zero.map (fun z=>z.cells.size),i.size,i.bytes))=some (some 4,4,64):=by kernel_rfl
theorem JP:∃i z,Tryz.prog.info? 178=some i/\i.zero=some z/\z.cells.size=4/\i.size=4/\i.bytes=64:=by
 obtain⟨i,hi,h⟩:=Option.map_eq_some_iff.1 YE
 simp_all
def pk(n k:Nat)(v:AI):AI:=if k<=n then v else undef
def wz(z:Nat)(w1 w2:AS):AS:=if 3<=z then w2 else w1
def Gt(c:Nat->AI)(N:Nat):Nat->List AI
 | 0=>[]
 | k+1=>Gt c N k++[c ((N-1-k)*5+1),c ((N-1-k)*5+2),c ((N-1-k)*5+3),c ((N-1-k)*5+4)]
theorem Dc.snoc{w:AS}{G:Nat->Prop}{kv pv fv vv:AI}{o:dX}(ho:Fp w G kv pv fv vv o):∀ {xs:List AI} {js:List dX},Dc w G xs js->Dc w G (xs++[kv,pv,fv,vv]) (js++[o])
 | [],[],_=>⟨ho,trivial⟩
 | _::_::_::_::_,_::_,⟨a,b⟩=>⟨a,Dc.snoc ho b⟩
structure DX(w wB:AS)(D g N B:Nat)(rv jn:AI)(ch:Bool)(c:Nat->AI)(k:Nat)(W:AS):Prop where
 bx:W.heap[w.heap.size]? = wB.heap[w.heap.size]?
 box:W.heap[w.heap.size+1]? = wB.heap[w.heap.size+1]?
 row:0<N->W.heap[g]? = w.heap[g]?
 os:W.os=w.os
 tape:W.tape=w.tape
 output:W.output=w.output
 size:B<=W.heap.size
 old:∀j,j<w.heap.size->j≠D->W.heap[j]? = w.heap[j]?
 doc:∃iv,DB W D rv jn ch iv/\W.ownsRow 0 178 4 iv k (Gt c N k) /\ ∀q,iv.ownBlock=some q->w.heap.size+2<=q/\q≠B/\q≠B+1
structure NF(w wB:AS)(D g N B:Nat)(rv jn:AI)(ch:Bool)(c:Nat->AI)(E:Array AI)(k X:Nat)(W:AS):Prop where
 inv:DX w wB D g N B rv jn ch c k W
 ne:w.heap.size+2<=X/\X≠B/\X≠B+1
 blk:W.heap[X]? = some (.cells E 230 (0,0))
 far:∀q iv,DB W D rv jn ch iv->iv.ownBlock=some q->q≠X
section
variable{w wB:AS}{D g N B:Nat}{rv jn:AI}{ch:Bool}{c:Nat->AI}
theorem DX.apart(hB:B=w.heap.size+2)(hD:D<w.heap.size)(hg:0<N->g<w.heap.size)(k:Nat):DU B (DX w wB D g N B rv jn ch c k):=by
 intro W W' h e1 e2 e3 e4 e5;have hs:=h.size;obtain⟨iv,h1,h2,h3⟩:=h.doc;refine⟨(e5 _ (by omega) (by omega) (by omega)).trans h.bx,(e5 _ (by omega) (by omega) (by omega)).trans h.box,fun hN=>(e5 g (by omega) (by omega) (by omega)).trans (h.row hN),e1.trans h.os,e2.trans h.tape,e3.trans h.output,Nat.le_trans hs e4,fun j hj hne=>(e5 j (by omega) (by omega) (by omega)).trans (h.old j hj hne),iv,h1.kept (by grind),AC h2 fun q hq=>e5 q (AA h2 q hq).1 (h3 q hq).2.1 (h3 q hq).2.2,h3⟩
theorem NF.apart{E:Array AI}(hB:B=w.heap.size+2)(hD:D<w.heap.size)(hg:0<N->g<w.heap.size)(k X:Nat):DU B (NF w wB D g N B rv jn ch c E k X):=by
 intro W W' h e1 e2 e3 e4 e5;have hs:=h.inv.size;refine⟨DX.apart hB hD hg k W W' h.inv e1 e2 e3 e4 e5,h.ne,(e5 X (Array.getElem?_eq_some_iff.1 h.blk).1 h.ne.2.1 h.ne.2.2).trans h.blk,fun q iv h1 h2=>h.far q iv (h1.kept (by grind)) h2⟩
theorem DB.iv{iv q0:AI}(h:DB W D rv jn ch iv)(h':DB W D rv jn ch q0):iv=q0:=by
 have e:=(show W.heap[D]? = _ from h).symm.trans (show W.heap[D]? = _ from h');injection e with e;injection e with e;simp at e;exact e
end
end
section
attribute [local go_sem] A3 CO
section
variable{w wB:AS}{D g N B:Nat}{rv jn iv:AI}{ch:Bool}{c:Nat->AI}
theorem DB.set3(h:DB W D rv jn ch iv)(v:AI):DB (W.setCell ⟨D,3,none⟩ v) D rv jn ch v:=by
 simp only[DB,CH,Array.getElem?_modify];rw[if_pos trivial,show W.heap[D]? = _ from h];rfl
theorem DX.turn{k q cap:Nat}{W2 W3:AS}(hB:B=w.heap.size+2)(hD:D<w.heap.size)(hg:0<N->g<w.heap.size/\g≠D)(hl:B+1<W.heap.size)(h:DX w wB D g N B rv jn ch c k W)(q6:DB W D rv jn ch iv)(h2:Below W.heap.size W W2)(ho:W3.ownsRow 0 178 4 (.slice (some ⟨q,0,none⟩) (k+1) cap) (k+1) (Gt c N k++[c ((N-1-k)*5+1),c ((N-1-k)*5+2),c ((N-1-k)*5+3),c ((N-1-k)*5+4)]))(q4:W2.grownBy W3 iv.ownBlock)(q7:iv.ownBlock=some q\/W.heap.size<=q):
  Two B W (W3.setCell ⟨D,3,none⟩ (.slice (some ⟨q,0,none⟩) (k+1) cap))/\DX w wB D g N B rv jn ch c (k+1) (W3.setCell ⟨D,3,none⟩ (.slice (some ⟨q,0,none⟩) (k+1) cap)):=by
 have hs:=h.size;have hs2:=h2.size;have q8:=q4.size;obtain⟨q9,d1,d2,d3⟩:=h.doc;obtain rfl:=q6.iv d1;have keep:∀j,j<W.heap.size->iv.ownBlock≠some j->W3.heap[j]? = W.heap[j]?:=fun j hj hne=>(q4.block j (by omega) (fun e=>hne e.symm)).trans (h2.block j hj);have far:∀j,(j<w.heap.size+2\/j=B\/j=B+1)->iv.ownBlock≠some j:=by grind
 have q5:∀j,j≠D->(W3.setCell ⟨D,3,none⟩ (.slice (some ⟨q,0,none⟩) (k+1) cap)).heap[j]? = W3.heap[j]?:=fun j hj=>Below.heap_setCell _ _ _ _ hj;have hq:w.heap.size+2<=q/\q≠B/\q≠B+1:=by
  grind
 have q0:∀j,j<W.heap.size->(j<w.heap.size+2\/j=B\/j=B+1)->j≠D->(W3.setCell ⟨D,3,none⟩ (.slice (some ⟨q,0,none⟩) (k+1) cap)).heap[j]? = W.heap[j]?:=by grind
 refine⟨⟨by grind,by grind⟩,(q0 _ (by omega) (by omega) (by omega)).trans h.bx,(q0 _ (by omega) (by omega) (by omega)).trans h.box,fun hN=>?_,?_,?_,?_,?_,fun j hj hne=>(q0 j (by omega) (by omega) hne).trans (h.old j hj hne),.slice (some ⟨q,0,none⟩) (k+1) cap,?_,?_,?_⟩
 ·obtain⟨g1,g2⟩:=hg hN;exact (q0 g (by omega) (by omega) g2).trans (h.row hN)
 ·exact q4.os.trans (h2.os.trans h.os)
 ·exact q4.tape.trans (h2.tape.trans h.tape)
 ·exact q4.output.trans (h2.output.trans h.output)
 ·grind
 ·exact (d1.kept (by grind)).set3 _
 ·exact AC ho fun j hj=>q5 j (by simp[BY] at hj;omega)
 grind [BY,CH]
end
end
end Go.Proofs.YtdpomdelmdofmaaGreatDoor
