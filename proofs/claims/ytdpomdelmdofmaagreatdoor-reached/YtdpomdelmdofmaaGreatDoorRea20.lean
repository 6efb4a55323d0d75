import Derived.Laws.MakeOwn
import Derived.Laws.OwnMore
import Derived.Test.YtdpomdelmdofmaaGreatDoorRea19
open Go.Proofs.Tryz renaming prog->AI
open Go.Maps renaming has->AS,Canon->BY,has_true_of_atKey->F2
open Go.DataW renaming map->AT,held->HE
open Go renaming DataW->A1,World->A2,madeCells->Dt,Value->D1,wpList_next_ranges->FD,Calls->F1,wpList_range_own->F5,maxLen->G2
open Go.Value renaming pointer->A3
open Go.RowKit renaming Below->A4
open Nat renaming le_refl->A5
open List renaming any_eq_true->A6,mem_map->CH,take_succ_eq_append_getElem->CL,replicate->D0,take_of_length_le->E0,nodup_cons->G0
open Go.RowKit.Below renaming heap_alloc->Bs,heap_setCell->CD,refl->DD
open Go.WideAt renaming sameKey_eq->CR,sameKey_self->Dp,atKey_mem->D3
open Go.World renaming cell?_of_block->C2
open Int renaming le_refl->Ft
open Option.some renaming inj->F7
open Go.Instr renaming makeMap->G3
set_option maxHeartbeats 8000000
set_option maxRecDepth 100000
namespace Go.Proofs.YtdpomdelmdofmaaGreatDoor
open Go.Proofs.Tryz Go.RowKit Go.Maps
variable{es:List (Lit×To)}{sl u:D1}{f m n cnt:Nat}{F:Nat->Prop}{D:List (Lit×A1 D1)}{wr:A2}{left:Lit->Bool}
theorem EP:∀l,0<=BR l
 | []=>Ft _
 | x::r=>by have:=EP r;grind [BR]
theorem MV(x:Int):∀l,BR (l++[x])=max (BR l) x
 | []=>by simp only[List.nil_append,BR];omega
 | y::r=>by have:=MV x r;simp only[List.cons_append,BR];omega
theorem Em{m:Int}(h0:0<=m):∀ {l:List Int},(∀x∈l,x<=m)->BR l<=m
 | [],_=>h0
 | x::r,h=>by
  have h1:=h x (by simp);have h2:=Em h0 (l:=r) (fun y hy=>h y (by simp[hy]))
  grind [BR]
theorem Jl{x:Int}:∀ {l:List Int},x∈l->x<=BR l
 | y::r,h=>by
  rcases List.mem_cons.1 h with rfl|h
  ·grind [BR]
  ·have:=Jl h;grind [BR]
theorem Q6(f:Nat)(es:List To):eQ (f+1) (Af es)=1+BR (es.map (eQ f)):=rfl
theorem Q5(f:Nat)(es:List (Lit×To)):eQ (f+1) (Ap es)=1+BR (es.map fun p=>eQ f p.2):=rfl
theorem K9:∀ (f:Nat) (d:To),0<=eQ f d/\eQ f d<=f
 | 0,_=>⟨Ft _,Ft _⟩
 | f+1,d=>by
  unfold eQ;split
  ·rename_i es _;have h1:=EP (es.map (eQ f));have h2:=Em (m:=f) (by omega) (l:=es.map (eQ f)) (fun x hx=>by
    obtain⟨y,_,rfl⟩:=CH.1 hx;exact (K9 f y).2)
   omega
  ·rename_i es;have h1:=EP (es.map fun p=>eQ f p.2);have h2:=Em (m:=f) (by omega) (l:=es.map fun p=>eQ f p.2) (fun x hx=>by
    obtain⟨y,_,rfl⟩:=CH.1 hx;exact (K9 f y.2).2)
   omega
  ·omega
theorem Pl{k:Lit}(h:AS (.map es:A1 Unit) k=true):∃p∈es,(AT es).atKey k .nil=p.2:=by
 rw[B2];cases hf:es.find? (fun p=>p.1.sameKey k) with
 | none=>
  obtain⟨p,hp,hs⟩:=A6.1 (show es.any (fun p=>p.1.sameKey k)=true from h)
  grind
 | some p=>grind
theorem aX(c:BY (.map es:A1 Unit)){P:To->Prop}(h:∀k,AS (.map es:A1 Unit) k=true->P ((AT es).atKey k .nil)):∀p∈es,P p.2:=by
 obtain⟨_,he,hp,hk⟩:=c;injection he with he;subst he;intro p q0;have h1:=h p.1 (A6.2 ⟨p,q0,Dp (hk p q0)⟩)
 rwa [D3 .nil (hk p q0) (apart_of_rising hp) (by omega)] at h1
def Ll(f:Nat):Prop:=∀ (F:Nat->Prop) (w:A2) (v:D1) (a:To),Rep f F w v a->F1 AI 157 #[v] w fun e w'=>e=.returned (.int .i64 (eQ f a))/\A4 w.heap.size w w'
section
variable{w:A2}{b:Nat}
theorem J6{k:Int}{n:Nm}{s:By}{mp:D1}(h:VB w b k n s sl mp)(h5:k≠5)(h6:k≠6):
  F1 AI 157 #[.pointer (some ⟨b,0,none⟩)] w fun e w'=>e=.returned (.int .i64 1)/\A4 w.heap.size w w':=by
 have c0:=h.c0;have e5:(k==5)=false:=beq_eq_false_iff_ne.2 h5;have e6:(k==6)=false:=beq_eq_false_iff_ne.2 h6;clear h h5 h6
 go_enter func157,ntmps157
 go_wp2_with (fail)
 go_ret;exact⟨rfl,DD _ _⟩
theorem U0(hS:Ll f)(hf:f<=5000){ps:List D1}{es:List To}(h:VB w b 5 n0 [] sl (.map none))(ho:w.ownsRow 0 80 1 sl ps.length ps)(ha:Al (Rep f F w) ps es):
  F1 AI 157 #[.pointer (some ⟨b,0,none⟩)] w fun e w'=>e=.returned (.int .i64 (1+BR (es.map (eQ f))))/\A4 w.heap.size w w':=by
 have c0:=h.c0;have c5:=h.c5;have hl:=ha.length;have q5:=D6 ho;obtain⟨N,hN⟩:∃N,N=ps.length:=⟨_,rfl⟩
 have qb:(N:Int)<=9223372036854775807:=by unfold G2 at q5;omega
 by_cases h0:N=0
 ·obtain⟨a,c,rfl⟩:=It ho (by omega);have e1:es=[]:=by grind
  subst e1;clear h ho ha hl hS hN q5
  go_enter func157,ntmps157
  go_wp2_with (fail);refine wp_loop_rounds 1 ?_
  rw[rounds_succ]
  go_wp2_with (fail)
  go_ret;exact⟨rfl,DD _ _⟩
 ·obtain⟨g1,p1,rfl,a1,b1,l1,q6⟩:=Bm ho (by omega);have q8:=Ab q6;have HA:=Ab ha;have HS:=Ab hS;have HN:=Ab hN;have HL:=Ab hl;have HF:=Ab hf;rw[<- hN] at a1 c5;clear h ho ha hl hS hN q6 h0 q5 hf
  go_enter func157,ntmps157
  go_wp2_with (fail)
  go_loopw [3,19] (fun dv i wr=>∃k:Nat,k<=N/\i=.int .i64 k/\dv=.int .i64 (BR ((es.map (eQ f)).take k))/\A4 w.heap.size w wr) (fun _ i _=>N-(intOf i).toNat)
  case atStart=>exact⟨0,by omega,rfl,rfl,DD _ _⟩
  case round=>
   obtain⟨k,hk,rfl,rfl,hb⟩:=hrel;have HB:=Ab hb;by_cases hlt:k<N
   ·have h1:k<ps.length:=by have:=Aa HN;omega
    have h3:k<es.length:=by have:=Aa HL;omega
    have q1:=(hb.cell (p:=⟨g1,k,none⟩) l1).trans (Aa q8 k h1);have q0:=Ab (Aa HS F wr ps[k] es[k] (((Aa HA).get k h1 h3).bel hb));have q9:=Ab (show BR ((es.map (eQ f)).take (k+1))=max (BR ((es.map (eQ f)).take k)) (eQ f es[k]) from by
     rw[CL (by grind),MV,List.getElem_map])
    generalize ps[k]=pk at *;generalize BR ((es.map (eQ f)).take k)=M at *;generalize eQ f es[k]=x at *;clear hb
    go_wp2_with (fail);refine (Aa q0).mono ?_
    rintro e w2 ⟨rfl,hb2⟩;have q7:=Ab ((Aa HB).trans (hb2.mono (Aa HB).size));clear hb2 q0
    go_wp2_with (fail);exact⟨⟨k+1,by omega,by go_num,by rw[Aa q9],Aa q7⟩,by simp only[intOf];omega⟩
   ·have q4:(es.map (eQ f)).take k=es.map (eQ f):=E0 (by have:=Aa HN;have:=Aa HL;grind);rw[q4];have m1:=EP (es.map (eQ f));have m2:BR (es.map (eQ f))<=5000:=Em (by omega) (fun x hx=>by
     obtain⟨y,_,rfl⟩:=CH.1 hx;have:=(K9 f y).2;have:=Aa HF;omega)
    obtain⟨M,hM⟩:∃M,M=BR (es.map (eQ f)):=⟨_,rfl⟩
    rw[<- hM] at m1 m2 |-;have HM:=Ab hM;clear q4 hM
    go_wp2_with (fail)
    go_ret;exact⟨by rw[<- Aa HM];rfl,hb⟩
theorem UZ(hS:Ll f)(hf:f<=5000)(h:VB w b 6 n0 [] (.slice none 0 0) (.map (some m)))(ho:w.ownsMap AI 9 RV m n (.map D))(hp:Pt (Rep f F w) D es):
  F1 AI 157 #[.pointer (some ⟨b,0,none⟩)] w fun e w'=>e=.returned (.int .i64 (1+BR (es.map fun p=>eQ f p.2)))/\A4 w.heap.size w w':=by
 have qd:=BE;have qu:=B3;have c0:=h.c0;have c6:=h.c6;have C1:=Ab (hp.canon (ho.canon qd));have HP:=Ab hp;have HS:=Ab hS;have HF:=Ab hf;clear hp hS h hf
 go_enter func157,ntmps157
 go_wp2_with (first
  | (at_range;refine F5 _ rfl _ 109 rfl 9 80 qd underlying109 RV m n _ rfl ho ?_;intro w0 qe qn qv)
  | go_in)
 go_frame
 go_loopw [3] (fun dv wr=>∃ (left:Lit->Bool) (cnt:Nat) (M:Int),dv=.int .i64 M/\0<=M/\M<=BR (es.map fun p=>eQ f p.2)/\wr.ranges AI 9 RV m w.heap.size n (.map D) left cnt/\w.grownBy wr none /\
   Hid (∀k,AS (.map es:A1 Unit) k=true->left k=false->eQ f ((AT es).atKey k .nil)<=M))
  (fun _ wr=>wr.rangeLeft m w.heap.size)
 case atStart=>
  refine⟨_,_,0,rfl,Ft _,EP _,qe,qn,?_⟩;intro k hk hl;rw[(Aa HP).has k,hk] at hl;cases hl
 case round=>
  obtain⟨left,cnt,M,rfl,qm,qg,qk,qi,G⟩:=hrel;have q9:=Ab qg;clear qg
  go_wp2_with (first
   | (at_next;refine FD _ rfl _ rfl 9 qd RV id id (fun key _ _=>⟨key,rfl⟩) (fun v _ _=>⟨v,rfl⟩) m w.heap.size n _ _ _ rfl qk ?_ ?_)
   | go_in)
  ·intro _ hl0;have HV:=Ab (show M=BR (es.map fun p=>eQ f p.2) from Int.le_antisymm (Aa q9) (Em qm (fun x hx=>by
    obtain⟨p,qj,rfl⟩:=CH.1 hx;exact aX (Aa C1) (P:=fun d=>eQ f d<=M) (fun k hk=>Aa G k hk (hl0 k)) p qj)))
   have m2:M<=5000:=by
    have h1:=Aa q9;have h2:BR (es.map fun p=>eQ f p.2)<=5000:=Em (by omega) (fun x hx=>by
     obtain⟨y,_,rfl⟩:=CH.1 hx;have:=(K9 f y.2).2;have:=Aa HF;omega)
    omega
   go_wp2_with (fail)
   go_ret;exact⟨by rw[<- Aa HV];rfl,BJ qi⟩
  ·intro x c kl yd yp w1 cnt1 qp qt hv qh qf hlt qo qw qr;have q6:w.grownBy w1 none:=qi.andThen qo (by grind);have qq:HE c=yd:=congrArg Prod.fst (F7 hv);subst qq;have q4:AS (.map D) kl=true:=F2 qh
   obtain⟨c',e1,q7⟩:=(Aa HP).at kl q4;have e2:c'=c:=by
    simp_all
   subst e2;have q5:AS (.map es:A1 Unit) kl=true:=by rw[<- (Aa HP).has kl];exact q4
   have q0:=Ab (Aa HS F w1 c' _ (q7.bel (BJ q6)));have HX:=Ab (show eQ f ((AT es).atKey kl .nil)<=BR (es.map fun p=>eQ f p.2) from by
    obtain⟨p,qj,e⟩:=Pl q5;rw[e];exact Jl (by grind))
   obtain⟨y,hy⟩:∃y,y=eQ f ((AT es).atKey kl .nil):=⟨_,rfl⟩
   rw[<- hy] at q0 HX;have HY:=Ab hy;clear qh q7 q5 e1 q4 hv hy
   go_wp2_with (fail);refine (Aa q0).mono ?_
   rintro e w2 ⟨rfl,hb2⟩
   go_wp2_with (fail);have q8:=qf.kept (Bh hb2) (by simp) (by simp)
   have qb:=q6.andThen (Bh hb2) (fun j hj=>by cases hj)
   go_roundw
   case rel=>
    refine⟨_,cnt1,max M y,rfl,by omega,by have:=Aa q9;have:=Aa HX;omega,q8,qb,?_⟩;intro k hk hl;cases h4:left k
    ·have:=Aa G k hk h4;omega
    ·have h5:(left k && !k.sameKey kl)=false:=hl;rw[h4] at h5;have:k=kl:=CR (by grind);subst this;have:=Aa HY;omega
   case measure=>rw[q8.left_eq,qk.left_eq];exact hlt
end
theorem Xg(hS:Ll f)(hf:f<=5000):Ll (f+1):=by
 intro F w v a ha;obtain⟨p,rfl,_,ha⟩:=ha;rcases ha with⟨k,hk,rfl,h⟩|⟨n,rfl,h,_⟩|⟨s,rfl,h⟩|⟨es,sl,ps,rfl,h,ho,_,hal⟩|⟨es,m,n,D,rfl,h,_,ho,hp⟩
 ·exact J6 h (by omega) (by omega)
 ·exact J6 h (by omega) (by omega)
 ·exact J6 h (by omega) (by omega)
 ·exact U0 hS hf h ho hal
 ·exact UZ hS hf h ho hp
theorem Ni:∀f,f<=5000->Ll f
 | 0,_=>fun _ _ _ _ h=>h.elim
 | f+1,h=>Xg (Ni f (by omega)) (by omega)
def GZ(f:Nat)(a:To):Prop:=∀ (F:Nat->Prop) (w:A2) (v:D1),Rep f F w v a->F1 AI 201 #[v] w fun e w'=>∃p,e=.returned (.pointer (some p))/\A4 w.heap.size w w'/\Tr f w.heap.size w' (.pointer (some p)) a
theorem VU(n:Nat)(hn:n*8<=281474976710656)(w:A2):(Instr.makeSlice 106 (.int .i64 n) (.int .i64 n)).run AI w=.ok (.slice (some ⟨w.heap.size,0,none⟩) n n) (w.alloc (.cells (Dt #[.pointer none] (n*1)) 80)):=by
 obtain⟨i,hi,h⟩:=Option.map_eq_some_iff.1 SF;injection h with h1 h2;injection h2 with h2 h3;have:=run_make (P:=AI) w 106 80 i _ underlying106 hi h1 .i64 .i64 n n (by omega) (by omega) (by grind) (by omega)
 grind [Value.cells]
section
variable{w:A2}{b:Nat}
theorem Hu{k:Int}{n:Nm}{s:By}(h:VB w b k n s (.slice none 0 0) (.map none))(h5:k≠5)(h6:k≠6):
  F1 AI 201 #[.pointer (some ⟨b,0,none⟩)] w fun e w'=>e=.returned (.pointer (some ⟨w.heap.size,0,none⟩))/\A4 w.heap.size w w'/\VB w' w.heap.size k n s (.slice none 0 0) (.map none):=by
 have c0:=h.c0;have c1:=h.c1;have c2:=h.c2;have c3:=h.c3;have c4:=h.c4;have c5:=h.c5;have c6:=h.c6;have d0:∀o,(w.alloc o).cell? ⟨b,0,none⟩=some (.int .i64 k):=fun o=>(C2 (w:=w) (Bs w o b h.lt)).trans c0;have e5:(k==5)=false:=beq_eq_false_iff_ne.2 h5;have e6:(k==6)=false:=beq_eq_false_iff_ne.2 h6;clear h h5 h6
 go_enter func201,ntmps201
 go_wp2_with (fail)
 go_ret;exact⟨rfl,(DD _ _).alloc (A5 _) _,C3 _ _ _ rfl⟩
structure ClA(f N:Nat)(w:A2)(es:List To)(k:Nat)(wr:A2):Prop where
 bel:A4 w.heap.size w wr
 box:VB wr w.heap.size 5 n0 [] (.slice (some ⟨w.heap.size+1,0,none⟩) N N) (.map none)
 el:∃qs:List D1,qs.length=k/\wr.ownsRow (w.heap.size+1) 80 1 (.slice (some ⟨w.heap.size+1,0,none⟩) N N) N (qs++D0 (N-k) (.pointer none))/\TrL f (w.heap.size+1) (some (w.heap.size+1)) wr qs (es.take k)
theorem ClA.step{N k:Nat}{w w2:A2}{es:List To}{p:Addr}(h:ClA f N w es k wr)(hk:k<N)(q0:k<es.length)(hb:A4 wr.heap.size wr w2)(hv:Tr f wr.heap.size w2 (.pointer (some p)) es[k]):
  ClA f N w es (k+1) (w2.setCell ⟨w.heap.size+1,k,none⟩ (.pointer (some p))):=by
 obtain⟨qs,hq,ho,ht⟩:=h.el;have hlt:=Ay ho (w.heap.size+1) rfl;have q4:=Be ho (w':=w2) (fun g hg=>hb.block g (Ay ho g hg).1);have q5:=q4.stored k (.pointer (some p));have hs2:=hb.size;refine⟨?_,?_,qs++[.pointer (some p)],by simp[hq],?_,?_⟩
 ·refine ((h.bel.trans (hb.mono h.bel.size)).trans ⟨rfl,rfl,rfl,by simp[World.setCell],fun j hj=>CD _ _ _ _ (show j≠w.heap.size+1 by omega)⟩)
 ·exact (h.box.kept (hb.block _ h.box.lt)).kept (CD _ _ _ _ (show w.heap.size≠w.heap.size+1 by omega))
 ·have e:(qs++D0 (N-k) (A3 none)).set k (.pointer (some p))=qs++[.pointer (some p)]++D0 (N-(k+1)) (.pointer none):=by
   obtain⟨m,hm⟩:∃m,N-k=m+1:=⟨N-k-1,by omega⟩
   rw[hm,show N-(k+1)=m by omega,<- hq,List.set_append_right _ _ (A5 _)];simp[List.replicate_succ]
  rw[<- e];exact q5.1
 ·rw[CL q0];refine ht.snoc hv (by omega) ?_ ?_
  ·intro j h1 h2 h3;exact⟨(CD _ _ _ _ (show j≠w.heap.size+1 from fun e=>h2 (by rw[e]))).trans (hb.block j h3),h2⟩
  ·intro j h1 h2;exact⟨CD _ _ _ _ (show j≠w.heap.size+1 by omega),fun e=>by injection e;omega⟩
theorem ClA.done{N:Nat}{w:A2}{es:List To}(h:ClA f N w es N wr)(hn:N=es.length):Tr (f+1) w.heap.size wr (.pointer (some ⟨w.heap.size,0,none⟩)) (Af es):=by
 obtain⟨qs,hq,ho,ht⟩:=h.el;rw[Nat.sub_self,List.replicate_zero,List.append_nil] at ho;rw[E0 (by omega)] at ht;have q0:=IC ho (Nat.zero_le _);rw[show N=qs.length from hq.symm] at q0;have hb:=h.box;rw[show N=qs.length from hq.symm] at hb;exact TrL.arr (sl:=.slice (some ⟨w.heap.size+1,0,none⟩) qs.length qs.length) ht (A5 _) (by omega) hb q0 (fun g hg=>by
  have:g=w.heap.size+1:=by simpa[Value.ownBlock] using hg.symm
  omega)
theorem U9{ps:List D1}{es:List To}(hS:∀d∈es,GZ f d)(h:VB w b 5 n0 [] sl (.map none))(ho:w.ownsRow 0 80 1 sl ps.length ps)(ha:Al (Rep f F w) ps es)(qb:ps.length*8<=281474976710656):
  F1 AI 201 #[.pointer (some ⟨b,0,none⟩)] w fun e w'=>e=.returned (.pointer (some ⟨w.heap.size,0,none⟩))/\A4 w.heap.size w w'/\Tr (f+1) w.heap.size w' (.pointer (some ⟨w.heap.size,0,none⟩)) (Af es):=by
 have c0:=h.c0;have c1:=h.c1;have c2:=h.c2;have c3:=h.c3;have c4:=h.c4;have c5:=h.c5;have c6:=h.c6;have qf:=h.lt;have hl:=ha.length;obtain⟨N,hN⟩:∃N,N=ps.length:=⟨_,rfl⟩
 have qm:(N:Int)<=9223372036854775807:=by omega
 rw[<- hN] at qb;have qk:=VU N qb;have qe:N<=G2:=by unfold G2;omega
 have HL:=Ab (hN.trans hl);have old:∀ (o:Obj) (j:Nat),(w.alloc o).cell? ⟨b,j,none⟩=w.cell? ⟨b,j,none⟩:=fun o j=>C2 (w:=w) (Bs w o b qf);have d0:∀o,(w.alloc o).cell? ⟨b,0,none⟩=some (.int .i64 5):=by grind
 have d5:∀o,(w.alloc o).cell? ⟨b,5,none⟩=some sl:=by grind
 have q0:Hid (∀W,W=((w.alloc (.cells #[.int .i64 5,.bool false,.string ⟨#[]⟩,.int .i64 0,.string ⟨#[]⟩,.slice (some ⟨w.heap.size+1,0,none⟩) N N,.map none] 111)).alloc (.cells (Dt #[.pointer none] N) 80))->ClA f N w es 0 W):=by
  rintro W rfl;have e1:(w.alloc (.cells #[.int .i64 5,.bool false,.string ⟨#[]⟩,.int .i64 0,.string ⟨#[]⟩,.slice (some ⟨w.heap.size+1,0,none⟩) N N,.map none] 111)).heap.size=w.heap.size+1:=by simp
  have hb1:=heap_alloc_new w (.cells #[.int .i64 5,.bool false,.string ⟨#[]⟩,.int .i64 0,.string ⟨#[]⟩,.slice (some ⟨w.heap.size+1,0,none⟩) N N,.map none] 111);generalize hW:w.alloc (.cells #[.int .i64 5,.bool false,.string ⟨#[]⟩,.int .i64 0,.string ⟨#[]⟩,.slice (some ⟨w.heap.size+1,0,none⟩) N N,.map none] 111)=W1 at *;have q6:A4 w.heap.size w W1:=by rw[<- hW];exact (DD _ _).alloc (A5 _) _
  have qi:(Dt #[A3 none] N).size=N*1:=by simp[Dt]
  have q7:=World.ownsRow_lit (base:=w.heap.size+1) (e:=80) (size:=1) W1 (Dt #[.pointer none] N) N (by omega) qe qi;have hvb:VB W1 w.heap.size 5 n0 [] (.slice (some ⟨w.heap.size+1,0,none⟩) N N) (.map none):=hb1;rw[e1] at q7;refine⟨q6.alloc (by omega) _,hvb.kept (Bs W1 _ _ hvb.lt),[],rfl,?_,TrL.nil _ _ _ _⟩;have hx:(Dt #[A3 none] N).toList=[]++D0 (N-0) (A3 none):=by simp[Dt,Nat.mod_one,List.map_const']
  grind
 have q5:Hid (∀ (k:Nat) (h1:k<ps.length) (h3:k<es.length) (wr:A2),A4 w.heap.size w wr->F1 AI 201 #[ps[k]] wr fun e w'=>∃p,e=.returned (.pointer (some p))/\A4 wr.heap.size wr w'/\Tr f wr.heap.size w' (.pointer (some p)) es[k]):=
  Ab (fun k h1 h3 wr hb=>hS _ (List.getElem_mem h3) F wr ps[k] ((ha.get k h1 h3).bel hb))
 obtain⟨a,c,rfl⟩:=Cx ho;have HC:Hid (∀ (k:Nat) (h1:k<ps.length),∃g,a=some ⟨g,0,none⟩/\g<w.heap.size/\w.cell? ⟨g,k,none⟩=some ps[k]):=Ab (fun k h1=>by
  obtain⟨g1,p1,e,_,_,l1,q8⟩:=Bm ho (by omega)
  grind)
 rw[<- hN] at c5 d5;have HN:=Ab hN;clear h ho ha hS hl hN old
 go_enter func201,ntmps201
 go_wp2_with (fail)
 go_loopw [29] (fun i wr=>∃k:Nat,k<=N/\i=.int .i64 k/\Hid (ClA f N w es k wr)) (fun i _=>N-(intOf i).toNat)
 case atStart=>exact⟨0,by omega,rfl,Aa q0 _ rfl⟩
 case round=>
  obtain⟨k,hk,rfl,HI⟩:=hrel;by_cases hlt:k<N
  ·have h1:k<ps.length:=by have:=Aa HN;omega
   have h3:k<es.length:=by have:=Aa HL;omega
   obtain⟨g,rfl,qg,qh⟩:=Aa HC k h1;have q1:=((Aa HI).bel.cell (p:=⟨g,k,none⟩) qg).trans qh;have qV:=(Aa HI).box.c5;have q8:=Ab (Aa q5 k h1 h3);have q4:Hid (∀ (w2:A2) (p:Addr),A4 wr.heap.size wr w2->Tr f wr.heap.size w2 (.pointer (some p)) es[k]->ClA f N w es (k+1) (w2.setCell ⟨w.heap.size+1,k,none⟩ (.pointer (some p)))):=Ab (fun w2 p hb hv=>(Aa HI).step hlt h3 hb hv);have qd:Hid (∀w2,A4 wr.heap.size wr w2->w2.cell? ⟨w.heap.size,5,none⟩=some (.slice (some ⟨w.heap.size+1,0,none⟩) N N)/\w2.frozen? ⟨w.heap.size+1,k,none⟩=false /\ ∃u,w2.cell? ⟨w.heap.size+1,k,none⟩=some u):=Ab (fun w2 hb=>by
    obtain⟨qs,hq,ho,ht⟩:=(Aa HI).el;have q9:=Be ho (w':=w2) (fun g hg=>hb.block g (Ay ho g hg).1);refine⟨((Aa HI).box.kept (hb.block _ (Aa HI).box.lt)).c5,q9.frozenAt k,?_⟩;have h5:=q9.cellAt k (by omega)
    grind)
   have HB:=Ab (Aa HI).bel;generalize ps[k]=pk at *;clear HC
   go_wp2_with (fail)
   go_region_with (go_at_call 201;refine (Aa q8 _ ?_).mono ?_;exact⟨(Aa HB).os,(Aa HB).tape,(Aa HB).output,(Aa HB).size,(Aa HB).block⟩;rintro e w2 ⟨p,rfl,hb2,qj⟩;have hb3:A4 wr.heap.size wr w2:=⟨hb2.os,hb2.tape,hb2.output,hb2.size,hb2.block⟩;obtain⟨y1,y2,u,y3⟩:=Aa qd w2 hb3)
   all_goals (
    go_wp2_with (fail);exact⟨⟨k+1,by omega,by go_num,Aa q4 w2 p hb3 qj⟩,by simp only[intOf];omega⟩)
  ·have HD:=Ab (show Tr (f+1) w.heap.size wr (.pointer (some ⟨w.heap.size,0,none⟩)) (Af es) from (show ClA f N w es N wr from by have:=Aa HI;grind).done (Aa HL));have HB:=Ab (Aa HI).bel;clear HC
   go_wp2_with (fail)
   go_ret;exact⟨rfl,Aa HB,Aa HD⟩
end
theorem Wo(n:Nat)(w:A2):(G3 109 (some (.int .i64 n))).run AI w=.ok (.map (some w.heap.size)) (w.alloc (.map #[] 0)):=by
 simp[G3,run_underlying underlying109,asInt,asIntOf,Result.andThen]
theorem KB{es':List (Lit×To)}(c:BY (.map es:A1 Unit))(c':BY (.map es':A1 Unit))(h:∀k,AS (.map es:A1 Unit) k=true->AS (.map es':A1 Unit) k=true/\(AT es).atKey k .nil=(AT es').atKey k .nil):∀p∈es,p∈es':=by
 obtain⟨_,he,hp,hk⟩:=c;injection he with he;subst he;obtain⟨_,he,q7,q6⟩:=c';injection he with he;subst he;have q5:=apart_of_rising hp;have q0:=apart_of_rising q7;intro p q4;have h1:AS (.map es:A1 Unit) p.1=true:=A6.2 ⟨p,q4,Dp (hk p q4)⟩;obtain⟨h2,h3⟩:=h p.1 h1;obtain⟨q,hq,hs⟩:=A6.1 (show es'.any (fun q=>q.1.sameKey p.1)=true from h2);have e1:q.1=p.1:=CR hs;have e2:=D3 .nil (hk p q4) q5 (by omega);have e3:=D3 .nil (q6 q hq) q0 (by omega)
 grind
theorem Om{es':List (Lit×To)}(c:BY (.map es:A1 Unit))(c':BY (.map es':A1 Unit))(hh:∀k,AS (.map es:A1 Unit) k=AS (.map es':A1 Unit) k)(h:∀k,AS (.map es:A1 Unit) k=true->(AT es).atKey k .nil=(AT es').atKey k .nil):es=es':=by
 have s1:=KB c c' (by grind);have s2:=KB c' c (by grind);obtain⟨_,he,hp,_⟩:=c;injection he with he;subst he;obtain⟨_,he,q0,_⟩:=c';injection he with he;subst he;exact eq_of_mem_rising hp q0 (by grind)
theorem Jo(c:BY (.map es:A1 Unit)){k:Lit}(h:AS (.map es:A1 Unit) k=true):WideAt.IsKeyLit k:=by
 obtain⟨_,he,_,hk⟩:=c;injection he with he;subst he;obtain⟨p,hp,hs⟩:=A6.1 (show es.any (fun p=>p.1.sameKey k)=true from h);have:=hk p hp
 rwa [CR hs] at this
structure ClO(f:Nat)(w:A2)(es:List (Lit×To))(left:Lit->Bool)(cnt:Nat)(wr:A2):Prop where
 bel:A4 w.heap.size w wr
 box:VB wr w.heap.size 6 n0 [] (.slice none 0 0) (.map (some (w.heap.size+1)))
 sz:w.heap.size+3<=wr.heap.size
 el:∃n' D' es',n'+cnt<=es.length/\wr.ownsMap AI 9 RV (w.heap.size+1) n' (.map D')/\TrM f (w.heap.size+3) wr D' es' /\
  (∀k,AS (.map es':A1 Unit) k=(AS (.map es:A1 Unit) k && !left k))/\(∀k,AS (.map es':A1 Unit) k=true->(AT es').atKey k .nil=(AT es).atKey k .nil)
theorem ClO.next{w w1:A2}(h:ClO f w es left cnt wr)(hg:wr.grownBy w1 (some (w.heap.size+2))):ClO f w es left cnt w1:=by
 have hs:=h.sz;have q0:=hg.size;have hk:∀j,j<wr.heap.size->j≠w.heap.size+2->w1.heap[j]? = wr.heap[j]?:=fun j h1 h2=>hg.block j h1 (by grind);refine⟨⟨hg.os.trans h.bel.os,hg.tape.trans h.bel.tape,hg.output.trans h.bel.output,by omega,fun j hj=>(hk j (by omega) (by omega)).trans (h.bel.block j hj)⟩,h.box.kept (by grind),by omega,?_⟩;obtain⟨n',D',es',h1,h2,h3,h4,h5⟩:=h.el;exact⟨n',D',es',h1,An h2 (by grind),h3.move (by grind),h4,h5⟩
theorem ClO.step{cnt1:Nat}{w w1 w2:A2}(h:ClO f w es left cnt w1)(c:BY (.map es:A1 Unit))(hc:cnt1<cnt)(q9:es.length<G2){x:D1}{kl:Lit}(q0:keyOf AI 9 x=some kl)(hl:left kl=true)(hh:AS (.map es:A1 Unit) kl=true){p:Addr}(hb:A4 w1.heap.size w1 w2)(hv:Tr f w1.heap.size w2 (.pointer (some p)) ((AT es).atKey kl .nil)):
  w2.cell? ⟨w.heap.size,6,none⟩=some (.map (some (w.heap.size+1))) /\ ∃w3,(Instr.mapUpdate 109 (.map (some (w.heap.size+1))) x (.pointer (some p))).run AI w2=.ok () w3 /\
   ClO f w es (fun z=>left z && !z.sameKey kl) cnt1 w3/\w2.grownBy w3 (some (w.heap.size+1)):=by
 have hs:=h.sz;have hs2:=hb.size;refine⟨(h.box.kept (hb.block _ h.box.lt)).c6,?_⟩;obtain⟨n',D',es',h1,h2,h3,h4,h5⟩:=h.el;have q7:=An h2 (hb.block _ (Bg h2));obtain⟨w3,q4,q5,hg⟩:=q7.update BE underlying109 (by omega) q0 (val:=.pointer (some p)) (d:=.held (.pointer (some p))) (ps:=[]) rfl;have q8:=hg.size;have hk:∀j,j<w2.heap.size->j≠w.heap.size+1->w3.heap[j]? = w2.heap[j]?:=fun j h1 h2=>hg.block j h1 (by grind);refine⟨w3,q4,⟨⟨hg.os.trans (hb.os.trans h.bel.os),hg.tape.trans (hb.tape.trans h.bel.tape),hg.output.trans (hb.output.trans h.bel.output),by omega,fun j hj=>(hk j (by omega) (by omega)).trans ((hb.block j (by omega)).trans (h.bel.block j hj))⟩,
  (h.box.kept (hb.block _ h.box.lt)).kept (by grind),by omega,?_⟩,hg⟩
 have kk:=Jo c hh;obtain⟨D2,q6,e1,e2,ht⟩:=h3.put (k:=kl) (w6:=w3) hv (by omega) (fun j j1 j2=>(hk j (by omega) (by omega)).trans (hb.block j j2)) (by grind);rw[e1] at q5;refine⟨n'+1,D2,q6,by omega,q5,ht,?_,?_⟩
 ·intro k;rw[<- e2];by_cases hkk:k=kl
  ·subst hkk;rw[has_put_same ⟨_,rfl⟩ kk,hh,hl,Dp kk];rfl
  ·rw[has_put_other hkk,h4];have:k.sameKey kl=false:=by
    cases hx:k.sameKey kl
    ·rfl
    ·exact absurd (CR hx) hkk
   grind
 ·intro k;rw[<- e2];by_cases hkk:k=kl
  ·subst hkk;intro _;rw[atKey_put_same ⟨_,rfl⟩ kk]
  ·rw[has_put_other hkk,atKey_put_other hkk];exact h5 k
theorem ClO.done{w:A2}(h:ClO f w es left cnt wr)(c:BY (.map es:A1 Unit))(hl:∀k,left k=false):Tr (f+1) w.heap.size wr (.pointer (some ⟨w.heap.size,0,none⟩)) (Ap es):=by
 obtain⟨n',D',es',h1,h2,h3,h4,h5⟩:=h.el;have c':=h3.pt.canon (h2.canon BE);have e:es'=es:=Om c' c (by grind) h5;subst e;exact h3.obj (by omega) ⟨by omega,by omega⟩ (by omega) h.box h2
section
variable{w:A2}{b:Nat}
theorem U8(hS:∀k,AS (.map es:A1 Unit) k=true->GZ f ((AT es).atKey k .nil))(h:VB w b 6 n0 [] (.slice none 0 0) (.map (some m)))(ho:w.ownsMap AI 9 RV m n (.map D))(hp:Pt (Rep f F w) D es)(qk:es.length<G2):
  F1 AI 201 #[.pointer (some ⟨b,0,none⟩)] w fun e w'=>e=.returned (.pointer (some ⟨w.heap.size,0,none⟩))/\A4 w.heap.size w w'/\Tr (f+1) w.heap.size w' (.pointer (some ⟨w.heap.size,0,none⟩)) (Ap es):=by
 have qd:=BE;have z1:=B3;have qz:=Wo es.length;have c0:=h.c0;have c1:=h.c1;have c2:=h.c2;have c3:=h.c3;have c4:=h.c4;have c5:=h.c5;have c6:=h.c6;have qp:=h.lt;have qy:=Bg ho;have l1:=fun (o:Obj) ty=>(ho.alloc o).len (t:=109) underlying109 ty;have hl:=hp.size;have hsz:Maps.size (.map D:A1 D1)=es.length:=hl;have C1:=Ab (hp.canon (ho.canon qd));have qm:Hid (∀o1 o2,((w.alloc o1).alloc o2).ownsMap AI 9 RV m n (.map D)):=Ab (fun o1 o2=>(ho.alloc o1).alloc o2);have old:∀ (o:Obj) (j:Nat),(w.alloc o).cell? ⟨b,j,none⟩=w.cell? ⟨b,j,none⟩:=fun o j=>C2 (w:=w) (Bs w o b qp);have d0:∀o,(w.alloc o).cell? ⟨b,0,none⟩=some (.int .i64 6):=by grind
 have d6:∀o,(w.alloc o).cell? ⟨b,6,none⟩=some (.map (some m)):=by grind
 have q0:Hid (∀w0,((w.alloc (.cells #[.int .i64 6,.bool false,.string ⟨#[]⟩,.int .i64 0,.string ⟨#[]⟩,.slice none 0 0,.map (some (w.heap.size+1))] 111)).alloc (.map #[] 0)).grownBy w0 none->w0.heap.size=w.heap.size+3 ->
   ClO f w es (has (.map D:A1 D1)) (Maps.size (.map D:A1 D1)) w0):=by
  intro w0 hg hs;obtain⟨W1,hW⟩:∃W1,W1=w.alloc (.cells #[.int .i64 6,.bool false,.string ⟨#[]⟩,.int .i64 0,.string ⟨#[]⟩,.slice none 0 0,.map (some (w.heap.size+1))] 111):=⟨_,rfl⟩
  rw[<- hW] at hg;have e1:W1.heap.size=w.heap.size+1:=by simp_all
  have hvb:VB W1 w.heap.size 6 n0 [] (.slice none 0 0) (.map (some (w.heap.size+1))):=by rw[hW];exact heap_alloc_new w _
  have q9:A4 w.heap.size w W1:=by rw[hW];exact (DD _ _).alloc (A5 _) _
  have q4:=World.ownsMap_made W1 AI 9 RV;rw[e1] at q4;have hk:∀j,j<w.heap.size+2->w0.heap[j]? = (W1.alloc (.map #[] 0)).heap[j]?:=fun j hj=>hg.block j (by simp;omega) (by simp);have hb2:=q9.alloc (by omega) (.map #[] 0);refine⟨⟨hg.os.trans hb2.os,hg.tape.trans hb2.tape,hg.output.trans hb2.output,by omega,fun j hj=>(hk j (by omega)).trans (hb2.block j hj)⟩,
   (hvb.kept (Bs W1 _ _ hvb.lt)).kept (hk _ (by omega)),by omega,0,[],[],by omega,An q4 (hk _ (by omega)),TrM.nil _ _ _,?_,?_⟩
  ·intro k;rw[hp.has k];cases AS (.map es:A1 Unit) k<;>rfl
  ·intro k hk;cases hk
 have HP:=Ab hp;have HS:=Ab hS;have qn:=Ab qk;clear hp hS h ho qk old hl
 go_enter func201,ntmps201
 go_wp2_with (first
  | (at_range;refine F5 _ rfl _ 109 rfl 9 80 qd underlying109 RV m n _ rfl (Aa qm _ _) ?_;intro w0 qe qi qw)
  | go_in)
 have e0:(((w.alloc (.cells #[.int .i64 6,.bool false,.string ⟨#[]⟩,.int .i64 0,.string ⟨#[]⟩,.slice none 0 0,.map (some (w.heap.size+1))] 111)).alloc (.map #[] 0))).heap.size=w.heap.size+2:=by simp
 have hcl:=Ab (Aa q0 w0 qi (by omega));rw[e0] at qe;clear qi qw q0
 go_loopw [7] (fun _ wr=>∃ (left:Lit->Bool) (cnt:Nat),wr.ranges AI 9 RV m (w.heap.size+2) n (.map D) left cnt/\Hid (ClO f w es left cnt wr))
  (fun _ wr=>wr.rangeLeft m (w.heap.size+2))
 case atStart=>grind
 case round=>
  obtain⟨left,cnt,qj,G⟩:=hrel
  go_wp2_with (first
   | (at_next;refine FD _ rfl _ rfl 9 qd RV id id (fun key _ _=>⟨key,rfl⟩) (fun v _ _=>⟨v,rfl⟩) m (w.heap.size+2) n _ _ _ rfl qj ?_ ?_)
   | go_in)
  ·intro _ hl0;have HD:=Ab ((Aa G).done (Aa C1) hl0);have HB:=Ab (Aa G).bel
   go_wp2_with (fail)
   go_ret;exact⟨rfl,Aa HB,Aa HD⟩
  ·intro x c kl yd yp w1 cnt1 qb qu hv qh qf hlt qr z6 qx;have qg:HE c=yd:=congrArg Prod.fst (F7 hv);subst qg;have q5:AS (.map D) kl=true:=F2 qh
   obtain⟨c',e1,q7⟩:=(Aa HP).at kl q5;have e2:c'=c:=by
    simp_all
   subst e2;have q6:AS (.map es:A1 Unit) kl=true:=by rw[<- (Aa HP).has kl];exact q5
   have G1:=(Aa G).next qr;have qq:Hid (∀wx,A4 w.heap.size w wx->F1 AI 201 #[c'] wx fun e w'=>∃p,e=.returned (.pointer (some p))/\A4 wx.heap.size wx w'/\Tr f wx.heap.size w' (.pointer (some p)) ((AT es).atKey kl .nil)):=Ab (fun wx hb=>Aa HS kl q6 F wx c' (q7.bel hb));have qo:=Ab (fun (w2:A2) (p:Addr) (hb:A4 w1.heap.size w1 w2) (hv:Tr f w1.heap.size w2 (.pointer (some p)) ((AT es).atKey kl .nil))=>G1.step (Aa C1) hlt (Aa qn) qb qu q6 hb hv);have qV:=G1.box.c6;have HB:=Ab G1.bel;clear qh q7 q6 e1 q5 hv
   go_wp2_with (fail)
   go_region_with (go_at_call 201;refine (Aa qq _ ?_).mono ?_;exact⟨(Aa HB).os,(Aa HB).tape,(Aa HB).output,(Aa HB).size,(Aa HB).block⟩;rintro e w2 ⟨p,rfl,hb2,qg⟩;have hb3:A4 w1.heap.size w1 w2:=⟨hb2.os,hb2.tape,hb2.output,hb2.size,hb2.block⟩;obtain⟨y1,w3,qv,hcl,qt⟩:=Aa qo w2 p hb3 qg)
   all_goals (
    have q8:=(qf.kept (Bh hb3) (by simp) (by simp)).kept qt (by grind) (by grind)
    go_wp2_with (fail)
    go_roundw
    case rel=>exact⟨_,cnt1,q8,hcl⟩
    case measure=>rw[q8.left_eq,qj.left_eq];exact hlt)
end
def iN:Nat->To->Prop
 | 0,_=>True
 | f+1,d=>match d with
  | .slice es _=>es.length<=1000000000000 /\ ∀e∈es,iN f e
  | .map es=>es.length<=1000000000000 /\ ∀p∈es,iN f p.2
  | _=>True
theorem SC(hS:∀a,iN f a->GZ f a)(a:To)(hn:iN (f+1) a):GZ (f+1) a:=by
 intro F w v ha;obtain⟨b,rfl,_,ha⟩:=ha;rcases ha with⟨k,hk,rfl,h⟩|⟨n,rfl,h,q0⟩|⟨s,rfl,h⟩|⟨es,sl,ps,rfl,h,ho,_,hal⟩|⟨es,m,n,D,rfl,h,_,ho,hp⟩
 ·refine (Hu h (by omega) (by omega)).mono ?_;rintro e w' ⟨rfl,hb,hv⟩;exact⟨_,rfl,hb,Tr.leafW (A5 _) hk hv⟩
 ·refine (Hu h (by omega) (by omega)).mono ?_;rintro e w' ⟨rfl,hb,hv⟩;exact⟨_,rfl,hb,Tr.leafN (A5 _) hv q0⟩
 ·refine (Hu h (by omega) (by omega)).mono ?_;rintro e w' ⟨rfl,hb,hv⟩;exact⟨_,rfl,hb,Tr.leafS (A5 _) hv⟩
 ·obtain⟨n1,n2⟩:=hn;refine (U9 (by grind) h ho hal (by have:=hal.length;omega)).mono ?_
  grind
 ·obtain⟨n1,n2⟩:=hn;refine (U8 (fun k hk=>by
   obtain⟨p,q4,e⟩:=Pl hk
   grind) h ho hp (by unfold G2;omega)).mono ?_
  grind
theorem G6:∀ (f:Nat) (a:To),iN f a->GZ f a
 | 0,_,_=>fun _ _ _ h=>h.elim
 | f+1,a,hn=>SC (G6 f) a hn
def gD(n:dS):List Nat:=match n with
 | .agg [.lit (.int _ b),.lit (.int _ g),x]=>(match x with
  | .slice _ _=>b.toNat::(if g=0 then [] else [g.toNat])
  | .map _=>[b.toNat,g.toNat]
  | _=>[b.toNat])
 | _=>[]
theorem FC(b g:Nat)(al:List dS):gD (dW b g (.slice al []))=b::(if g=0 then [] else [g]):=by
 show (b:Int).toNat::(if (g:Int)=0 then [] else [(g:Int).toNat])=_
 grind
theorem FB(b g:Nat)(es:List (Lit×dS)):gD (dW b g (.map es))=[b,g]:=rfl
theorem Jg{f:Nat}{w:A2}:∀ {ps:List D1} {al:List dS},Al (Ad f w) ps al -> ∃l:List (Option Addr),ps=l.map A3/\l.length=al.length
 | [],[],_=>⟨[],rfl,rfl⟩
 | _::_,_::_,⟨h,t⟩=>by
  obtain⟨b,rfl,_⟩:=h.ptr;obtain⟨l,rfl,e⟩:=Jg t;exact⟨some ⟨b,0,none⟩::l,rfl,by simp[e]⟩
theorem Al.take{α β:Type}{P:α->β->Prop}:∀ {l:List α} {m:List β},Al P l m -> ∀i,Al P (l.take i) (m.take i)
 | [],[],_,_=>by grind
 | _::_,_::_,_,0=>trivial
 | _::_,_::_,⟨a,b⟩,i+1=>⟨a,Al.take b i⟩
theorem Al.drop{α β:Type}{P:α->β->Prop}:∀ {l:List α} {m:List β},Al P l m -> ∀i,Al P (l.drop i) (m.drop i)
 | [],[],_,_=>by grind
 | _::_,_::_,h,0=>h
 | _::_,_::_,⟨_,b⟩,i+1=>Al.drop b i
theorem Al.lins{α β:Type}{P:α->β->Prop}{l:List α}{m:List β}(h:Al P l m)(i:Nat){a:α}{b:β}(hab:P a b):Al P (fN i a l) (fN i b m):=Al.append (h.take i) ⟨hab,h.drop i⟩
theorem Al.ldel{α β:Type}{P:α->β->Prop}{l:List α}{m:List β}(h:Al P l m)(i:Nat):Al P (fC i l) (fC i m):=Al.append (h.take i) (h.drop (i+1))
theorem Al.set{α β:Type}{P:α->β->Prop}:∀ {l:List α} {m:List β},Al P l m -> ∀ (i:Nat) {a:α} {b:β},P a b->Al P (l.set i a) (m.set i b)
 | [],[],_,_,_,_,_=>trivial
 | _::_,_::_,⟨_,t⟩,0,_,_,h=>⟨h,t⟩
 | _::_,_::_,⟨h0,t⟩,i+1,_,_,h=>⟨h0,Al.set t i h⟩
theorem Wn{w:A2}(h:w.ownsMap AI 9 RV m n (.map D)):w.ownsMap AI 9 RV m D.length (.map D):=by
 obtain⟨es,q0,hb,F,hs,e⟩:=h;refine⟨es,q0,hb,F,?_,e⟩
 grind [length_read]
structure DM(f:Nat)(w w':A2)(u:D1)(n n':dS)(Z:Nat->Prop):Prop where
 tr:Ad (f+1) w' u n'
 nd:(fp (f+1) n').Nodup
 sub:∀k∈fp (f+1) n',k∈fp (f+1) n\/Z k\/w.heap.size<=k
 kept:Av (fun k=>k∈gD n) w w'
theorem ID{w:A2}{n:dS}(h:Ad (f+1) w u n):∀k∈gD n,k∈fp (f+1) n:=by
 obtain⟨b,g,x,rfl,hv,h⟩:=h;rcases h with⟨j,_,_,rfl,h⟩|⟨n,_,rfl,h,q0⟩|⟨s,_,rfl,h⟩|⟨al,sl,ps,rfl,_⟩|⟨es,n,D,rfl,_⟩
 ·intro k hk;exact hk
 ·intro k hk;exact hk
 ·intro k hk;exact hk
 ·grind [FC,AP,FB]
 ·intro k hk;rw[FB] at hk;rw[Bo]
  grind
theorem LB{n c:dS}{w:A2}(h:Ad (f+1) w u n)(hn:(fp (f+1) n).Nodup)(hc:c∈AJ n):∀k∈gD n,k ∉ fp f c:=by
 obtain⟨b,g,x,rfl,hv,h⟩:=h;rcases h with⟨j,_,_,rfl,h⟩|⟨n,_,rfl,h,q0⟩|⟨s,_,rfl,h⟩|⟨al,sl,ps,rfl,_⟩|⟨es,n,D,rfl,_⟩
 ·rw[E8] at hc;cases hc
 ·rw[FS] at hc;cases hc
 ·rw[FR] at hc;cases hc
 ·grind [fp,E8,FS,FR,BW,AP,FC,BH]
 ·rw[BH] at hc;obtain⟨p,hp,rfl⟩:=CH.1 hc;rw[Bo] at hn;obtain⟨n1,n2⟩:=G0.1 hn;obtain⟨n3,_⟩:=G0.1 n2;intro k hk q4;have hm:k∈es.flatMap (fun p=>fp f p.2):=by grind
  rw[FB] at hk
  grind
theorem Vl{b g g':Nat}{w w':A2}{al q0:List dS}{l':List (Option Addr)}{sl':D1}{Z:Nat->Prop}(h:Ad (f+1) w u (dW b g (.slice al [])))(hvb:VB w' b 5 n0 [] sl' (.map none))(ho:w'.ownsRow 0 80 1 sl' l'.length (l'.map A3))(hs:sl'.ownBlock=if g'=0 then none else some g')(hal:Al (Ad f w') (l'.map A3) q0)(hg:g'=g\/w.heap.size<=g')(hnd:(b::((if g'=0 then [] else [g'])++q0.flatMap (fp f))).Nodup)(hZ:∀k∈q0.flatMap (fp f),k∈al.flatMap (fp f)\/Z k)(hk:Av (fun k=>k∈gD (dW b g (.slice al []))) w w'):
  DM f w w' u (dW b g (.slice al [])) (dW b g' (.slice q0 [])) Z:=by
 obtain⟨b2,g2,x2,e,rfl,_⟩:=h;unfold dW at e;injection e with e;injection e with e _;injection e with e;injection e with _ e;obtain rfl:b=b2:=by omega
 refine⟨⟨b,g',_,rfl,rfl,by grind⟩,by rw[AP];exact hnd,?_,hk⟩;intro k q4;rw[AP] at q4 |-
 grind
end Go.Proofs.YtdpomdelmdofmaaGreatDoor
