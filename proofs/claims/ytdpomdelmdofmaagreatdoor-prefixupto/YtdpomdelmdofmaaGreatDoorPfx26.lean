import Derived.Test.YtdpomdelmdofmaaGreatDoorPfx25
import Derived.Laws.OwnMore
open Go.World renaming cell?_of_block->AI,cell?->HJ
open Go.Proofs.Tryz renaming prog->AS
open Go.RowKit.Below renaming heap_alloc->AT,heap_setCell->CD,refl->Dt
open Go.Maps renaming has->A1,Canon->BY,has_true_of_atKey->G3
open Go.DataW renaming map->A2,held->HK
open Go renaming DataW->A3,World->CH,madeCells->D1,heap_alloc_new->D3,Value->Ft,Calls->F5,wpList_next_ranges->G2,wpList_range_own->HE,maxLen->HG
open Nat renaming le_refl->A4
open Go.RowKit renaming Below->A5
open List renaming any_eq_true->A6,mem_map->CL,take_succ_eq_append_getElem->CR,replicate->Dp,take_of_length_le->F2
open Go.Value renaming pointer->Bs
open Go.WideAt renaming sameKey_eq->C2,sameKey_self->D0,atKey_mem->F1
open Option.some renaming inj->DD
open Array renaming getElem?_eq_some_iff->E0
open Int renaming le_refl->G0
open Go.Instr renaming makeMap->HH
set_option maxRecDepth 100000
set_option maxHeartbeats 8000000
namespace Go.Proofs.YtdpomdelmdofmaaGreatDoor
open Go.Proofs.Tryz Go.RowKit Go.Maps
variable{sl:Ft}{es:List (Lit×To)}{f cnt:Nat}{F:Nat->Prop}{w wr:CH}{left:Lit->Bool}
section
attribute [local go_sem ↓] Go.wp_at_zero Go.wp_at_succ
section
variable{w:CH}{b:Nat}{pth:Ft}{key:By}{i:Nat}
theorem P8{l:List (Option Addr)}{x:Option Addr}(h:VB w b 5 n0 [] sl (.map none))(ho:w.ownsRow 0 80 1 sl l.length (l.map Bs))(hi:i<=l.length)(hb:l.length<=1000000000000)(qi:sl.ownBlock≠some b):
  F5 AS 249 #[plV pth b key i,.pointer x] w (Ed b sl (ZS i x l) w):=by
 have qd:=h.lt;have q0:∀o,(w.alloc o).cell? ⟨b,0,none⟩=some (.int .i64 5):=fun o=>(AI (w:=w) (AT w o b qd)).trans h.c0;have q5:∀o,(w.alloc o).cell? ⟨b,5,none⟩=some sl:=fun o=>(AI (w:=w) (AT w o b qd)).trans h.c5;have HO:=Ab ho;have HV:=Ab h;have HI:=Ab hi;have q9:=Ab qi;have q8:l.length+1=(ZS i x l).length:=(GH x hi).symm;clear h ho hi qi
 go_enter func249,ntmps249
 go_wp2_with (fail);have qb:=D3 w (.cells #[pth,.pointer (some ⟨b,0,none⟩),.string ⟨key.toArray⟩,.int .i64 i] 185)
 have q7:=(Dt w.heap.size w).alloc (A4 _) (.cells #[pth,.pointer (some ⟨b,0,none⟩),.string ⟨key.toArray⟩,.int .i64 i] 185);generalize w.alloc (.cells #[pth,.pointer (some ⟨b,0,none⟩),.string ⟨key.toArray⟩,.int .i64 i] 185)=wa at *;clear q0 q5;have hva:VB wa b 5 n0 [] sl (.map none):=(Aa HV).kept (q7.block b qd);have b1:wa.cell? ⟨w.heap.size,1,none⟩=some (.pointer (some ⟨b,0,none⟩)):=by simp[HJ,qb]
 have b3:wa.cell? ⟨w.heap.size,3,none⟩=some (.int .i64 i):=by simp[HJ,qb]
 have b5:=hva.c5;have qe:=AX (Aa HO) fun g hg=>q7.block g (Aw (Aa HO) g hg).1;have q4:w.heap.size<wa.heap.size:=(E0.1 qb).1;have HC:=Ab (show ∀W:CH,W.heap=(wa.alloc (.cells #[.pointer x] 80)).heap->W.os=wa.os->W.tape=wa.tape->W.output=wa.output->F5 AS 291 #[sl,.int .i64 i,.slice (some ⟨wa.heap.size,0,none⟩) 1 1] W fun e w2=>∃g cap,e=.returned (.slice (some ⟨g,0,none⟩) (l.length+1) cap)/\w2.cell? ⟨w.heap.size,1,none⟩=some (.pointer (some ⟨b,0,none⟩))/\w2.cell? ⟨w.heap.size,3,none⟩=some (.int .i64 i)/\w2.cell? ⟨b,5,none⟩=some sl/\w2.frozen? ⟨b,5,none⟩=false/\Hid (Ed b sl (ZS i x l) w (.returned (.tuple #[])) (w2.setCell ⟨b,5,none⟩ (.slice (some ⟨g,0,none⟩) (l.length+1) cap))) from fun W hW e1 e2 e3=>by
  have hold:∀k,k<wa.heap.size->W.heap[k]? = wa.heap[k]?:=fun k hk=>by rw[hW];exact AT wa _ k hk
  have q6:W.heap[wa.heap.size]? = some (.cells #[.pointer x] 80 (0,0)):=by rw[hW];exact D3 wa _
  have qp:wa.heap.size<W.heap.size:=(E0.1 q6).1;have qn:=AX (w':=W) qe fun g hg=>hold g (Aw qe g hg).1;refine (Yl qn q6 (fun e=>by have:=(Aw qe _ e).1;omega) (Aa HI) hb).mono ?_;rintro e w2 ⟨g,cap,rfl,qk,hk2,qj⟩;have qf:∀k,k<wa.heap.size->sl.ownBlock≠some k->w2.heap[k]? = wa.heap[k]?:=fun k hk hn=>(hk2.block k (by omega) (fun e=>hn e.symm)).trans (hold k hk);have qo:=qf b hva.lt (Aa q9);have qh:=qf w.heap.size q4 (fun e=>by have:=(Aw (Aa HO) _ e).1;omega);have qg:VB w2 b 5 n0 [] sl (.map none):=hva.kept qo;refine⟨g,cap,rfl,(AI (a:=⟨w.heap.size,1,none⟩) qh).trans b1,(AI (a:=⟨w.heap.size,3,none⟩) qh).trans b3,qg.c5,qg.z 5,?_⟩;have qm:b≠g:=fun e=>by
   rcases qj with h|h
   ·exact Aa q9 (by rw[h,e])
   ·have:=hva.lt;omega
  refine Ed.of q8 qm hva q7 qk ⟨hk2.os.trans e1,hk2.tape.trans e2,hk2.output.trans e3,by have:=hk2.size;omega,fun k hk hn=>qf k hk (fun e=>hn e.symm)⟩ (Aa q9) (qj.imp id fun h=>by have:=q7.size;omega))
 have d1:∀o,(wa.alloc o).cell? ⟨w.heap.size,1,none⟩=some (.pointer (some ⟨b,0,none⟩)):=fun o=>(AI (a:=⟨w.heap.size,1,none⟩) (AT wa o _ q4)).trans b1;have d3:∀o,(wa.alloc o).cell? ⟨w.heap.size,3,none⟩=some (.int .i64 i):=fun o=>(AI (a:=⟨w.heap.size,3,none⟩) (AT wa o _ q4)).trans b3;have d5:∀o,(wa.alloc o).cell? ⟨b,5,none⟩=some sl:=fun o=>(AI (a:=⟨b,5,none⟩) (AT wa o _ hva.lt)).trans b5;clear qe qb q7 hva HV HO HI q9 q8;have qr:¬ w.heap.size=b:=by omega
 have qq:¬ b=w.heap.size:=by omega
 clear qd
 go_region_with (go_at_call 291;refine (Aa HC _ (by rfl) (by rfl) (by rfl) (by rfl)).mono ?_;rintro e w2 ⟨g,cap,rfl,k1,k3,k5,kz,KEND⟩)
 all_goals exact bodyPost_end (results_none rfl _ _ _) rfl (Aa KEND)
end
end
theorem Eo:∀l,0<=BK l
 | []=>G0 _
 | x::r=>by have:=Eo r;simp only[BK];omega
theorem Lu(x:Int):∀l,BK (l++[x])=max (BK l) x
 | []=>by simp only[List.nil_append,BK];omega
 | y::r=>by have:=Lu x r;simp only[List.cons_append,BK];omega
theorem Fb{m:Int}(h0:0<=m):∀ {l:List Int},(∀x∈l,x<=m)->BK l<=m
 | [],_=>h0
 | x::r,h=>by
  have h1:=h x (by simp);have h2:=Fb h0 (l:=r) (fun y hy=>h y (by simp[hy]));simp only[BK];omega
theorem Iq{x:Int}:∀ {l:List Int},x∈l->x<=BK l
 | y::r,h=>by
  rcases List.mem_cons.1 h with rfl|h
  ·simp only[BK];omega
  ·have:=Iq h;simp only[BK];omega
theorem WQ(f:Nat)(es:List To):ZC (f+1) (Ap es)=1+BK (es.map (ZC f)):=rfl
theorem WP(f:Nat)(es:List (Lit×To)):ZC (f+1) (Ay es)=1+BK (es.map fun p=>ZC f p.2):=rfl
theorem J2:∀ (f:Nat) (d:To),0<=ZC f d/\ZC f d<=f
 | 0,_=>⟨G0 _,G0 _⟩
 | f+1,d=>by
  unfold ZC;split
  ·rename_i es _;have h1:=Eo (es.map (ZC f));have h2:=Fb (m:=f) (by omega) (l:=es.map (ZC f)) (fun x hx=>by
    obtain⟨y,_,rfl⟩:=CL.1 hx;exact (J2 f y).2)
   omega
  ·rename_i es;have h1:=Eo (es.map fun p=>ZC f p.2);have h2:=Fb (m:=f) (by omega) (l:=es.map fun p=>ZC f p.2) (fun x hx=>by
    obtain⟨y,_,rfl⟩:=CL.1 hx;exact (J2 f y.2).2)
   omega
  ·omega
theorem NJ{k:Lit}(h:A1 (.map es:A3 Unit) k=true):∃p∈es,(A2 es).atKey k .nil=p.2:=by
 rw[BZ];cases hf:es.find? (fun p=>p.1.sameKey k) with
 | none=>
  obtain⟨p,hp,hs⟩:=A6.1 (show es.any (fun p=>p.1.sameKey k)=true from h);exact absurd hs (by simpa using List.find?_eq_none.1 hf p hp)
 | some p=>exact⟨p,List.mem_of_find?_eq_some hf,rfl⟩
theorem X7(c:BY (.map es:A3 Unit)){P:To->Prop}(h:∀k,A1 (.map es:A3 Unit) k=true->P ((A2 es).atKey k .nil)):∀p∈es,P p.2:=by
 obtain⟨_,he,hp,hk⟩:=c;injection he with he;subst he;intro p q0;have h1:=h p.1 (A6.2 ⟨p,q0,D0 (hk p q0)⟩)
 rwa [F1 .nil (hk p q0) (apart_of_rising hp) (show (p.1,p.2)∈es from q0)] at h1
def Kf(f:Nat):Prop:=∀ (F:Nat->Prop) (w:CH) (v:Ft) (a:To),Rep f F w v a->F5 AS 157 #[v] w fun e w'=>e=.returned (.int .i64 (ZC f a))/\A5 w.heap.size w w'
section
variable{w:CH}{b:Nat}
theorem Je{k:Int}{n:Nm}{s:By}{mp:Ft}(h:VB w b k n s sl mp)(h5:k≠5)(h6:k≠6):
  F5 AS 157 #[.pointer (some ⟨b,0,none⟩)] w fun e w'=>e=.returned (.int .i64 1)/\A5 w.heap.size w w':=by
 have c0:=h.c0;have e5:(k==5)=false:=beq_eq_false_iff_ne.2 h5;have e6:(k==6)=false:=beq_eq_false_iff_ne.2 h6;clear h h5 h6
 go_enter func157,ntmps157
 go_wp2_with (fail)
 go_ret;exact⟨rfl,Dt _ _⟩
theorem SM(hS:Kf f)(hf:f<=5000){ps:List Ft}{es:List To}(h:VB w b 5 n0 [] sl (.map none))(ho:w.ownsRow 0 80 1 sl ps.length ps)(ha:Al (Rep f F w) ps es):
  F5 AS 157 #[.pointer (some ⟨b,0,none⟩)] w fun e w'=>e=.returned (.int .i64 (1+BK (es.map (ZC f))))/\A5 w.heap.size w w':=by
 have c0:=h.c0;have c5:=h.c5;have hl:=ha.length;have q5:=DI ho;obtain⟨N,hN⟩:∃N,N=ps.length:=⟨_,rfl⟩
 have qb:(N:Int)<=9223372036854775807:=by unfold HG at q5;omega
 by_cases h0:N=0
 ·obtain⟨a,c,rfl⟩:=Hb ho (by omega);have e1:es=[]:=List.eq_nil_of_length_eq_zero (by omega);subst e1;clear h ho ha hl hS hN q5
  go_enter func157,ntmps157
  go_wp2_with (fail);refine wp_loop_rounds 1 ?_
  rw[rounds_succ]
  go_wp2_with (fail)
  go_ret;exact⟨rfl,Dt _ _⟩
 ·obtain⟨g1,p1,rfl,a1,b1,l1,q6⟩:=Bh ho (by omega);have q8:=Ab q6;have HA:=Ab ha;have HS:=Ab hS;have HN:=Ab hN;have HL:=Ab hl;have HF:=Ab hf;rw[<- hN] at a1 c5;clear h ho ha hl hS hN q6 h0 q5 hf
  go_enter func157,ntmps157
  go_wp2_with (fail)
  go_loopw [3,19] (fun dv i wr=>∃k:Nat,k<=N/\i=.int .i64 k/\dv=.int .i64 (BK ((es.map (ZC f)).take k))/\A5 w.heap.size w wr) (fun _ i _=>N-(intOf i).toNat)
  case atStart=>exact⟨0,by omega,rfl,rfl,Dt _ _⟩
  case round=>
   obtain⟨k,hk,rfl,rfl,hb⟩:=hrel;have HB:=Ab hb;by_cases hlt:k<N
   ·have h1:k<ps.length:=by have:=Aa HN;omega
    have h3:k<es.length:=by have:=Aa HL;omega
    have q1:=(hb.cell (p:=⟨g1,k,none⟩) l1).trans (Aa q8 k h1);have q0:=Ab (Aa HS F wr ps[k] es[k] (((Aa HA).get k h1 h3).bel hb));have q9:=Ab (show BK ((es.map (ZC f)).take (k+1))=max (BK ((es.map (ZC f)).take k)) (ZC f es[k]) from by
     rw[CR (by simpa using h3),Lu,List.getElem_map])
    generalize ps[k]=pk at *;generalize BK ((es.map (ZC f)).take k)=M at *;generalize ZC f es[k]=x at *;clear hb
    go_wp2_with (fail);refine (Aa q0).mono ?_
    rintro e w2 ⟨rfl,hb2⟩;have q7:=Ab ((Aa HB).trans (hb2.mono (Aa HB).size));clear hb2 q0
    go_wp2_with (fail);exact⟨⟨k+1,by omega,by go_num,by rw[Aa q9],Aa q7⟩,by simp only[intOf];omega⟩
   ·have q4:(es.map (ZC f)).take k=es.map (ZC f):=F2 (by have:=Aa HN;have:=Aa HL;simp only[List.length_map];omega);rw[q4];have m1:=Eo (es.map (ZC f));have m2:BK (es.map (ZC f))<=5000:=Fb (by omega) (fun x hx=>by
     obtain⟨y,_,rfl⟩:=CL.1 hx;have:=(J2 f y).2;have:=Aa HF;omega)
    obtain⟨M,hM⟩:∃M,M=BK (es.map (ZC f)):=⟨_,rfl⟩
    rw[<- hM] at m1 m2 |-;have HM:=Ab hM;clear q4 hM
    go_wp2_with (fail)
    go_ret;exact⟨by rw[<- Aa HM];rfl,hb⟩
theorem SL(hS:Kf f)(hf:f<=5000){m n:Nat}{D:List (Lit×A3 Ft)}(h:VB w b 6 n0 [] (.slice none 0 0) (.map (some m)))(ho:w.ownsMap AS 9 RV m n (.map D))(hp:Pt (Rep f F w) D es):
  F5 AS 157 #[.pointer (some ⟨b,0,none⟩)] w fun e w'=>e=.returned (.int .i64 (1+BK (es.map fun p=>ZC f p.2)))/\A5 w.heap.size w w':=by
 have qe:=Bw;have qt:=B0;have c0:=h.c0;have c6:=h.c6;have C1:=Ab (hp.canon (ho.canon qe));have HP:=Ab hp;have HS:=Ab hS;have HF:=Ab hf;clear hp hS h hf
 go_enter func157,ntmps157
 go_wp2_with (first
  | (at_range;refine HE _ rfl _ 109 rfl 9 80 qe underlying109 RV m n _ rfl ho ?_;intro w0 qg qq qr)
  | go_in)
 go_frame
 go_loopw [3] (fun dv wr=>∃ (left:Lit->Bool) (cnt:Nat) (M:Int),dv=.int .i64 M/\0<=M/\M<=BK (es.map fun p=>ZC f p.2)/\wr.ranges AS 9 RV m w.heap.size n (.map D) left cnt/\w.grownBy wr none /\
   Hid (∀k,A1 (.map es:A3 Unit) k=true->left k=false->ZC f ((A2 es).atKey k .nil)<=M))
  (fun _ wr=>wr.rangeLeft m w.heap.size)
 case atStart=>
  refine⟨_,_,0,rfl,G0 _,Eo _,qg,qq,?_⟩;intro k hk hl;rw[(Aa HP).has k,hk] at hl;cases hl
 case round=>
  obtain⟨left,cnt,M,rfl,qo,qj,qk,qi,G⟩:=hrel;have q9:=Ab qj;clear qj
  go_wp2_with (first
   | (at_next;refine G2 _ rfl _ rfl 9 qe RV id id (fun key _ _=>⟨key,rfl⟩) (fun v _ _=>⟨v,rfl⟩) m w.heap.size n _ _ _ rfl qk ?_ ?_)
   | go_in)
  ·intro _ hl0;have HV:=Ab (show M=BK (es.map fun p=>ZC f p.2) from Int.le_antisymm (Aa q9) (Fb qo (fun x hx=>by
    obtain⟨p,qb,rfl⟩:=CL.1 hx;exact X7 (Aa C1) (P:=fun d=>ZC f d<=M) (fun k hk=>Aa G k hk (hl0 k)) p qb)))
   have m2:M<=5000:=by
    have h1:=Aa q9;have h2:BK (es.map fun p=>ZC f p.2)<=5000:=Fb (by omega) (fun x hx=>by
     obtain⟨y,_,rfl⟩:=CL.1 hx;have:=(J2 f y.2).2;have:=Aa HF;omega)
    omega
   go_wp2_with (fail)
   go_ret;exact⟨by rw[<- Aa HV];rfl,BA qi⟩
  ·intro x c kl yd yp w1 cnt1 qm qw hv qf qh hlt qp qv qu;have q6:w.grownBy w1 none:=qi.andThen qp (fun j hj=>by cases hj;exact Or.inl (A4 _));have qn:HK c=yd:=congrArg Prod.fst (DD hv);subst qn;have q4:A1 (.map D) kl=true:=G3 qf
   obtain⟨c',e1,q7⟩:=(Aa HP).at kl q4;have e2:c'=c:=by
    have e3:=(e1 .nil).symm.trans (qf .nil);injection e3
   subst e2;have q8:A1 (.map es:A3 Unit) kl=true:=by rw[<- (Aa HP).has kl];exact q4
   have q0:=Ab (Aa HS F w1 c' _ (q7.bel (BA q6)));have HX:=Ab (show ZC f ((A2 es).atKey kl .nil)<=BK (es.map fun p=>ZC f p.2) from by
    obtain⟨p,qb,e⟩:=NJ q8;rw[e];exact Iq (CL.2 ⟨p,qb,rfl⟩))
   obtain⟨y,hy⟩:∃y,y=ZC f ((A2 es).atKey kl .nil):=⟨_,rfl⟩
   rw[<- hy] at q0 HX;have HY:=Ab hy;clear qf q7 q8 e1 q4 hv hy
   go_wp2_with (fail);refine (Aa q0).mono ?_
   rintro e w2 ⟨rfl,hb2⟩
   go_wp2_with (fail);have q5:=qh.kept (A9 hb2) (by simp) (by simp)
   have qd:=q6.andThen (A9 hb2) (fun j hj=>by cases hj)
   go_roundw
   case rel=>
    refine⟨_,cnt1,max M y,rfl,by omega,by have:=Aa q9;have:=Aa HX;omega,q5,qd,?_⟩;intro k hk hl;cases h4:left k
    ·have:=Aa G k hk h4;omega
    ·have h5:(left k && !k.sameKey kl)=false:=hl;rw[h4] at h5;have:k=kl:=C2 (by simpa using h5);subst this;have:=Aa HY;omega
   case measure=>rw[q5.left_eq,qk.left_eq];exact hlt
end
theorem UN(hS:Kf f)(hf:f<=5000):Kf (f+1):=by
 intro F w v a ha;obtain⟨p,rfl,_,ha⟩:=ha;rcases ha with⟨k,hk,rfl,h⟩|⟨n,rfl,h,_⟩|⟨s,rfl,h⟩|⟨es,sl,ps,rfl,h,ho,_,hal⟩|⟨es,m,n,D,rfl,h,_,ho,hp⟩
 ·exact Je h (by omega) (by omega)
 ·exact Je h (by omega) (by omega)
 ·exact Je h (by omega) (by omega)
 ·exact SM hS hf h ho hal
 ·exact SL hS hf h ho hp
theorem LI:∀f,f<=5000->Kf f
 | 0,_=>fun _ _ _ _ h=>h.elim
 | f+1,h=>UN (LI f (by omega)) (by omega)
def Gq(f:Nat)(a:To):Prop:=∀ (F:Nat->Prop) (w:CH) (v:Ft),Rep f F w v a->F5 AS 201 #[v] w fun e w'=>∃p,e=.returned (.pointer (some p))/\A5 w.heap.size w w'/\Tr f w.heap.size w' (.pointer (some p)) a
theorem TI(n:Nat)(hn:n*8<=281474976710656)(w:CH):(Instr.makeSlice 106 (.int .i64 n) (.int .i64 n)).run AS w=.ok (.slice (some ⟨w.heap.size,0,none⟩) n n) (w.alloc (.cells (D1 #[.pointer none] (n*1)) 80)):=by
 obtain⟨i,hi,h⟩:=Option.map_eq_some_iff.1 QE;injection h with h1 h2;injection h2 with h2 h3;have:=run_make (P:=AS) w 106 80 i _ underlying106 hi h1 .i64 .i64 n n (by omega) (by omega) (by rw[h3];omega) (by omega);rw[h2] at this;simpa[Value.cells] using this
section
variable{w:CH}{b:Nat}
theorem GO{k:Int}{n:Nm}{s:By}(h:VB w b k n s (.slice none 0 0) (.map none))(h5:k≠5)(h6:k≠6):
  F5 AS 201 #[.pointer (some ⟨b,0,none⟩)] w fun e w'=>e=.returned (.pointer (some ⟨w.heap.size,0,none⟩))/\A5 w.heap.size w w'/\VB w' w.heap.size k n s (.slice none 0 0) (.map none):=by
 have c0:=h.c0;have c1:=h.c1;have c2:=h.c2;have c3:=h.c3;have c4:=h.c4;have c5:=h.c5;have c6:=h.c6;have d0:∀o,(w.alloc o).cell? ⟨b,0,none⟩=some (.int .i64 k):=fun o=>(AI (w:=w) (AT w o b h.lt)).trans c0;have e5:(k==5)=false:=beq_eq_false_iff_ne.2 h5;have e6:(k==6)=false:=beq_eq_false_iff_ne.2 h6;clear h h5 h6
 go_enter func201,ntmps201
 go_wp2_with (fail)
 go_ret;exact⟨rfl,(Dt _ _).alloc (A4 _) _,C6 _ _ _ rfl⟩
structure ClA(f N:Nat)(w:CH)(es:List To)(k:Nat)(wr:CH):Prop where
 bel:A5 w.heap.size w wr
 box:VB wr w.heap.size 5 n0 [] (.slice (some ⟨w.heap.size+1,0,none⟩) N N) (.map none)
 el:∃qs:List Ft,qs.length=k/\wr.ownsRow (w.heap.size+1) 80 1 (.slice (some ⟨w.heap.size+1,0,none⟩) N N) N (qs++Dp (N-k) (.pointer none))/\TrL f (w.heap.size+1) (some (w.heap.size+1)) wr qs (es.take k)
theorem ClA.step{N k:Nat}{w2:CH}{es:List To}{p:Addr}(h:ClA f N w es k wr)(hk:k<N)(q5:k<es.length)(hb:A5 wr.heap.size wr w2)(hv:Tr f wr.heap.size w2 (.pointer (some p)) es[k]):
  ClA f N w es (k+1) (w2.setCell ⟨w.heap.size+1,k,none⟩ (.pointer (some p))):=by
 obtain⟨qs,hq,ho,ht⟩:=h.el;have hlt:=Aw ho (w.heap.size+1) rfl;have q0:=AX ho (w':=w2) (fun g hg=>hb.block g (Aw ho g hg).1);have q4:=q0.stored k (.pointer (some p));have hs2:=hb.size;refine⟨?_,?_,qs++[.pointer (some p)],by simp[hq],?_,?_⟩
 ·refine ((h.bel.trans (hb.mono h.bel.size)).trans ⟨rfl,rfl,rfl,by simp[World.setCell],fun j hj=>CD _ _ _ _ (show j≠w.heap.size+1 by omega)⟩)
 ·exact (h.box.kept (hb.block _ h.box.lt)).kept (CD _ _ _ _ (show w.heap.size≠w.heap.size+1 by omega))
 ·have e:(qs++Dp (N-k) (Bs none)).set k (.pointer (some p))=qs++[.pointer (some p)]++Dp (N-(k+1)) (.pointer none):=by
   obtain⟨m,hm⟩:∃m,N-k=m+1:=⟨N-k-1,by omega⟩
   rw[hm,show N-(k+1)=m by omega,<- hq,List.set_append_right _ _ (A4 _)];simp[List.replicate_succ]
  rw[<- e];exact q4.1
 ·rw[CR q5];refine ht.snoc hv (by omega) ?_ ?_
  ·intro j h1 h2 h3;exact⟨(CD _ _ _ _ (show j≠w.heap.size+1 from fun e=>h2 (by rw[e]))).trans (hb.block j h3),h2⟩
  ·intro j h1 h2;exact⟨CD _ _ _ _ (show j≠w.heap.size+1 by omega),fun e=>by injection e;omega⟩
theorem ClA.done{N:Nat}{es:List To}(h:ClA f N w es N wr)(hn:N=es.length):Tr (f+1) w.heap.size wr (.pointer (some ⟨w.heap.size,0,none⟩)) (Ap es):=by
 obtain⟨qs,hq,ho,ht⟩:=h.el;rw[Nat.sub_self,List.replicate_zero,List.append_nil] at ho;rw[F2 (by omega)] at ht;have q0:=Hl ho (Nat.zero_le _);rw[show N=qs.length from hq.symm] at q0;have hb:=h.box;rw[show N=qs.length from hq.symm] at hb;exact TrL.arr (sl:=.slice (some ⟨w.heap.size+1,0,none⟩) qs.length qs.length) ht (A4 _) (by omega) hb q0 (fun g hg=>by
  have:g=w.heap.size+1:=by simpa[Value.ownBlock] using hg.symm
  omega)
theorem SU{ps:List Ft}{es:List To}(hS:∀d∈es,Gq f d)(h:VB w b 5 n0 [] sl (.map none))(ho:w.ownsRow 0 80 1 sl ps.length ps)(ha:Al (Rep f F w) ps es)(qd:ps.length*8<=281474976710656):
  F5 AS 201 #[.pointer (some ⟨b,0,none⟩)] w fun e w'=>e=.returned (.pointer (some ⟨w.heap.size,0,none⟩))/\A5 w.heap.size w w'/\Tr (f+1) w.heap.size w' (.pointer (some ⟨w.heap.size,0,none⟩)) (Ap es):=by
 have c0:=h.c0;have c1:=h.c1;have c2:=h.c2;have c3:=h.c3;have c4:=h.c4;have c5:=h.c5;have c6:=h.c6;have qi:=h.lt;have hl:=ha.length;obtain⟨N,hN⟩:∃N,N=ps.length:=⟨_,rfl⟩
 have qm:(N:Int)<=9223372036854775807:=by omega
 rw[<- hN] at qd;have qn:=TI N qd;have qe:N<=HG:=by unfold HG;omega
 have HL:=Ab (hN.trans hl);have old:∀ (o:Obj) (j:Nat),(w.alloc o).cell? ⟨b,j,none⟩=w.cell? ⟨b,j,none⟩:=fun o j=>AI (w:=w) (AT w o b qi);have d0:∀o,(w.alloc o).cell? ⟨b,0,none⟩=some (.int .i64 5):=fun o=>(old o 0).trans c0;have d5:∀o,(w.alloc o).cell? ⟨b,5,none⟩=some sl:=fun o=>(old o 5).trans c5;have q0:Hid (∀W,W=((w.alloc (.cells #[.int .i64 5,.bool false,.string ⟨#[]⟩,.int .i64 0,.string ⟨#[]⟩,.slice (some ⟨w.heap.size+1,0,none⟩) N N,.map none] 111)).alloc (.cells (D1 #[.pointer none] N) 80))->ClA f N w es 0 W):=by
  rintro W rfl;have e1:(w.alloc (.cells #[.int .i64 5,.bool false,.string ⟨#[]⟩,.int .i64 0,.string ⟨#[]⟩,.slice (some ⟨w.heap.size+1,0,none⟩) N N,.map none] 111)).heap.size=w.heap.size+1:=by simp
  have hb1:=D3 w (.cells #[.int .i64 5,.bool false,.string ⟨#[]⟩,.int .i64 0,.string ⟨#[]⟩,.slice (some ⟨w.heap.size+1,0,none⟩) N N,.map none] 111);generalize hW:w.alloc (.cells #[.int .i64 5,.bool false,.string ⟨#[]⟩,.int .i64 0,.string ⟨#[]⟩,.slice (some ⟨w.heap.size+1,0,none⟩) N N,.map none] 111)=W1 at *;have q8:A5 w.heap.size w W1:=by rw[<- hW];exact (Dt _ _).alloc (A4 _) _
  have qg:(D1 #[Bs none] N).size=N*1:=by simp[D1]
  have q5:=World.ownsRow_lit (base:=w.heap.size+1) (e:=80) (size:=1) W1 (D1 #[.pointer none] N) N (by omega) qe qg;have hvb:VB W1 w.heap.size 5 n0 [] (.slice (some ⟨w.heap.size+1,0,none⟩) N N) (.map none):=hb1;rw[e1] at q5;refine⟨q8.alloc (by omega) _,hvb.kept (AT W1 _ _ hvb.lt),[],rfl,?_,TrL.nil _ _ _ _⟩;have hx:(D1 #[Bs none] N).toList=[]++Dp (N-0) (Bs none):=by simp[D1,Nat.mod_one,List.map_const']
  rw[<- hx];exact q5
 have q6:Hid (∀ (k:Nat) (h1:k<ps.length) (h3:k<es.length) (wr:CH),A5 w.heap.size w wr->F5 AS 201 #[ps[k]] wr fun e w'=>∃p,e=.returned (.pointer (some p))/\A5 wr.heap.size wr w'/\Tr f wr.heap.size w' (.pointer (some p)) es[k]):=
  Ab (fun k h1 h3 wr hb=>hS _ (List.getElem_mem h3) F wr ps[k] ((ha.get k h1 h3).bel hb))
 obtain⟨a,c,rfl⟩:=Cr ho;have HC:Hid (∀ (k:Nat) (h1:k<ps.length),∃g,a=some ⟨g,0,none⟩/\g<w.heap.size/\w.cell? ⟨g,k,none⟩=some ps[k]):=Ab (fun k h1=>by
  obtain⟨g1,p1,e,_,_,l1,q7⟩:=Bh ho (by omega);injection e with e;exact⟨g1,e,l1,q7 k h1⟩)
 rw[<- hN] at c5 d5;have HN:=Ab hN;clear h ho ha hS hl hN old
 go_enter func201,ntmps201
 go_wp2_with (fail)
 go_loopw [29] (fun i wr=>∃k:Nat,k<=N/\i=.int .i64 k/\Hid (ClA f N w es k wr)) (fun i _=>N-(intOf i).toNat)
 case atStart=>exact⟨0,by omega,rfl,Aa q0 _ rfl⟩
 case round=>
  obtain⟨k,hk,rfl,HI⟩:=hrel;by_cases hlt:k<N
  ·have h1:k<ps.length:=by have:=Aa HN;omega
   have h3:k<es.length:=by have:=Aa HL;omega
   obtain⟨g,rfl,qj,qf⟩:=Aa HC k h1;have q1:=((Aa HI).bel.cell (p:=⟨g,k,none⟩) qj).trans qf;have qV:=(Aa HI).box.c5;have q7:=Ab (Aa q6 k h1 h3);have q4:Hid (∀ (w2:CH) (p:Addr),A5 wr.heap.size wr w2->Tr f wr.heap.size w2 (.pointer (some p)) es[k]->ClA f N w es (k+1) (w2.setCell ⟨w.heap.size+1,k,none⟩ (.pointer (some p)))):=Ab (fun w2 p hb hv=>(Aa HI).step hlt h3 hb hv);have qk:Hid (∀w2,A5 wr.heap.size wr w2->w2.cell? ⟨w.heap.size,5,none⟩=some (.slice (some ⟨w.heap.size+1,0,none⟩) N N)/\w2.frozen? ⟨w.heap.size+1,k,none⟩=false /\ ∃u,w2.cell? ⟨w.heap.size+1,k,none⟩=some u):=Ab (fun w2 hb=>by
    obtain⟨qs,hq,ho,ht⟩:=(Aa HI).el;have qb:=AX ho (w':=w2) (fun g hg=>hb.block g (Aw ho g hg).1);refine⟨((Aa HI).box.kept (hb.block _ (Aa HI).box.lt)).c5,qb.frozenAt k,?_⟩;have h5:=qb.cellAt k (by omega);rw[h5];have q9:k<(qs++Dp (N-k) (Bs none)).length:=by simp;omega
    exact⟨_,List.getElem?_eq_getElem q9⟩)
   have HB:=Ab (Aa HI).bel;generalize ps[k]=pk at *;clear HC
   go_wp2_with (fail)
   go_region_with (go_at_call 201;refine (Aa q7 _ ?_).mono ?_;exact⟨(Aa HB).os,(Aa HB).tape,(Aa HB).output,(Aa HB).size,(Aa HB).block⟩;rintro e w2 ⟨p,rfl,hb2,qh⟩;have hb3:A5 wr.heap.size wr w2:=⟨hb2.os,hb2.tape,hb2.output,hb2.size,hb2.block⟩;obtain⟨y1,y2,u,y3⟩:=Aa qk w2 hb3)
   all_goals (
    go_wp2_with (fail);exact⟨⟨k+1,by omega,by go_num,Aa q4 w2 p hb3 qh⟩,by simp only[intOf];omega⟩)
  ·have HD:=Ab (show Tr (f+1) w.heap.size wr (.pointer (some ⟨w.heap.size,0,none⟩)) (Ap es) from (show ClA f N w es N wr from by have:=Aa HI;rwa [show k=N by omega] at this).done (Aa HL));have HB:=Ab (Aa HI).bel;clear HC
   go_wp2_with (fail)
   go_ret;exact⟨rfl,Aa HB,Aa HD⟩
end
theorem Ub(n:Nat)(w:CH):(HH 109 (some (.int .i64 n))).run AS w=.ok (.map (some w.heap.size)) (w.alloc (.map #[] 0)):=by
 simp[HH,run_underlying underlying109,asInt,asIntOf,Result.andThen]
theorem JC{es':List (Lit×To)}(c:BY (.map es:A3 Unit))(c':BY (.map es':A3 Unit))(h:∀k,A1 (.map es:A3 Unit) k=true->A1 (.map es':A3 Unit) k=true/\(A2 es).atKey k .nil=(A2 es').atKey k .nil):∀p∈es,p∈es':=by
 obtain⟨_,he,hp,hk⟩:=c;injection he with he;subst he;obtain⟨_,he,q7,q5⟩:=c';injection he with he;subst he;have q6:=apart_of_rising hp;have q0:=apart_of_rising q7;intro p q4;have h1:A1 (.map es:A3 Unit) p.1=true:=A6.2 ⟨p,q4,D0 (hk p q4)⟩;obtain⟨h2,h3⟩:=h p.1 h1;obtain⟨q,hq,hs⟩:=A6.1 (show es'.any (fun q=>q.1.sameKey p.1)=true from h2);have e1:q.1=p.1:=C2 hs;have e2:=F1 .nil (hk p q4) q6 (by omega);have e3:=F1 .nil (q5 q hq) q0 (by omega)
 grind
theorem MM{es':List (Lit×To)}(c:BY (.map es:A3 Unit))(c':BY (.map es':A3 Unit))(hh:∀k,A1 (.map es:A3 Unit) k=A1 (.map es':A3 Unit) k)(h:∀k,A1 (.map es:A3 Unit) k=true->(A2 es).atKey k .nil=(A2 es').atKey k .nil):es=es':=by
 have s1:=JC c c' (by grind);have s2:=JC c' c (by grind);obtain⟨_,he,hp,_⟩:=c;injection he with he;subst he;obtain⟨_,he,q0,_⟩:=c';injection he with he;subst he;exact eq_of_mem_rising hp q0 (by grind)
theorem Is(c:BY (.map es:A3 Unit)){k:Lit}(h:A1 (.map es:A3 Unit) k=true):WideAt.IsKeyLit k:=by
 obtain⟨_,he,_,hk⟩:=c;injection he with he;subst he;obtain⟨p,hp,hs⟩:=A6.1 (show es.any (fun p=>p.1.sameKey k)=true from h);have:=hk p hp
 rwa [C2 hs] at this
structure ClO(f:Nat)(w:CH)(es:List (Lit×To))(left:Lit->Bool)(cnt:Nat)(wr:CH):Prop where
 bel:A5 w.heap.size w wr
 box:VB wr w.heap.size 6 n0 [] (.slice none 0 0) (.map (some (w.heap.size+1)))
 sz:w.heap.size+3<=wr.heap.size
 el:∃n' D' es',n'+cnt<=es.length/\wr.ownsMap AS 9 RV (w.heap.size+1) n' (.map D')/\TrM f (w.heap.size+3) wr D' es' /\
  (∀k,A1 (.map es':A3 Unit) k=(A1 (.map es:A3 Unit) k && !left k))/\(∀k,A1 (.map es':A3 Unit) k=true->(A2 es').atKey k .nil=(A2 es).atKey k .nil)
theorem ClO.next{w1:CH}(h:ClO f w es left cnt wr)(hg:wr.grownBy w1 (some (w.heap.size+2))):ClO f w es left cnt w1:=by
 have hs:=h.sz;have q0:=hg.size;have hk:∀j,j<wr.heap.size->j≠w.heap.size+2->w1.heap[j]? = wr.heap[j]?:=fun j h1 h2=>hg.block j h1 (by grind);refine⟨⟨hg.os.trans h.bel.os,hg.tape.trans h.bel.tape,hg.output.trans h.bel.output,by omega,fun j hj=>(hk j (by omega) (by omega)).trans (h.bel.block j hj)⟩,h.box.kept (by grind),by omega,?_⟩;obtain⟨n',D',es',h1,h2,h3,h4,h5⟩:=h.el;exact⟨n',D',es',h1,Aj h2 (by grind),h3.move (by grind),h4,h5⟩
theorem ClO.step{cnt1:Nat}{w1 w2:CH}(h:ClO f w es left cnt w1)(c:BY (.map es:A3 Unit))(hc:cnt1<cnt)(q9:es.length<HG){x:Ft}{kl:Lit}(q0:keyOf AS 9 x=some kl)(hl:left kl=true)(hh:A1 (.map es:A3 Unit) kl=true){p:Addr}(hb:A5 w1.heap.size w1 w2)(hv:Tr f w1.heap.size w2 (.pointer (some p)) ((A2 es).atKey kl .nil)):
  w2.cell? ⟨w.heap.size,6,none⟩=some (.map (some (w.heap.size+1))) /\ ∃w3,(Instr.mapUpdate 109 (.map (some (w.heap.size+1))) x (.pointer (some p))).run AS w2=.ok () w3 /\
   ClO f w es (fun z=>left z && !z.sameKey kl) cnt1 w3/\w2.grownBy w3 (some (w.heap.size+1)):=by
 have hs:=h.sz;have hs2:=hb.size;refine⟨(h.box.kept (hb.block _ h.box.lt)).c6,?_⟩;obtain⟨n',D',es',h1,h2,h3,h4,h5⟩:=h.el;have q6:=Aj h2 (hb.block _ (A7 h2));obtain⟨w3,q4,q5,hg⟩:=q6.update Bw underlying109 (by omega) q0 (val:=.pointer (some p)) (d:=.held (.pointer (some p))) (ps:=[]) rfl;have q8:=hg.size;have hk:∀j,j<w2.heap.size->j≠w.heap.size+1->w3.heap[j]? = w2.heap[j]?:=fun j h1 h2=>hg.block j h1 (by grind);refine⟨w3,q4,⟨⟨hg.os.trans (hb.os.trans h.bel.os),hg.tape.trans (hb.tape.trans h.bel.tape),hg.output.trans (hb.output.trans h.bel.output),by omega,fun j hj=>(hk j (by omega) (by omega)).trans ((hb.block j (by omega)).trans (h.bel.block j hj))⟩,
  (h.box.kept (hb.block _ h.box.lt)).kept (by grind),by omega,?_⟩,hg⟩
 have kk:=Is c hh;obtain⟨D2,q7,e1,e2,ht⟩:=h3.put (k:=kl) (w6:=w3) hv (by omega) (fun j j1 j2=>(hk j (by omega) (by omega)).trans (hb.block j j2)) (by grind);rw[e1] at q5;refine⟨n'+1,D2,q7,by omega,q5,ht,?_,?_⟩
 ·intro k;rw[<- e2];by_cases hkk:k=kl
  ·subst hkk;rw[has_put_same ⟨_,rfl⟩ kk,hh,hl,D0 kk];rfl
  ·rw[has_put_other hkk,h4];have:k.sameKey kl=false:=by
    cases hx:k.sameKey kl
    ·rfl
    ·exact absurd (C2 hx) hkk
   grind
 ·intro k;rw[<- e2];by_cases hkk:k=kl
  ·subst hkk;intro _;rw[atKey_put_same ⟨_,rfl⟩ kk]
  ·rw[has_put_other hkk,atKey_put_other hkk];exact h5 k
theorem ClO.done(h:ClO f w es left cnt wr)(c:BY (.map es:A3 Unit))(hl:∀k,left k=false):Tr (f+1) w.heap.size wr (.pointer (some ⟨w.heap.size,0,none⟩)) (Ay es):=by
 obtain⟨n',D',es',h1,h2,h3,h4,h5⟩:=h.el;have c':=h3.pt.canon (h2.canon Bw);have e:es'=es:=MM c' c (by grind) h5;subst e;exact h3.obj (by omega) ⟨by omega,by omega⟩ (by omega) h.box h2
section
variable{w:CH}{b:Nat}
theorem ST{m n:Nat}{D:List (Lit×A3 Ft)}(hS:∀k,A1 (.map es:A3 Unit) k=true->Gq f ((A2 es).atKey k .nil))(h:VB w b 6 n0 [] (.slice none 0 0) (.map (some m)))(ho:w.ownsMap AS 9 RV m n (.map D))(hp:Pt (Rep f F w) D es)(qn:es.length<HG):
  F5 AS 201 #[.pointer (some ⟨b,0,none⟩)] w fun e w'=>e=.returned (.pointer (some ⟨w.heap.size,0,none⟩))/\A5 w.heap.size w w'/\Tr (f+1) w.heap.size w' (.pointer (some ⟨w.heap.size,0,none⟩)) (Ay es):=by
 have qh:=Bw;have qz:=B0;have z7:=Ub es.length;have c0:=h.c0;have c1:=h.c1;have c2:=h.c2;have c3:=h.c3;have c4:=h.c4;have c5:=h.c5;have c6:=h.c6;have qu:=h.lt;have qy:=A7 ho;have l1:=fun (o:Obj) ty=>(ho.alloc o).len (t:=109) underlying109 ty;have hl:=hp.size;have hsz:Maps.size (.map D:A3 Ft)=es.length:=hl;have C1:=Ab (hp.canon (ho.canon qh));have qt:Hid (∀o1 o2,((w.alloc o1).alloc o2).ownsMap AS 9 RV m n (.map D)):=Ab (fun o1 o2=>(ho.alloc o1).alloc o2);have old:∀ (o:Obj) (j:Nat),(w.alloc o).cell? ⟨b,j,none⟩=w.cell? ⟨b,j,none⟩:=fun o j=>AI (w:=w) (AT w o b qu);have d0:∀o,(w.alloc o).cell? ⟨b,0,none⟩=some (.int .i64 6):=fun o=>(old o 0).trans c0;have d6:∀o,(w.alloc o).cell? ⟨b,6,none⟩=some (.map (some m)):=fun o=>(old o 6).trans c6;have q0:Hid (∀w0,((w.alloc (.cells #[.int .i64 6,.bool false,.string ⟨#[]⟩,.int .i64 0,.string ⟨#[]⟩,.slice none 0 0,.map (some (w.heap.size+1))] 111)).alloc (.map #[] 0)).grownBy w0 none->w0.heap.size=w.heap.size+3 ->
   ClO f w es (has (.map D:A3 Ft)) (Maps.size (.map D:A3 Ft)) w0):=by
  intro w0 hg hs;obtain⟨W1,hW⟩:∃W1,W1=w.alloc (.cells #[.int .i64 6,.bool false,.string ⟨#[]⟩,.int .i64 0,.string ⟨#[]⟩,.slice none 0 0,.map (some (w.heap.size+1))] 111):=⟨_,rfl⟩
  rw[<- hW] at hg;have e1:W1.heap.size=w.heap.size+1:=by rw[hW];simp
  have hvb:VB W1 w.heap.size 6 n0 [] (.slice none 0 0) (.map (some (w.heap.size+1))):=by rw[hW];exact D3 w _
  have qf:A5 w.heap.size w W1:=by rw[hW];exact (Dt _ _).alloc (A4 _) _
  have q4:=World.ownsMap_made W1 AS 9 RV;rw[e1] at q4;have hk:∀j,j<w.heap.size+2->w0.heap[j]? = (W1.alloc (.map #[] 0)).heap[j]?:=fun j hj=>hg.block j (by simp;omega) (by simp);have hb2:=qf.alloc (by omega) (.map #[] 0);refine⟨⟨hg.os.trans hb2.os,hg.tape.trans hb2.tape,hg.output.trans hb2.output,by omega,fun j hj=>(hk j (by omega)).trans (hb2.block j hj)⟩,
   (hvb.kept (AT W1 _ _ hvb.lt)).kept (hk _ (by omega)),by omega,0,[],[],by omega,Aj q4 (hk _ (by omega)),TrM.nil _ _ _,?_,?_⟩
  ·intro k;rw[hp.has k];cases A1 (.map es:A3 Unit) k<;>rfl
  ·intro k hk;cases hk
 have HP:=Ab hp;have HS:=Ab hS;have qx:=Ab qn;clear hp hS h ho qn old hl
 go_enter func201,ntmps201
 go_wp2_with (first
  | (at_range;refine HE _ rfl _ 109 rfl 9 80 qh underlying109 RV m n _ rfl (Aa qt _ _) ?_;intro w0 q7 qm qj)
  | go_in)
 have e0:(((w.alloc (.cells #[.int .i64 6,.bool false,.string ⟨#[]⟩,.int .i64 0,.string ⟨#[]⟩,.slice none 0 0,.map (some (w.heap.size+1))] 111)).alloc (.map #[] 0))).heap.size=w.heap.size+2:=by simp
 have qg:=Ab (Aa q0 w0 qm (by rw[qj];simp));rw[e0] at q7;clear qm qj q0
 go_loopw [7] (fun _ wr=>∃ (left:Lit->Bool) (cnt:Nat),wr.ranges AS 9 RV m (w.heap.size+2) n (.map D) left cnt/\Hid (ClO f w es left cnt wr))
  (fun _ wr=>wr.rangeLeft m (w.heap.size+2))
 case atStart=>exact⟨_,_,q7,qg⟩
 case round=>
  obtain⟨left,cnt,qk,G⟩:=hrel
  go_wp2_with (first
   | (at_next;refine G2 _ rfl _ rfl 9 qh RV id id (fun key _ _=>⟨key,rfl⟩) (fun v _ _=>⟨v,rfl⟩) m (w.heap.size+2) n _ _ _ rfl qk ?_ ?_)
   | go_in)
  ·intro _ hl0;have HD:=Ab ((Aa G).done (Aa C1) hl0);have HB:=Ab (Aa G).bel
   go_wp2_with (fail)
   go_ret;exact⟨rfl,Aa HB,Aa HD⟩
  ·intro x c kl yd yp w1 cnt1 qb qv hv qi qe hlt qw z6 z1;have qd:HK c=yd:=congrArg Prod.fst (DD hv);subst qd;have q5:A1 (.map D) kl=true:=G3 qi
   obtain⟨c',e1,q9⟩:=(Aa HP).at kl q5;have e2:c'=c:=by
    have e3:=(e1 .nil).symm.trans (qi .nil);injection e3
   subst e2;have q6:A1 (.map es:A3 Unit) kl=true:=by rw[<- (Aa HP).has kl];exact q5
   have G1:=(Aa G).next qw;have qo:Hid (∀wx,A5 w.heap.size w wx->F5 AS 201 #[c'] wx fun e w'=>∃p,e=.returned (.pointer (some p))/\A5 wx.heap.size wx w'/\Tr f wx.heap.size w' (.pointer (some p)) ((A2 es).atKey kl .nil)):=Ab (fun wx hb=>Aa HS kl q6 F wx c' (q9.bel hb));have qp:=Ab (fun (w2:CH) (p:Addr) (hb:A5 w1.heap.size w1 w2) (hv:Tr f w1.heap.size w2 (.pointer (some p)) ((A2 es).atKey kl .nil))=>G1.step (Aa C1) hlt (Aa qx) qb qv q6 hb hv);have qV:=G1.box.c6;have HB:=Ab G1.bel;clear qi q9 q6 e1 q5 hv
   go_wp2_with (fail)
   go_region_with (go_at_call 201;refine (Aa qo _ ?_).mono ?_;exact⟨(Aa HB).os,(Aa HB).tape,(Aa HB).output,(Aa HB).size,(Aa HB).block⟩;rintro e w2 ⟨p,rfl,hb2,qd⟩;have hb3:A5 w1.heap.size w1 w2:=⟨hb2.os,hb2.tape,hb2.output,hb2.size,hb2.block⟩;obtain⟨y1,w3,qr,qg,qq⟩:=Aa qp w2 p hb3 qd)
   all_goals (
    have q8:=(qe.kept (A9 hb3) (by simp) (by simp)).kept qq (fun e=>by have:=DD e;omega) (fun e=>by have:=DD e;omega)
    go_wp2_with (fail)
    go_roundw
    case rel=>exact⟨_,cnt1,q8,qg⟩
    case measure=>rw[q8.left_eq,qk.left_eq];exact hlt)
end
def bC:Nat->To->Prop
 | 0,_=>True
 | f+1,d=>match d with
  | .slice es _=>es.length<=1000000000000 /\ ∀e∈es,bC f e
  | .map es=>es.length<=1000000000000 /\ ∀p∈es,bC f p.2
  | _=>True
theorem QB(hS:∀a,bC f a->Gq f a)(a:To)(hn:bC (f+1) a):Gq (f+1) a:=by
 intro F w v ha;obtain⟨b,rfl,_,ha⟩:=ha;rcases ha with⟨k,hk,rfl,h⟩|⟨n,rfl,h,q4⟩|⟨s,rfl,h⟩|⟨es,sl,ps,rfl,h,ho,_,hal⟩|⟨es,m,n,D,rfl,h,_,ho,hp⟩
 ·refine (GO h (by omega) (by omega)).mono ?_;rintro e w' ⟨rfl,hb,hv⟩;exact⟨_,rfl,hb,Tr.leafW (A4 _) hk hv⟩
 ·refine (GO h (by omega) (by omega)).mono ?_;rintro e w' ⟨rfl,hb,hv⟩;exact⟨_,rfl,hb,Tr.leafN (A4 _) hv q4⟩
 ·refine (GO h (by omega) (by omega)).mono ?_;rintro e w' ⟨rfl,hb,hv⟩;exact⟨_,rfl,hb,Tr.leafS (A4 _) hv⟩
 ·obtain⟨n1,n2⟩:=hn;refine (SU (fun d hd=>hS d (n2 d hd)) h ho hal (by have:=hal.length;omega)).mono ?_;rintro e w' ⟨rfl,hb,hv⟩;exact⟨_,rfl,hb,hv⟩
 ·obtain⟨n1,n2⟩:=hn;refine (ST (fun k hk=>by
   obtain⟨p,q0,e⟩:=NJ hk;rw[e];exact hS _ (n2 p q0)) h ho hp (by unfold HG;omega)).mono ?_
  rintro e w' ⟨rfl,hb,hv⟩;exact⟨_,rfl,hb,hv⟩
theorem Gs:∀ (f:Nat) (a:To),bC f a->Gq f a
 | 0,_,_=>fun _ _ _ h=>h.elim
 | f+1,a,hn=>QB (Gs f) a hn
end Go.Proofs.YtdpomdelmdofmaaGreatDoor
