import Derived.Test.YtdpomdelmdofmaaGreatDoorRea06
import Derived.Lib.Builder
import Derived.Lib.AppendStr
import Derived.Lib.Strings
import Derived.Laws.Externs
open Go.Lib renaming cell_of_heap->AI,frozen_of_heap->Bs,alloc_old->Dp,runeCells->Dt,strCells->FD
open List renaming nodup_append->AS,mem_append_right->A4,nodup_cons->CD,mem_append_left->CL,mem_of_getElem?->CR,flatMap_append->C2,flatMap_cons->DD,getElem?_map->D0,mem_flatMap->D1
open Go renaming World->AT,Value->A3,Calls->D3
open Option renaming map_eq_some_iff->A1
open Go.Proofs.Tryz renaming prog->A2
open Or renaming inr->A5,inl->Ft
open Array renaming getElem?_eq_some_iff->A6
open Go.Lib.BuilderAt renaming put->BY
open Go.Oper renaming upon_value->CH
open Go.Result renaming andThen->C1
open Nat renaming lt_succ_self->D2
open List.Perm renaming refl->E0
open Go.RowKit.Below renaming refl->F1
open Go.DataW renaming agg->F2
set_option maxHeartbeats 4000000
set_option maxRecDepth 100000
namespace Go.Proofs.YtdpomdelmdofmaaGreatDoor
open Go.Proofs.Tryz Go.RowKit
variable{f i b:Nat}{w:AT}{a c n:dS}{p:List Nat}
def AJ(a:dS):List dS:=match a with
 | .agg [.lit (.int _ _),.lit (.int _ _),x]=>(match x with
  | .slice al _=>al
  | .map es=>es.map Prod.snd
  | _=>[])
 | _=>[]
def gE(a:dS)(i:Nat)(c:dS):dS:=match a with
 | .agg [.lit (.int k b),.lit (.int l g),x]=>(match x with
  | .slice al _=>.agg [.lit (.int k b),.lit (.int l g),.slice (al.set i c) []]
  | .map es=>.agg [.lit (.int k b),.lit (.int l g),.map (es.modify i fun p=>(p.1,c))]
  | y=>.agg [.lit (.int k b),.lit (.int l g),y])
 | y=>y
theorem BW(b g:Nat)(al:List dS):AJ (dW b g (.slice al []))=al:=rfl
theorem BH(b g:Nat)(es:List (Lit×dS)):AJ (dW b g (.map es))=es.map Prod.snd:=rfl
theorem E8(b g k:Nat):AJ (dW b g (AF k))=[]:=rfl
theorem FS(b g:Nat)(n:Nm):AJ (dW b g (Bd n))=[]:=rfl
theorem FR(b g:Nat)(s:By):AJ (dW b g (Ao s))=[]:=rfl
theorem QH(b g i:Nat)(al:List dS)(c:dS):gE (dW b g (.slice al [])) i c=dW b g (.slice (al.set i c) []):=rfl
theorem LG(b g i:Nat)(es:List (Lit×dS))(c:dS):gE (dW b g (.map es)) i c=dW b g (.map (es.modify i fun p=>(p.1,c))):=rfl
theorem C4{α β:Type}(q:α->List β):∀ (l:List α) (i:Nat) (a:α),l[i]? = some a -> ∃l1 l2,l=l1++a::l2/\l1.length=i
 | [],i,a,h=>by simp at h
 | x::r,0,a,h=>⟨[],r,by grind,rfl⟩
 | x::r,i+1,a,h=>by
  obtain⟨l1,l2,e,e2⟩:=C4 q r i a (by grind)
  grind
theorem Al.app{α β:Type}{P:α->β->Prop}:∀ {l:List α} {m1 m2:List β},Al P l (m1++m2) -> ∃l1 l2,l=l1++l2/\Al P l1 m1/\Al P l2 m2
 | l,[],m2,h=>⟨[],l,rfl,trivial,h⟩
 | [],_::_,_,h=>h.elim
 | a::r,b::m1,m2,⟨h1,h2⟩=>by
  obtain⟨l1,l2,e,h3,h4⟩:=Al.app h2;exact⟨a::l1,l2,by rw[e];rfl,⟨h1,h3⟩,h4⟩
theorem Al.append{α β:Type}{P:α->β->Prop}:∀ {l1 l2:List α} {m1 m2:List β},Al P l1 m1->Al P l2 m2->Al P (l1++l2) (m1++m2)
 | [],_,[],_,_,h=>h
 | _::_,_,_::_,_,⟨a,b⟩,h=>⟨a,Al.append b h⟩
theorem Pt.app{P:A3->To->Prop}:∀ {l:List (Lit×DataW A3)} {m1 m2:List (Lit×To)},Pt P l (m1++m2) -> ∃l1 l2,l=l1++l2/\Pt P l1 m1/\Pt P l2 m2
 | l,[],m2,h=>⟨[],l,rfl,trivial,h⟩
 | [],_::_,_,h=>h.elim
 | a::r,b::m1,m2,⟨h1,h2⟩=>by
  obtain⟨l1,l2,e,h3,h4⟩:=Pt.app h2;exact⟨a::l1,l2,by rw[e];rfl,⟨h1,h3⟩,h4⟩
theorem Pt.append{P:A3->To->Prop}:∀ {l1 l2:List (Lit×DataW A3)} {m1 m2:List (Lit×To)},Pt P l1 m1->Pt P l2 m2->Pt P (l1++l2) (m1++m2)
 | [],_,[],_,_,h=>h
 | _::_,_,_::_,_,⟨a,b⟩,h=>⟨a,Pt.append b h⟩
theorem E7{α:Type}(q:α->α)(a:α)(l2:List α):∀l1:List α,(l1++a::l2).modify l1.length q=l1++q a::l2
 | []=>rfl
 | x::r=>by simp only[List.cons_append,List.length_cons,List.modify_succ_cons,E7 q a l2 r]
theorem Ad.kid{w':AT}{v:A3}{c':dS}(h:Ad (f+1) w v a)(hi:(AJ a)[i]? = some c)(hn:(fp (f+1) a).Nodup)(hk:∀k∈fp (f+1) a,k ∉ fp f c->w'.heap[k]? = w.heap[k]?)(hc:∀u,Ad f w u c->Ad f w' u c'):Ad (f+1) w' v (gE a i c'):=by
 obtain⟨b,g,x,rfl,hv,h⟩:=h;rcases h with⟨k,h1,h2,rfl,h⟩|⟨n,h2,rfl,h,qd⟩|⟨s,h2,rfl,h⟩|⟨al,sl,ps,rfl,h,ho,hs,ha⟩|⟨es,n,D,rfl,h,ho,hp⟩
 ·rw[E8] at hi;simp at hi
 ·rw[FS] at hi;simp at hi
 ·rw[FR] at hi;simp at hi
 ·rw[BW] at hi;obtain⟨l1,l2,rfl,hl⟩:=C4 (fp f) al i c hi;rw[AP,C2,DD] at hn hk;obtain⟨q1,q2,rfl,q6,q0⟩:=ha.app;cases q2 with
  | nil=>exact q0.elim
  | cons u q2=>
   obtain⟨hu,q0⟩:=q0;rw[QH,List.set_append_right _ _ (by omega),show i-l1.length=0 by omega,List.set_cons_zero];obtain⟨n1,n2⟩:=CD.1 hn;obtain⟨n3,n4,n5⟩:=AS.1 n2;obtain⟨n6,n7,n8⟩:=AS.1 n4;obtain⟨n9,qb,q7⟩:=AS.1 n7;refine⟨b,g,_,rfl,hv,A5 (A5 (A5 (Ft ⟨_,sl,q1++u::q2,rfl,h.kept (hk b (by simp) fun hb=>n1 ?_),Be ho fun g' q8=>hk g' ?_ fun hb=>?_,hs,Al.append (Al.mem (fun u' d hd q4=>Ad.move (fun k q5=>hk k ?_ fun hb=>?_) q4) q6) ⟨hc u hu,Al.mem (fun u' d hd q4=>Ad.move (fun k q5=>hk k ?_ fun hb=>?_) q4) q0⟩⟩)))⟩
   ·grind
   ·obtain⟨rfl,h0⟩:=GL hs q8;simp[h0]
   ·simp_all
   ·exact List.mem_cons_of_mem _ (A4 _ (by grind))
   ·exact n8 k (D1.2 ⟨d,hd,q5⟩) k (CL _ hb) rfl
   ·grind
   grind
 ·rw[BH] at hi;rw[D0] at hi;obtain⟨⟨key,c2⟩,q9,rfl⟩:=A1.1 hi;obtain⟨l1,l2,rfl,hl⟩:=C4 (fun p=>fp f p.2) es i _ q9;rw[Bo,C2,DD] at hn hk;obtain⟨q1,q2,rfl,q6,q0⟩:=hp.app;cases q2 with
  | nil=>exact q0.elim
  | cons u q2=>
   obtain⟨⟨ku,xu,eu,hu⟩,q0⟩:=q0;have em:(l1++(key,c2)::l2).modify i (fun p=>(p.1,c'))=l1++(key,c')::l2:=by
    rw[<- hl];exact E7 _ _ _ _
   rw[LG,em];obtain⟨n1,n2⟩:=CD.1 hn;obtain⟨n3,n4⟩:=CD.1 n2;obtain⟨n6,n7,n8⟩:=AS.1 n4;obtain⟨n9,qb,q7⟩:=AS.1 n7;refine⟨b,g,_,rfl,hv,A5 (A5 (A5 (A5 ⟨_,n,q1++u::q2,rfl,h.kept (hk b (by simp) fun hb=>n1 ?_),An ho (hk g (by simp) fun hb=>n3 ?_),Pt.append (Pt.mem (fun u' d hd q4=>Ad.move (fun k q5=>hk k ?_ fun hb=>?_) q4) q6) ⟨⟨ku,xu,eu,hc xu hu⟩,Pt.mem (fun u' d hd q4=>Ad.move (fun k q5=>hk k ?_ fun hb=>?_) q4) q0⟩⟩)))⟩
   ·grind
   ·exact A4 _ (CL _ hb)
   ·grind
   ·grind
   ·grind
   ·exact q7 k hb k (D1.2 ⟨d,hd,q5⟩) rfl
def eD:List Nat->dS->Option dS
 | [],a=>some a
 | i::r,a=>match (AJ a)[i]? with
  | some c=>eD r c
  | none=>none
def eI:List Nat->dS->dS->dS
 | [],n,_=>n
 | i::r,n,a=>match (AJ a)[i]? with
  | some c=>gE a i (eI r n c)
  | none=>a
theorem Cl{r:List Nat}(h:eD (i::r) a=some n):∃c,(AJ a)[i]? = some c/\eD r c=some n:=by
 grind [eD]
theorem BN{r:List Nat}(n:dS)(h:(AJ a)[i]? = some c):eI (i::r) n a=gE a i (eI r n c):=by
 rw[eI,h]
theorem Gl(h:(AJ a)[i]? = some c):(∃k b l g al x,a=.agg [.lit (.int k b),.lit (.int l g),.slice al x]/\al[i]? = some c)\/(∃k b l g es key,a=.agg [.lit (.int k b),.lit (.int l g),.map es]/\es[i]? = some (key,c)):=by
 unfold AJ at h
 grind
theorem Uu(h:(AJ a)[i]? = some c):∃rest,(fp (f+1) a).Perm (rest++fp f c) /\ ∀c',(fp (f+1) (gE a i c')).Perm (rest++fp f c'):=by
 rcases Gl h with⟨k,b,l,g,al,x,rfl,h7⟩|⟨k,b,l,g,es,key,rfl,h7⟩
 ·obtain⟨l1,l2,rfl,hl⟩:=C4 (fp f) al i c h7;have e (y:List dS) (z:List dS):fp (f+1) (.agg [.lit (.int k b),.lit (.int l g),.slice y z])=b.toNat::((if g=0 then [] else [g.toNat])++y.flatMap (fp f)):=rfl;have p (c':dS):(b.toNat::((if g=0 then [] else [g.toNat])++(l1++c'::l2).flatMap (fp f))).Perm ((b.toNat::((if g=0 then [] else [g.toNat])++(l1.flatMap (fp f)++l2.flatMap (fp f))))++fp f c'):=by
   grind
  refine⟨_,by rw[e];exact p c,fun c'=>?_⟩;have e2:gE (.agg [.lit (.int k b),.lit (.int l g),.slice (l1++c::l2) x]) i c'=.agg [.lit (.int k b),.lit (.int l g),.slice (l1++c'::l2) []]:=by
   show F2 [.lit (.int k b),.lit (.int l g),.slice ((l1++c::l2).set i c') []]=_
   grind
  grind
 ·obtain⟨l1,l2,rfl,hl⟩:=C4 (fun p=>fp f p.2) es i (key,c) h7;have e (y:List (Lit×dS)):fp (f+1) (.agg [.lit (.int k b),.lit (.int l g),.map y])=b.toNat::g.toNat::y.flatMap (fun p=>fp f p.2):=rfl;have p (c':dS):(b.toNat::g.toNat::(l1++(key,c')::l2).flatMap (fun p=>fp f p.2)).Perm ((b.toNat::g.toNat::(l1.flatMap (fun p=>fp f p.2)++l2.flatMap (fun p=>fp f p.2)))++fp f c'):=by
   grind
  refine⟨_,by rw[e];exact p c,fun c'=>?_⟩;have e2:gE (.agg [.lit (.int k b),.lit (.int l g),.map (l1++(key,c)::l2)]) i c'=.agg [.lit (.int k b),.lit (.int l g),.map (l1++(key,c')::l2)]:=by
   show F2 [.lit (.int k b),.lit (.int l g),.map ((l1++(key,c)::l2).modify i fun p=>(p.1,c'))]=_;rw[<- hl,E7]
  grind
theorem GR{f:Nat}:∀ {p:List Nat} {a n:dS},eD p a=some n -> ∃rest,(fp (f+p.length) a).Perm (rest++fp f n) /\ ∀n',(fp (f+p.length) (eI p n' a)).Perm (rest++fp f n')
 | [],a,n,h=>by
  injection h with h;subst h;exact⟨[],E0 _,fun n'=>E0 _⟩
 | i::r,a,n,h=>by
  obtain⟨c,hc,h2⟩:=Cl h;obtain⟨rest,h3,h4⟩:=GR (f:=f) h2;obtain⟨q0,h5,h6⟩:=Uu (f:=f+r.length) hc;refine⟨q0++rest,?_,fun n'=>?_⟩
  ·grind
  ·rw[List.append_assoc,BN n' hc];grind
theorem Dj(h:eD p a=some n):∀k∈fp f n,k∈fp (f+p.length) a:=by
 obtain⟨rest,h1,_⟩:=GR (f:=f) h
 grind
theorem BI(h:eD p a=some n)(hn:(fp (f+p.length) a).Nodup):(fp f n).Nodup:=by
 obtain⟨rest,h1,_⟩:=GR (f:=f) h
 grind
theorem Tv{n':dS}(h:eD p a=some n)(hn:(fp (f+p.length) a).Nodup)(q0:(fp f n').Nodup)(hd:∀k∈fp f n',k∈fp (f+p.length) a->k∈fp f n):(fp (f+p.length) (eI p n' a)).Nodup:=by
 obtain⟨rest,h1,h2⟩:=GR (f:=f) h
 grind
theorem ZL{n':dS}(h:eD p a=some n):∀k∈fp (f+p.length) (eI p n' a),k∈fp (f+p.length) a\/k∈fp f n':=by
 obtain⟨rest,h1,h2⟩:=GR (f:=f) h
 grind
theorem Ad.at{f:Nat}{w:AT}:∀ {p:List Nat} {v:A3} {a n:dS},Ad (f+p.length) w v a->eD p a=some n -> ∃u,Ad f w u n
 | [],v,a,n,h,hs=>by
  injection hs with hs
  grind
 | i::r,v,a,n,h,hs=>by
  obtain⟨c,hc,h2⟩:=Cl hs;obtain⟨b,g,x,rfl,hv,h⟩:=(show Ad ((f+r.length)+1) w v a from h)
  rcases h with⟨k,_,_,rfl,h⟩|⟨n,_,rfl,h,q0⟩|⟨s,_,rfl,h⟩|⟨al,sl,ps,rfl,h,ho,hs,ha⟩|⟨es,n,D,rfl,h,ho,hp⟩
  ·rw[E8] at hc;simp at hc
  ·rw[FS] at hc;simp at hc
  ·rw[FR] at hc;simp at hc
  ·rw[BW] at hc;obtain⟨u,hu⟩:=ha.right (CR hc);exact Ad.at hu h2
  ·rw[BH,D0] at hc;obtain⟨q,hq,rfl⟩:=A1.1 hc;obtain⟨u,hu⟩:=hp.right (CR hq);exact Ad.at hu h2
theorem Ad.put{f:Nat}{w w':AT}{n':dS}:∀ {p:List Nat} {v:A3} {a n:dS},Ad (f+p.length) w v a->eD p a=some n->(fp (f+p.length) a).Nodup ->
  (∀k∈fp (f+p.length) a,k ∉ fp f n->w'.heap[k]? = w.heap[k]?)->(∀u,Ad f w u n->Ad f w' u n')->Ad (f+p.length) w' v (eI p n' a)
 | [],v,a,n,h,hs,_,_,hc=>by
  injection hs with hs;subst hs;exact hc v h
 | i::r,v,a,n,h,hs,hn,hk,hc=>by
  obtain⟨c,q0,h2⟩:=Cl hs;rw[BN n' q0];obtain⟨rest,h5,h6⟩:=Uu (f:=f+r.length) q0;have q5:=(AS.1 (h5.nodup_iff.1 hn)).2.1;refine Ad.kid (f:=f+r.length) h q0 hn (fun k q4 hk2=>hk k q4 fun q6=>hk2 (Dj h2 k q6)) fun u hu=>?_;exact Ad.put hu h2 q5 (fun k q4 hk2=>hk k (h5.mem_iff.2 (A4 _ q4)) hk2) hc
theorem Q9:(Tryz.prog.info? 5).map (fun i=>(i.zero,i.size,i.bytes))=some (some (.int .u8 0),1,1):=by kernel_rfl
theorem Vj:(Tryz.prog.info? 119).map (fun i=>decide (0<i.size))=some true:=by kernel_rfl
abbrev IsB(B b:Nat)(bs:List A3)(w:AT):Prop:=Lib.IsBuilder 119 5 B b bs w
abbrev BAt(B b:Nat)(bs:List A3)(w:AT):Prop:=Lib.BuilderAt 119 5 B b (.pointer (some ⟨b,0,none⟩)) bs w
def OKz(b:Nat)(w w':AT):Prop:=∀k o,w.heap[k]? = some o->k≠b->(∀c,o ≠ .cells c 5 (0,0))->w'.heap[k]? = some o
theorem OKz.refl(b:Nat)(w:AT):OKz b w w:=fun _ _ h _ _=>h
theorem OKz.trans{w1 w2 w3:AT}(h:OKz b w1 w2)(g:OKz b w2 w3):OKz b w1 w3:=fun k o h1 h2 h3=>g k o (h k o h1 h2 h3) h2 h3
theorem OKz.setCell(b:Nat)(w:AT)(j:Nat)(v:A3):OKz b w (w.setCell ⟨b,j,none⟩ v):=fun _ _ h1 h2 _=>(Below.heap_setCell _ _ _ _ h2).trans h1
theorem OKz.below{w':AT}(h:Below w.heap.size w w'):OKz b w w':=fun k _ h1 _ _=>(h.block k (A6.1 h1).1).trans h1
theorem OKz.grown{B n:Nat}{v:A3}{xs:List A3}{w0 w2:AT}(q0:w.ownsRow B 5 1 v n xs)(h0:∀k,k<w.heap.size->w0.heap[k]? = w.heap[k]?)(hs:w.heap.size<=w0.heap.size)(hg:w0.grownBy w2 v.ownBlock):OKz b w w2:=by
 intro k o h1 _ h3;have hk:=(A6.1 h1).1;refine (hg.block k (by omega) ?_).trans ((h0 k hk).trans h1);intro hv;rcases q0.2 with⟨e,_⟩|⟨g,cap,cur,e,_,hb,_⟩
 ·rw[e] at hv;cases hv
 ·rw[e] at hv;injection hv with hv
  grind
theorem LK(b:Nat)(w:AT)(h0:w.cell? ⟨b,0,none⟩=some (.pointer (some ⟨b,0,none⟩))):
  D3 A2 142 #[.pointer (some ⟨b,0,none⟩)] w fun e w'=>e=.returned (.tuple #[])/\w'=w:=by
 obtain⟨j,hj,_⟩:=A1.1 Vj
 go_enter func142,ntmps142
 go_wp2
 rw[Lib.run_neq_ptr_same w _ underlying116 hj]
 go_wp2
 go_end0
 grind
theorem Zo:∃j,Tryz.prog.info? 119=some j/\0<j.size:=by
 obtain⟨j,hj,h⟩:=A1.1 Vj
 grind
theorem Lc(b:Nat)(w:AT)(h0:w.cell? ⟨b,0,none⟩=some (.pointer none))(q0:w.shape? b=some (119,2))(q4:w.frozen? ⟨b,0,none⟩=false):
  D3 A2 142 #[.pointer (some ⟨b,0,none⟩)] w fun e w'=>e=.returned (.tuple #[])/\w'=w.setCell ⟨b,0,none⟩ (.pointer (some ⟨b,0,none⟩)):=by
 obtain⟨j,hj,q5⟩:=Zo
 go_enter func142,ntmps142
 go_wp2
 rw[Lib.run_to_unsafe w ⟨b,0,none⟩ underlying116 underlying250 hj (by omega) q0 (Nat.zero_lt_succ 1)];simp only[C1];rw[CH]
 go_wp2
 rw[run_callFunc_extern func189 (by kernel_rfl) (by kernel_rfl) (by kernel_rfl) (e:=Extern.AbiNoEscape.same) (by kernel_rfl)];rw[Lib.run_noEscape];simp only[C1];rw[CH]
 go_wp2
 rw[Lib.run_from_unsafe w ⟨b,0,none⟩ underlying250 underlying116 hj q0 (by kernel_rfl)];simp only[C1];rw[CH]
 go_wp2
 go_end0
 grind
theorem Fo(B b:Nat)(bs:List A3)(w:AT)(h:IsB B b bs w):
  D3 A2 142 #[.pointer (some ⟨b,0,none⟩)] w fun e w'=>e=.returned (.tuple #[])/\BAt B b bs w'/\Below B w w'/\OKz b w w':=by
 rcases h with h|h
 ·refine (Lc b w h.cell0 h.shape h.frozen0).mono ?_;rintro e w' ⟨rfl,rfl⟩;exact⟨rfl,h.used _,(F1 B w).setCell (p:=⟨b,0,none⟩) h.1 _,OKz.setCell _ _ _ _⟩
 ·refine (LK b w h.cell0).mono ?_;rintro e w' ⟨rfl,rfl⟩;exact⟨rfl,h,F1 B _,OKz.refl _ _⟩
theorem Nv(B b:Nat)(bs:List A3)(c:Int)(w:AT)(h:IsB B b bs w)(q8:bs.length+1<=140737488355328)(qb:B<=w.heap.size):
  D3 A2 139 #[.pointer (some ⟨b,0,none⟩),.int .u8 c] w fun e w'=>e=.returned .nilIface/\BAt B b (bs++[.int .u8 c]) w'/\Below B w w'/\OKz b w w':=by
 obtain⟨i0,hi,hz0,q9,hz2⟩:=info_parts Q9
 go_enter func139,ntmps139
 go_wp2_with (fail);refine (Fo B b bs _ h).mono ?_
 rintro e w1 ⟨rfl,h1,hb1,q7⟩;obtain⟨hB,v,q6,q5,hne⟩:=h1;have c0:w1.cell? ⟨b,0,none⟩=some (.pointer (some ⟨b,0,none⟩)):=by rw[AI q6];rfl
 have c1:w1.cell? ⟨b,1,none⟩=some v:=by rw[AI q6];rfl
 go_wp2_with (at_builtin;refine wpList_append_own _ rfl _ _ 117 rfl B 5 i0 (.int .u8 0) 1 1 underlying117 hi hz0 q9 hz2 rfl (by decide) _ _ _ rfl (q5.alloc _) ⟨w1.heap.size,0,none⟩ 1 1 [.int .u8 c] rfl rfl ?c1 ?c2 ?c3 ?c4 ?c5 ?_)
 case c1=>
  intro j u hj
  match j,hj with
  | 0,hj=>simp at hj;subst hj;simp[Addr.add]
 case c2=>intro u hu;simp at hu;subst hu;rfl
 case c3=>unfold maxLen;omega
 case c4=>omega
 case c5=>have:=hb1.size;simp;omega
 intro v' w2 q4 q0 _;have hlt:b<w1.heap.size:=by grind
 have hb2:w2.heap[b]? = some (.cells #[.pointer (some ⟨b,0,none⟩),v] 119 (0,0)):=by
  rw[q0.block b (by simp;omega) (fun e=>hne e.symm),Dp w1 _ b hlt];exact q6
 have d0:w2.cell? ⟨b,0,none⟩=some (.pointer (some ⟨b,0,none⟩)):=by rw[AI hb2];rfl
 have d1:w2.cell? ⟨b,1,none⟩=some v:=by rw[AI hb2];rfl
 have f1:w2.frozen? ⟨b,1,none⟩=false:=Bs hb2 1;obtain⟨g,cap,rfl⟩:∃g cap,v'=.slice (some ⟨g,0,none⟩) (bs.length+1) cap:=by
  rcases q4.2 with⟨_,h0⟩|⟨g,cap,cur,hv,_⟩
  ·omega
  grind
 go_wp2_with (fail)
 go_ret;refine⟨rfl,?_,?_,(q7.trans (OKz.grown q5 (fun k hk=>Dp w1 _ k hk) (by simp) q0)).trans (OKz.setCell _ _ _ _)⟩
 ·exact BY hB hb2 (bs':=bs++[.int .u8 c]) (by simpa using q4) (by decide)
 ·exact ((hb1.alloc (by omega) _).grown q0 (by have:=hb1.size;simp;omega) (fun k hk=>(q5.lt k hk).1)).setCell (p:=⟨b,1,none⟩) hB _
theorem Lg(B b:Nat)(bs:List A3)(s:ByteArray)(w:AT)(h:IsB B b bs w)(q8:bs.length+s.size<=140737488355328)(_:B<=w.heap.size):
  D3 A2 107 #[.pointer (some ⟨b,0,none⟩),.string s] w fun e w'=>e=.returned (.tuple #[.int .i64 s.size,.nilIface])/\BAt B b (bs++FD s) w'/\Below B w w'/\OKz b w w':=by
 obtain⟨i0,hi,hz0,q9,hz2⟩:=info_parts Q9
 go_enter func107,ntmps107
 go_wp2_with (fail);refine (Fo B b bs _ h).mono ?_
 rintro e w1 ⟨rfl,h1,hb1,q7⟩;obtain⟨hB,v,q6,q4,hne⟩:=h1;have c0:w1.cell? ⟨b,0,none⟩=some (.pointer (some ⟨b,0,none⟩)):=by rw[AI q6];rfl
 have c1:w1.cell? ⟨b,1,none⟩=some v:=by rw[AI q6];rfl
 go_wp2_with (at_builtin;refine Lib.wpList_append_own_string _ rfl _ _ 117 9 rfl B 5 i0 underlying117 underlying9 hi hz0 q9 hz2 _ _ _ rfl q4 s rfl ?c3 ?c4 ?c5 ?_)
 case c3=>unfold maxLen;omega
 case c4=>omega
 case c5=>grind
 intro v' w2 q5 q0 _;have hlt:b<w1.heap.size:=by grind
 have hb2:w2.heap[b]? = some (.cells #[.pointer (some ⟨b,0,none⟩),v] 119 (0,0)):=by
  rw[q0.block b hlt (fun e=>hne e.symm)];exact q6
 have d0:w2.cell? ⟨b,0,none⟩=some (.pointer (some ⟨b,0,none⟩)):=by rw[AI hb2];rfl
 have d1:w2.cell? ⟨b,1,none⟩=some v:=by rw[AI hb2];rfl
 have f1:w2.frozen? ⟨b,1,none⟩=false:=Bs hb2 1;obtain⟨ao,n',cap,rfl⟩:∃ao n' cap,v'=.slice ao n' cap:=by
  rcases q5.2 with⟨hv,_⟩|⟨g,cap,cur,hv,_⟩
  ·grind
  grind
 go_wp2_with (fail)
 go_ret2
 refine⟨rfl,?_,?_,(q7.trans (OKz.grown q4 (fun k _=>rfl) (Nat.le_refl _) q0)).trans (OKz.setCell _ _ _ _)⟩
 ·exact BY hB hb2 (bs':=bs++FD s) (by grind [Lib.strCells_length,maxLen]) (by decide)
 ·exact (hb1.grown q0 (by omega) (fun k hk=>(q4.lt k hk).1)).setCell (p:=⟨b,1,none⟩) hB _
theorem Nu(B b:Nat)(bs:List A3)(r:Int)(qb:-2147483648<=r)(qd:r<=2147483647)(w:AT)(h:IsB B b bs w)(q8:bs.length+4<=140737488355328)(qf:B<=w.heap.size):
  D3 A2 221 #[.pointer (some ⟨b,0,none⟩),.int .i32 r] w fun e w'=>(∃n,e=.returned (.tuple #[.int .i64 n,.nilIface]))/\BAt B b (bs++Dt r) w'/\Below B w w':=by
 go_enter func221,ntmps221
 go_wp2_with (fail);refine (Fo B b bs _ h).mono ?_
 rintro e w1 ⟨rfl,h1,hb1,qe⟩;obtain⟨hB,v,q7,q5,hne⟩:=h1;obtain⟨ao,cap,rfl⟩:∃ao cap,v=.slice ao bs.length cap:=by
  rcases q5.2 with⟨hv,h0⟩|⟨g,cap,cur,hv,_⟩
  ·grind
  grind
 have c0:w1.cell? ⟨b,0,none⟩=some (.pointer (some ⟨b,0,none⟩)):=by rw[AI q7];rfl
 have c1:w1.cell? ⟨b,1,none⟩=some (.slice ao bs.length cap):=by rw[AI q7];rfl
 go_wp2_with (fail);refine (Tryz.utf8_AppendRune_plain B _ bs.length bs r qb qd _ q5 q8 (by grind)).mono ?_
 rintro e w2 ⟨v',rfl,q6,o,q0⟩;have hlt:b<w1.heap.size:=by grind
 have hb2:w2.heap[b]? = some (.cells #[.pointer (some ⟨b,0,none⟩),.slice ao bs.length cap] 119 (0,0)):=by
  rw[q0.block b (by simp;omega) (fun e=>hne e.symm),Dp w1 _ b hlt];exact q7
 have d0:w2.cell? ⟨b,0,none⟩=some (.pointer (some ⟨b,0,none⟩)):=by rw[AI hb2];rfl
 have d1:w2.cell? ⟨b,1,none⟩=some (.slice ao bs.length cap):=by rw[AI hb2];rfl
 have f1:w2.frozen? ⟨b,1,none⟩=false:=Bs hb2 1;have q9:∃g q4,v'=.slice g (bs.length+(Dt r).length) q4:=by
  rcases q6.2 with⟨hv,h0⟩|⟨g,q4,cur,hv,_⟩
  ·grind
  grind
 obtain⟨g,q4,rfl⟩:=q9
 go_wp2_with (fail)
 go_ret2
 refine⟨⟨_,rfl⟩,?_,?_⟩
 ·exact BY hB hb2 (bs':=bs++Dt r) (by grind) (by decide)
 ·exact ((hb1.alloc (by omega) _).grown q0 (by have:=hb1.size;simp;omega) (fun k hk=>(q5.lt k hk).1)).setCell (p:=⟨b,1,none⟩) hB _
theorem RD.uniq{R:Nat}{t t':ByteArray}{l l':By}{tw q5:Bool}{dp fr q0 q4:Int}(h:RD w R t l tw dp fr)(h':RD w R t' l' q5 q0 q4):t=t'/\l=l'/\tw=q5/\dp=q0/\fr=q4:=by
 obtain⟨p,a,h⟩:=h;obtain⟨p',a',h'⟩:=h';have e:=(show w.heap[R]? = _ from h).symm.trans (show w.heap[R]? = _ from h');simp at e;obtain⟨e1,e2,e3,e4,e5⟩:=e;subst e1;have:p=p':=by omega
 subst this;exact⟨rfl,a.eq.symm.trans a'.eq,e3,e4,e5⟩
structure Li{σ:Type}(g:FuncId)(caps:Array A3)(R:Nat)(t:ByteArray)(N:Nat)(item:By->σ->Option (By×σ))(I:AT->By->σ->Prop)(J:AT->Prop):Prop where
 rd:∀w l s,I w l s -> ∃tw dp fr,RD w R t l tw dp fr
 move:∀w w' l l' s tw dp fr,I w l s->RD w R t l tw dp fr->RD w' R t l' tw dp fr->Ae R w w'->l'.length<=l.length->I w' l' s
 out:∀w l s,I w l s->J w
 len:∀l s l' s',item l s=some (l',s')->l'.length<l.length
 call:∀w l s,I w l s->l.length<N->D3 A2 g caps w fun e w'=>
  (∃l' s',item l s=some (l',s')/\e=.returned (.bool true)/\I w' l' s')\/(item l s=none/\e=.returned (.bool false)/\J w')
def QF{σ:Type}(o:Option (By×σ))(e:Ending)(w':AT)(I:AT->By->σ->Prop)(J:AT->Prop):Prop:=
 (∃l' s',o=some (l',s')/\e=.returned (.bool true)/\I w' l' s')\/(o=none/\e=.returned (.bool false)/\J w')
theorem Wt{σ:Type}(p0 p1 p2:A3)(op cl:UInt8)(qh q4:Int)(q8:qh=op.toNat)(q7:q4=cl.toNat)(R:Nat)(t:ByteArray)(N:Nat)(item:By->σ->Option (By×σ))(I:AT->By->σ->Prop)(J:AT->Prop)(K:Li 219 #[p0,p1,p2] R t N item I J)(w:AT)(l:By)(s:σ)(hI:I w l s)(hN:l.length<=N):
  D3 A2 216 #[.pointer (some ⟨R,0,none⟩),.int .u8 qh,.int .u8 q4,.func (.func 219) #[] #[p0,p1,p2]] w fun e w'=>QF (Bn op cl item l s) e w' I J:=by
 obtain⟨tw,dp,fr,hr⟩:=K.rd _ _ _ hI;have HI:=Ab hI;have HO:=Ab q8;have HC:=Ab q7;clear hI q8 q7;by_cases k1:eA l op=true
 ·have K1:=Ab k1;have qq:=Bb k1;clear k1
  go_enter func216,ntmps216
  go_wp2_with (fail);refine (AG op qh (Aa HO) hr (Aa K1)).mono ?_
  rintro e w1 ⟨rfl,qe,qb⟩
  go_wp2_with (fail);refine (BZ qe).mono ?_
  rintro e w2 ⟨rfl,q5,hk2⟩;have qn:=AY l.tail;have I2:=Ab (K.move _ _ _ _ _ _ _ _ (Aa HI) hr q5 (qb.trans hk2) (by omega));by_cases k2:eA (eF l.tail) cl=true
  ·have K2:=Ab k2;clear k2
   go_wp2_with (fail);refine (AG cl q4 (Aa HC) q5 (Aa K2)).mono ?_
   rintro e w3 ⟨rfl,qf,qd⟩
   go_wp2_with (fail)
   go_ret;refine Ft ⟨_,s,?_,rfl,K.move _ _ _ _ _ _ _ _ (Aa I2) q5 qf qd (by grind)⟩
   unfold Bn;rw[Aa K1,Aa K2];rfl
  ·have K2:=Ab (A7 k2);clear k2
   go_wp2_with (fail);refine (Bk cl q4 (Aa HC) q5 (Aa K2)).mono ?_
   rintro e w3 ⟨rfl,qf,qd⟩;have I3:=Ab (K.move _ _ _ _ _ _ _ _ (Aa I2) q5 qf qd (by omega));have hE:Hid (Bn op cl item l s=gB cl item ((eF l.tail).length+1) (eF l.tail) s):=by
    unfold Hid Bn;rw[Aa K1,Aa K2];rfl
   have hb:(eF l.tail).length<N:=by omega
   generalize eF l.tail=l2 at *;clear hr qe q5 qb hk2 qd K1 K2 HI I2 qq qn hN
   go_wp2_with (fail)
   go_loopw [18] (fun _ wr=>∃ (n:Nat) (l':By) (s':σ),I wr l' s'/\l'.length<n/\l'.length<N/\gB cl item (l2.length+1) l2 s=gB cl item n l' s') (fun _ wr=>left wr R)
   case atStart=>exact⟨_,l2,s,Aa I3,D2 _,hb,rfl⟩
   case round=>
    obtain⟨n,l',s',hi,hn,qy,he⟩:=hrel;obtain⟨m,rfl⟩:∃m,n=m+1:=⟨n-1,by omega⟩
    obtain⟨tw,dp,fr,hr⟩:=K.rd _ _ _ hi;have HI:=Ab hi;have HE:=Ab he;have HL:=Ab hr.left;have qn:=AY l';clear hi he I3 qf
    go_wp2_with (fail);refine (BZ hr).mono ?_
    rintro e w4 ⟨rfl,qr,qo⟩;have I4:=Ab (K.move _ _ _ _ _ _ _ _ (Aa HI) hr qr qo (by omega))
    go_wp2_with (fail);refine (K.call _ _ _ (Aa I4) (by omega)).mono ?_
    rintro e w5 hc;rcases hc with⟨l5,s5,hit,rfl,qi⟩|⟨hit,rfl,hJ⟩
    ·obtain⟨qz,qu,qv,qm⟩:=K.rd _ _ _ qi;have I5:=Ab qi;have q6:=Ab hit;have qx:=K.len _ _ _ _ hit;have qt:=AY l5;clear qi hit
     go_wp2_with (fail);refine (BZ qm).mono ?_
     rintro e w6 ⟨rfl,q9,qp⟩;have I6:=Ab (K.move _ _ _ _ _ _ _ _ (Aa I5) qm q9 qp (by omega));by_cases k3:eA (eF l5) cl=true
     ·have K3:=Ab k3;clear k3
      go_wp2_with (fail);refine (AG cl q4 (Aa HC) q9 (Aa K3)).mono ?_
      rintro e w7 ⟨rfl,q0,qj⟩
      go_wp2_with (fail)
      go_ret;refine Ft ⟨_,s5,?_,rfl,K.move _ _ _ _ _ _ _ _ (Aa I6) q9 q0 qj (by grind)⟩
      rw[Aa hE,Aa HE,gB,Aa q6];simp only;rw[Aa K3];rfl
     ·have K3:=Ab (A7 k3);clear k3
      go_wp2_with (fail);refine (Bk cl q4 (Aa HC) q9 (Aa K3)).mono ?_
      rintro e w7 ⟨rfl,q0,qj⟩;have I7:=Ab (K.move _ _ _ _ _ _ _ _ (Aa I6) q9 q0 qj (by omega));by_cases k4:eA (eF l5) 44=true
      ·have K4:=Ab k4;have qw:=Bb k4;clear k4
       go_wp2_with (fail);refine (AG 44 _ rfl q0 (Aa K4)).mono ?_
       rintro e w8 ⟨rfl,qg,qk⟩;have I8:=Ab (K.move _ _ _ _ _ _ _ _ (Aa I7) q0 qg qk (by omega))
       go_wp2_with (fail)
       go_roundw
       case rel=>
        refine⟨m,_,s5,Aa I8,by omega,by omega,?_⟩;rw[Aa HE,gB,Aa q6];simp only;rw[Aa K3,Aa K4];rfl
       case measure=>rw[qg.left,Aa HL];omega
      ·have K4:=Ab (A7 k4);clear k4
       go_wp2_with (fail);refine (Bk 44 _ rfl q0 (Aa K4)).mono ?_
       rintro e w8 ⟨rfl,qg,qk⟩
       go_wp2_with (fail)
       go_ret;refine A5 ⟨?_,rfl,K.out _ _ _ (K.move _ _ _ _ _ _ _ _ (Aa I7) q0 qg qk (by omega))⟩
       rw[Aa hE,Aa HE,gB,Aa q6];simp only;rw[Aa K3,Aa K4];rfl
    ·have q6:=Ab hit;clear hit
     go_wp2_with (fail)
     go_ret;refine A5 ⟨?_,rfl,hJ⟩
     rw[Aa hE,Aa HE,gB,Aa q6]
 ·have K1:=Ab (A7 k1);clear k1
  go_enter func216,ntmps216
  go_wp2_with (fail);refine (Bk op qh (Aa HO) hr (Aa K1)).mono ?_
  rintro e w1 ⟨rfl,qe,qb⟩
  go_wp2_with (fail)
  go_ret;refine A5 ⟨?_,rfl,K.out _ _ _ (K.move _ _ _ _ _ _ _ _ (Aa HI) hr qe qb (by omega))⟩
  unfold Bn;rw[Aa K1];rfl
theorem Ws{σ:Type}(p0 p1 p2:A3)(op cl:UInt8)(qh q4:Int)(q8:qh=op.toNat)(q7:q4=cl.toNat)(R:Nat)(t:ByteArray)(N:Nat)(item:By->σ->Option (By×σ))(I:AT->By->σ->Prop)(J:AT->Prop)(K:Li 217 #[p0,p1,p2] R t N item I J)(w:AT)(l:By)(s:σ)(hI:I w l s)(hN:l.length<=N):
  D3 A2 216 #[.pointer (some ⟨R,0,none⟩),.int .u8 qh,.int .u8 q4,.func (.func 217) #[] #[p0,p1,p2]] w fun e w'=>QF (Bn op cl item l s) e w' I J:=by
 obtain⟨tw,dp,fr,hr⟩:=K.rd _ _ _ hI;have HI:=Ab hI;have HO:=Ab q8;have HC:=Ab q7;clear hI q8 q7;by_cases k1:eA l op=true
 ·have K1:=Ab k1;have qq:=Bb k1;clear k1
  go_enter func216,ntmps216
  go_wp2_with (fail);refine (AG op qh (Aa HO) hr (Aa K1)).mono ?_
  rintro e w1 ⟨rfl,qe,qb⟩
  go_wp2_with (fail);refine (BZ qe).mono ?_
  rintro e w2 ⟨rfl,q5,hk2⟩;have qn:=AY l.tail;have I2:=Ab (K.move _ _ _ _ _ _ _ _ (Aa HI) hr q5 (qb.trans hk2) (by omega));by_cases k2:eA (eF l.tail) cl=true
  ·have K2:=Ab k2;clear k2
   go_wp2_with (fail);refine (AG cl q4 (Aa HC) q5 (Aa K2)).mono ?_
   rintro e w3 ⟨rfl,qf,qd⟩
   go_wp2_with (fail)
   go_ret;refine Ft ⟨_,s,?_,rfl,K.move _ _ _ _ _ _ _ _ (Aa I2) q5 qf qd (by grind)⟩
   unfold Bn;rw[Aa K1,Aa K2];rfl
  ·have K2:=Ab (A7 k2);clear k2
   go_wp2_with (fail);refine (Bk cl q4 (Aa HC) q5 (Aa K2)).mono ?_
   rintro e w3 ⟨rfl,qf,qd⟩;have I3:=Ab (K.move _ _ _ _ _ _ _ _ (Aa I2) q5 qf qd (by omega));have hE:Hid (Bn op cl item l s=gB cl item ((eF l.tail).length+1) (eF l.tail) s):=by
    unfold Hid Bn;rw[Aa K1,Aa K2];rfl
   have hb:(eF l.tail).length<N:=by omega
   generalize eF l.tail=l2 at *;clear hr qe q5 qb hk2 qd K1 K2 HI I2 qq qn hN
   go_wp2_with (fail)
   go_loopw [18] (fun _ wr=>∃ (n:Nat) (l':By) (s':σ),I wr l' s'/\l'.length<n/\l'.length<N/\gB cl item (l2.length+1) l2 s=gB cl item n l' s') (fun _ wr=>left wr R)
   case atStart=>exact⟨_,l2,s,Aa I3,D2 _,hb,rfl⟩
   case round=>
    obtain⟨n,l',s',hi,hn,qy,he⟩:=hrel;obtain⟨m,rfl⟩:∃m,n=m+1:=⟨n-1,by omega⟩
    obtain⟨tw,dp,fr,hr⟩:=K.rd _ _ _ hi;have HI:=Ab hi;have HE:=Ab he;have HL:=Ab hr.left;have qn:=AY l';clear hi he I3 qf
    go_wp2_with (fail);refine (BZ hr).mono ?_
    rintro e w4 ⟨rfl,qr,qo⟩;have I4:=Ab (K.move _ _ _ _ _ _ _ _ (Aa HI) hr qr qo (by omega))
    go_wp2_with (fail);refine (K.call _ _ _ (Aa I4) (by omega)).mono ?_
    rintro e w5 hc;rcases hc with⟨l5,s5,hit,rfl,qi⟩|⟨hit,rfl,hJ⟩
    ·obtain⟨qz,qu,qv,qm⟩:=K.rd _ _ _ qi;have I5:=Ab qi;have q6:=Ab hit;have qx:=K.len _ _ _ _ hit;have qt:=AY l5;clear qi hit
     go_wp2_with (fail);refine (BZ qm).mono ?_
     rintro e w6 ⟨rfl,q9,qp⟩;have I6:=Ab (K.move _ _ _ _ _ _ _ _ (Aa I5) qm q9 qp (by omega));by_cases k3:eA (eF l5) cl=true
     ·have K3:=Ab k3;clear k3
      go_wp2_with (fail);refine (AG cl q4 (Aa HC) q9 (Aa K3)).mono ?_
      rintro e w7 ⟨rfl,q0,qj⟩
      go_wp2_with (fail)
      go_ret;refine Ft ⟨_,s5,?_,rfl,K.move _ _ _ _ _ _ _ _ (Aa I6) q9 q0 qj (by grind)⟩
      rw[Aa hE,Aa HE,gB,Aa q6];simp only;rw[Aa K3];rfl
     ·have K3:=Ab (A7 k3);clear k3
      go_wp2_with (fail);refine (Bk cl q4 (Aa HC) q9 (Aa K3)).mono ?_
      rintro e w7 ⟨rfl,q0,qj⟩;have I7:=Ab (K.move _ _ _ _ _ _ _ _ (Aa I6) q9 q0 qj (by omega));by_cases k4:eA (eF l5) 44=true
      ·have K4:=Ab k4;have qw:=Bb k4;clear k4
       go_wp2_with (fail);refine (AG 44 _ rfl q0 (Aa K4)).mono ?_
       rintro e w8 ⟨rfl,qg,qk⟩;have I8:=Ab (K.move _ _ _ _ _ _ _ _ (Aa I7) q0 qg qk (by omega))
       go_wp2_with (fail)
       go_roundw
       case rel=>
        refine⟨m,_,s5,Aa I8,by omega,by omega,?_⟩;rw[Aa HE,gB,Aa q6];simp only;rw[Aa K3,Aa K4];rfl
       case measure=>rw[qg.left,Aa HL];omega
      ·have K4:=Ab (A7 k4);clear k4
       go_wp2_with (fail);refine (Bk 44 _ rfl q0 (Aa K4)).mono ?_
       rintro e w8 ⟨rfl,qg,qk⟩
       go_wp2_with (fail)
       go_ret;refine A5 ⟨?_,rfl,K.out _ _ _ (K.move _ _ _ _ _ _ _ _ (Aa I7) q0 qg qk (by omega))⟩
       rw[Aa hE,Aa HE,gB,Aa q6];simp only;rw[Aa K3,Aa K4];rfl
    ·have q6:=Ab hit;clear hit
     go_wp2_with (fail)
     go_ret;refine A5 ⟨?_,rfl,hJ⟩
     rw[Aa hE,Aa HE,gB,Aa q6]
 ·have K1:=Ab (A7 k1);clear k1
  go_enter func216,ntmps216
  go_wp2_with (fail);refine (Bk op qh (Aa HO) hr (Aa K1)).mono ?_
  rintro e w1 ⟨rfl,qe,qb⟩
  go_wp2_with (fail)
  go_ret;refine A5 ⟨?_,rfl,K.out _ _ _ (K.move _ _ _ _ _ _ _ _ (Aa HI) hr qe qb (by omega))⟩
  unfold Bn;rw[Aa K1];rfl
end Go.Proofs.YtdpomdelmdofmaaGreatDoor
