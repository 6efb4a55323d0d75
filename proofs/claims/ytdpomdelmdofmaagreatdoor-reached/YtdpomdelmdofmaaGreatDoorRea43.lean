import Derived.Test.YtdpomdelmdofmaaGreatDoorRea42
open Go renaming World->AI,Value->A2
open Array renaming replicate->AS,getElem?_eq_some_iff->A1,length_toList->A3,getD->A5
open Go.Region renaming ready->AT,binds->Bs,Mode->CD
open List renaming length_append->A4,range->CR
open Go.RowKit renaming Below->A6
open Nat renaming le_refl->BY
open Go.Proofs.Tryz renaming prog->CH
open Go.RowKit.Below renaming refl->CL
set_option maxRecDepth 100000
set_option maxHeartbeats 1000000
namespace Go.Proofs.YtdpomdelmdofmaaGreatDoor
open Go.Proofs.Tryz Go.RowKit Go.Maps
variable{w:AI}{B g n cap m:Nat}{l:List St}{F:Fence}{P:Program}{ops:Array Oper}{Q:Exit->Act->AI->Prop}
def ZH(o:St):List A2:=[.int .i64 o.1,.string ⟨o.2.1.toArray⟩,.string ⟨o.2.2.toArray⟩]
def Es(l:List St):List A2:=l.flatMap ZH
theorem N4(l:List St):(Es l).length=l.length*3:=by
 induction l with
 | nil=>rfl
 | cons p r ih=>simp[Es,ZH] at ih |-; omega
theorem Yo(l:List St):∀ (i:Nat) (hi:i<l.length),(Es l)[i*3]? = some (.int .i64 l[i].1)/\(Es l)[i*3+1]? = some (.string ⟨l[i].2.1.toArray⟩)/\(Es l)[i*3+2]? = some (.string ⟨l[i].2.2.toArray⟩):=by
 induction l with
 | nil=>grind
 | cons p r ih=>
  intro i hi;cases i with
  | zero=>exact⟨rfl,rfl,rfl⟩
  | succ i=>
   have h:=ih i (by grind);have e:Es (p::r)=.int .i64 p.1 :: .string ⟨p.2.1.toArray⟩ :: .string ⟨p.2.2.toArray⟩::Es r:=rfl
   grind
def Own(w:AI)(B:Nat)(v:A2)(n:Nat)(l:List St):Prop:=n=l.length/\w.ownsRow B 49 3 v n (Es l)
theorem Own.scr(h:Own w B (.slice (some ⟨g,0,none⟩) n cap) n l):Scr w g 0 l/\B<=g/\g<w.heap.size/\n<=cap:=by
 obtain⟨hn,hl,⟨h1,_⟩|⟨g',q4,cur,h1,h2,h3,h4,h5,h6,h7⟩⟩:=h
 ·cases h1
 ·injection h1 with h1 _ h8;injection h1 with h1;injection h1 with h1;subst h1 h8;refine⟨fun i hi=>?_,h2,by grind,h4⟩;have hc:∀j,j<n*3->w.cell? ⟨g,j,none⟩=(Es l)[j]?:=fun j hj=>by
   rw[cell_of_row w g j _ _ _ h3,<- h7,List.getElem?_take,if_pos hj,Array.getElem?_toList]
  obtain⟨q0,q1,q2⟩:=Yo l i hi
  grind
theorem Own.bel{w':AI}(h:Own w B (.slice (some ⟨g,0,none⟩) n cap) n l)(hb:A6 w.heap.size w w'):Own w' B (.slice (some ⟨g,0,none⟩) n cap) n l:=by
 obtain⟨hn,hl,⟨h1,_⟩|⟨g',q0,cur,h1,h2,h3,h4⟩⟩:=h
 ·cases h1
 ·exact⟨hn,hl,Or.inr ⟨g',q0,cur,h1,h2,(hb.block _ (by grind)).trans h3,h4⟩⟩
theorem Own.new{cs:Array A2}(hB:B<=w.heap.size)(hn:n=l.length)(hs:n<=1000)(hc:cs.toList=Es l):Own (w.alloc (.cells cs 49)) B (.slice (some ⟨w.heap.size,0,none⟩) n n) n l:=by
 have hz:cs.size=n*3:=by rw[<- A3,hc,N4,hn]
 refine⟨hn,by grind,Or.inr ⟨w.heap.size,n,cs,rfl,hB,heap_alloc_new w _,BY _,by unfold maxLen;omega,hz,?_⟩⟩
 grind [N4,A3,maxLen]
theorem Own.run{d e n:Int}(h:Own w B (.slice (some ⟨g,0,none⟩) m cap) m l)(q0:Plain l)(hpos:0<m)(hb:m<=1000)(hT:Ai w):
  Calls CH 24 #[.agg #[.int .i64 d,.int .i64 e,.int .i64 n],.slice (some ⟨g,0,none⟩) m cap] w fun x w'=>Vn m (fU d e n none l) w x w':=by
 obtain⟨h1,_,h3,h4⟩:=h.scr;exact Hz h1 q0 h.1 hpos h4 (by omega) h3 hT
theorem WE:(Tryz.prog.info? 49).map (fun i=>(i.zero,i.size,i.bytes))=some (some (.agg #[.int .i64 0,.string ⟨#[]⟩,.string ⟨#[]⟩]),3,40):=by kernel_rfl
theorem V2{w1 w3:AI}{v:A2}{k:Nat}{l':List St}{xs new:List A2}(h:Own w1 B v m l)(hb:A6 B w w1)(hB:B<=w1.heap.size)(hk:k=l'.length)(hx:xs=Es l)(q0:new=Es l')(q4:w3.ownsRow B 49 3 (.slice (some ⟨g,0,none⟩) (m+k) cap) (m+k) (xs++new))(hg:w1.grownBy w3 v.ownBlock):
  Own w3 B (.slice (some ⟨g,0,none⟩) (m+k) cap) (m+k) (l++l')/\A6 B w w3:=by
 subst hx q0 hk;refine⟨⟨by rw[A4,h.1],?_⟩,hb.trans ((CL B w1).grown hg hB fun j hj=>(h.2.lt j hj).1)⟩
 grind [A4,h.1,Es]
theorem Pz{md:CD}(I:Array Bool->Act->AI->Prop)(hs:∀l a w,I l a w -> ∀i,i∈AT md ops l->wpOpIn F n P ops Q i (I (l.setIfInBounds i true)) a w)(he:∀l a w,I l a w->AT md ops l=[]->Q .normal a w):∀ (q0:Nat) (l:Array Bool) (a:Act) (w:AI),Gk l<=q0->I l a w->wpAnyIn F n P md ops Q q0 l a w:=by
 intro q0;induction q0 with
 | zero=>
  intro l a w hl hi;have hr:AT md ops l=[]:=by
   rw[List.eq_nil_iff_forall_not_mem];intro i hm;have h1:=(BD hm).1;rw[KL (by omega) i] at h1;cases h1
  exact⟨hr,he l a w hi hr⟩
 | succ n ih=>
  intro l a w hl hi;refine⟨fun hr=>he l a w hi hr,fun i hm=>wpOpIn_mono (fun a' w' h'=>ih _ a' w' ?_ h') (hs l a w hi i hm)⟩;have:=MD (BD hm).1;omega
theorem NI{md:CD}(I:Array Bool->Act->AI->Prop)(hs:∀l a w,Gc md ops l->I l a w -> ∀i,i∈AT md ops l->wpOpIn F m P ops Q i (I (l.setIfInBounds i true)) a w)(he:∀l a w,I l a w->AT md ops l=[]->Q .normal a w)(n:Nat)(a:Act)(w:AI)(h:I (AS n false) a w):wpAnyIn F m P md ops Q n (AS n false) a w:=by
 refine Pz (fun l a w=>Gc md ops l/\I l a w) (fun l a w hI i hi=>?_) (by grind) n _ a w ?_ ⟨?_,h⟩
 ·exact wpOpIn_mono (fun a' w' h'=>⟨hI.1.next hi,h'⟩) (hs l a w hI.1 hI.2 i hi)
 ·unfold Gk;refine Nat.le_trans List.countP_le_length ?_;simp
 ·intro i o _ hi
  exfalso
  rw[Array.getD_eq_getD_getElem?,Array.getElem?_replicate] at hi
  grind
def upd(L:Nat->Bool)(i:Nat):Nat->Bool:=fun j=>if j=i then true else L j
def Lm(md:CD)(L:Nat->Bool)(o:Oper):Prop:=∀e∈o.after,Bs md e=true->L e.on=true
theorem NL{l:Array Bool}{i:Nat}(h:i<l.size):(fun j=>(l.setIfInBounds i true).getD j false)=upd (fun j=>l.getD j false) i:=by
 funext j
 unfold upd;by_cases hj:j=i
 ·simp_all
 ·rw[if_neg hj];exact getD_set_ne _ (fun e=>hj e.symm)
theorem Ju(A:(Nat->Bool)->Act)(Wd:(Nat->Bool)->AI)(n:Nat)(hn:ops.size=n)(hw:(CR ops.size).all (fun i=>((ops[i]?).map fun o=>o.after.all fun e=>!Bs .any e || decide (e.on<i)).getD true)=true)(hs:∀L i o,ops[i]? = some o->i<n->L i=false->Lm .any L o->(∀j oj,ops[j]? = some oj->L j=true->Lm .any L oj) -> ∀K:Act->AI->Prop,K (A (upd L i)) (Wd (upd L i))->wpOpIn F m P ops Q i K (A L) (Wd L))(he:∀L,(∀i,i<n->L i=true)->Q .normal (A L) (Wd L)):wpAnyIn F m P .any ops Q ops.size (AS ops.size false) (A fun _=>false) (Wd fun _=>false):=by
 subst hn;refine NI (fun l a w=>l.size=ops.size/\a=A (fun j=>l.getD j false)/\w=Wd (fun j=>l.getD j false)) ?_ ?_ _ _ _ ⟨by simp,?_,?_⟩
 ·rintro l a w hcl ⟨hsz,rfl,rfl⟩ i hi;obtain⟨hno,haft⟩:=BD hi;obtain⟨_,o,ho,_⟩:=mem_ready.1 hi;have hlt:=(A1.1 ho).1;refine hs _ i o ho hlt (by grind) (fun e h1 h2=>haft o ho e h1 h2) (fun j oj hj hL e h1 h2=>hcl j oj hj hL e h1 h2) _ ?_;exact⟨by simp[hsz],by rw[NL (by omega)],by rw[NL (by omega)]⟩
 ·rintro l a w ⟨hsz,rfl,rfl⟩ hr;exact he _ (Dz hsz hw hr)
 all_goals (
  congr 1;funext j;simp[A5])
def Pv(b z:Nat)(wb:AI)(R T:A2->AI->Prop)(L:Nat->Bool)(x y:A2)(w:AI):Prop:=(L z=false->A6 wb.heap.size wb w/\(L b=true->R x w))/\(L z=true->T y w)
structure SH(ops:Array Oper)(L:Nat->Bool)(i:Nat)(o:Oper):Prop where
 at_:ops[i]? = some o
 no:L i=false
 after:Lm .any L o
 clo:∀j oj,ops[j]? = some oj->L j=true->Lm .any L oj
theorem SQ(b z n:Nat)(A:(Nat->Bool)->A2->A2->Act)(R T:A2->AI->Prop)(wb:AI)(hn:ops.size=n)(q7:(b==z)=false)(hw:(CR ops.size).all (fun i=>((ops[i]?).map fun o=>o.after.all fun e=>!Bs .any e || decide (e.on<i)).getD true)=true)(hR:∀x w w',R x w->A6 w.heap.size w w'->R x w')(hp:∀L x y w i o,i<n->i≠b->i≠z->SH ops L i o->Pv b z wb R T L x y w -> ∀K:Act->AI->Prop,(∀w',(L z=false->A6 w.heap.size w w')->(L z=true->w'=w)->K (A (upd L i) x y) w')->wpOp P ops Q i K (A L x y) w)(hb:∀L x y w o,SH ops L b o->Pv b z wb R T L x y w -> ∀K:Act->AI->Prop,(∀x' w',(L z=false->A6 w.heap.size w w'/\R x' w')->(L z=true->w'=w)->K (A (upd L b) x' y) w')->wpOp P ops Q b K (A L x y) w)(hz:∀L x y w o,SH ops L z o->Pv b z wb R T L x y w -> ∀K:Act->AI->Prop,(∀y' w',T y' w'->K (A (upd L z) x y') w')->wpOp P ops Q z K (A L x y) w)(he:∀L x y w,(∀i,i<n->L i=true)->Pv b z wb R T L x y w->Q .normal (A L x y) w)(x y:A2)(w0:AI)(q6:A6 wb.heap.size wb w0):
  wpAny P .any ops Q ops.size (AS ops.size false) (A (fun _=>false) x y) w0:=by
 subst hn;have hne:b≠z:=by grind
 refine G4 (fun l a w=>l.size=ops.size /\ ∃x y,a=A (fun j=>l.getD j false) x y/\Pv b z wb R T (fun j=>l.getD j false) x y w) ?_ ?_ _ _ _ ⟨by simp,x,y,?_,?_⟩
 ·rintro l a w hcl ⟨hsz,x,y,rfl,hI⟩ i hi;obtain⟨hno,haft⟩:=BD hi;obtain⟨_,o,ho,_⟩:=mem_ready.1 hi;have hlt:=(A1.1 ho).1;have hT:SH ops (fun j=>l.getD j false) i o:=⟨ho,by grind,fun e h1 h2=>haft o ho e h1 h2,fun j oj hj hL e h1 h2=>hcl j oj hj hL e h1 h2⟩
  have hu:=NL (l:=l) (i:=i) (by omega);by_cases q4:i=b
  ·subst q4;refine hb _ x y w o hT hI _ fun x' w' h1 h2=>⟨by simp[hsz],x',y,by rw[hu],?_⟩
   rw[hu];have ez:upd (fun j=>l.getD j false) i z=l.getD z false:=by unfold upd;grind
   refine⟨fun hz0=>?_,fun q0=>?_⟩
   ·rw[ez] at hz0;obtain⟨q1,q2⟩:=h1 hz0;exact⟨(hI.1 hz0).1.trans (q1.mono (hI.1 hz0).1.size),fun _=>q2⟩
   ·rw[ez] at q0;rw[h2 q0];exact hI.2 q0
  ·by_cases q5:i=z
   ·subst q5;refine hz _ x y w o hT hI _ fun y' w' h1=>⟨by simp[hsz],x,y',by rw[hu],?_⟩
    rw[hu];refine⟨fun hz0=>?_,fun _=>h1⟩;unfold upd at hz0
    grind
   ·refine hp _ x y w i o hlt q4 q5 hT hI _ fun w' h1 h2=>⟨by simp[hsz],x,y,by rw[hu],?_⟩
    rw[hu];have ez:upd (fun j=>l.getD j false) i z=l.getD z false:=by unfold upd;grind
    have eb:upd (fun j=>l.getD j false) i b=l.getD b false:=by unfold upd;grind
    refine⟨fun hz0=>?_,fun q0=>?_⟩
    ·rw[ez] at hz0;have q1:=h1 hz0;refine⟨(hI.1 hz0).1.trans (q1.mono (hI.1 hz0).1.size),fun hb1=>?_⟩;rw[eb] at hb1;exact hR _ _ _ ((hI.1 hz0).2 hb1) q1
    ·rw[ez] at q0;rw[h2 q0];exact hI.2 q0
 ·rintro l a w ⟨hsz,x,y,rfl,hI⟩ hr;exact he _ x y w (Dz hsz hw hr) hI
 ·congr 1;funext j;simp[A5]
 ·refine⟨fun _=>⟨q6,fun h=>?_⟩,fun h=>?_⟩
  ·simp[A5] at h
  ·simp[A5] at h
theorem Pb{D:Nat}{rv jn iv:A2}{ch:Bool}(h:DB w D rv jn ch iv):
  Calls CH 86 #[.pointer (some ⟨D,0,none⟩)] w fun e w'=>e=.returned (.tuple #[iv,.bool ch])/\A6 w.heap.size w w':=by
 have c2:=h.c2;have c3:=h.c3;clear h
 go_enter func86,ntmps86
 go_wp2_with (fail)
 go_quiet (fail)
 go_wp2_with (fail)
 go_ret2
 exact⟨rfl,rfl,rfl,rfl,BY _,fun _ _=>rfl⟩
theorem IB(s:By):
  Calls CH 164 #[.string ⟨s.toArray⟩] w fun e w'=>e=.returned (.pointer (some ⟨w.heap.size,0,none⟩))/\VB w' w.heap.size 4 n0 s (.slice none 0 0) (.map none)/\A6 w.heap.size w w'/\w'.heap.size=w.heap.size+1:=by
 go_enter func164,ntmps164
 go_wp2_with (fail)
 go_ret;exact⟨rfl,heap_alloc_new w _,(CL _ _).alloc (BY _) _,by simp⟩
end Go.Proofs.YtdpomdelmdofmaaGreatDoor
