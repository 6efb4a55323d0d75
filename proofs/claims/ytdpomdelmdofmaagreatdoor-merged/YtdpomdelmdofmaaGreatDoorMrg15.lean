/-
  Walk of Depth: how deep a value is.
-/
import Derived.Test.YtdpomdelmdofmaaGreatDoorMrg14
import Derived.Laws.MakeOwn
import Derived.Laws.OwnMore
namespace Go.Proofs.YtdpomdelmdofmaaGreatDoor
section
open Go.RowKit Go.Maps
namespace Sp
end Sp
theorem at_mem {es:List (Lit×Sp.V)} {k:Lit} (h:Maps.has (.map es:DataW Unit) k=true):∃p∈es,(DataW.map es).atKey k .nil=p.2:=by
 rw[atKey_def]
 cases hf:es.find? (fun p=>p.1.sameKey k) with
 | none =>
  obtain⟨p,hp,hs⟩:=List.any_eq_true.1 (show es.any (fun p=>p.1.sameKey k)=true from h)
  exact absurd hs (by simpa using List.find?_eq_none.1 hf p hp)
 | some p=>exact⟨p,List.mem_of_find?_eq_some hf,rfl⟩
section
variable {w:World} {b:Nat}
end
end

section
set_option maxRecDepth 100000
set_option maxHeartbeats 8000000
open Go.RowKit Go.Maps
def CloneAt (f:Nat) (a:Sp.V):Prop:=∀ (F:Nat→Prop) (w:World) (v:Value),Rep f F w v a→Calls Tryz.prog 201 #[v] w fun e w'=>∃p,e = .returned (.pointer (some p))∧Below w.heap.size w w'∧Tr f w.heap.size w' (.pointer (some p)) a
theorem ptr_make (n:Nat) (hn:n*8≤281474976710656) (w:World):(Instr.makeSlice 106 (.int .i64 n) (.int .i64 n)).run Tryz.prog w = .ok (.slice (some ⟨w.heap.size,0,none⟩) n n) (w.alloc (.cells (madeCells #[.pointer none] (n*1)) 80)):=by
 obtain⟨i,hi,h⟩:=Option.map_eq_some_iff.1 b_ptr
 injection h with h1 h2
 injection h2 with h2 h3
 have:=run_make (P:=Tryz.prog) w 106 80 i _ Tryz.underlying106 hi h1 .i64 .i64 n n (by omega) (by omega) (by rw[h3];omega) (by omega)
 rw[h2] at this
 simpa[Value.cells] using this
section
variable {w:World} {b:Nat}
theorem clone_leaf {k:Int} {n:Sp.Nm} {s:Sp.By} (h:VB w b k n s (.slice none 0 0) (.map none)) (h5:k≠5) (h6:k≠6) :
  Calls Tryz.prog 201 #[.pointer (some ⟨b,0,none⟩)] w fun e w'=>e = .returned (.pointer (some ⟨w.heap.size,0,none⟩))∧Below w.heap.size w w'∧VB w' w.heap.size k n s (.slice none 0 0) (.map none):=by
 have c0:=h.c0
 have c1:=h.c1
 have c2:=h.c2
 have c3:=h.c3
 have c4:=h.c4
 have c5:=h.c5
 have c6:=h.c6
 have d0:∀o,(w.alloc o).cell? ⟨b,0,none⟩=some (.int .i64 k):=fun o=>(World.cell?_of_block (w:=w) (Below.heap_alloc w o b h.lt)).trans c0
 have e5:(k == 5)=false:=beq_eq_false_iff_ne.2 h5
 have e6:(k == 6)=false:=beq_eq_false_iff_ne.2 h6
 clear h h5 h6
 go_enter Tryz.func201,Tryz.ntmps201
 go_wp2_with (fail)
 go_ret
 exact⟨rfl,(Below.refl _ _).alloc (Nat.le_refl _) _,heap_new _ _ _ rfl⟩
structure ClA (f N:Nat) (w:World) (es:List Sp.V) (k:Nat) (wr:World):Prop where
 bel:Below w.heap.size w wr
 box:VB wr w.heap.size 5 n0 [] (.slice (some ⟨w.heap.size+1,0,none⟩) N N) (.map none)
 el:∃qs:List Value,qs.length=k∧wr.ownsRow (w.heap.size+1) 80 1 (.slice (some ⟨w.heap.size+1,0,none⟩) N N) N (qs++List.replicate (N-k) (.pointer none))∧TrL f (w.heap.size+1) (some (w.heap.size+1)) wr qs (es.take k)
theorem ClA.step {f N k:Nat} {w wr w2:World} {es:List Sp.V} {p:Addr} (h:ClA f N w es k wr) (hk:k<N) (hke:k<es.length) (hb:Below wr.heap.size wr w2) (hv:Tr f wr.heap.size w2 (.pointer (some p)) es[k]) :
  ClA f N w es (k+1) (w2.setCell ⟨w.heap.size+1,k,none⟩ (.pointer (some p))):=by
 obtain⟨qs,hq,ho,ht⟩:=h.el
 have hlt:=owns_lt ho (w.heap.size+1) rfl
 have ho2:=owns_kept ho (w':=w2) (fun g hg=>hb.block g (owns_lt ho g hg).1)
 have hst:=ho2.stored k (.pointer (some p))
 have hs2:=hb.size
 refine⟨?_,?_,qs++[.pointer (some p)],by simp[hq],?_,?_⟩
 ·refine ((h.bel.trans (hb.mono h.bel.size)).trans ⟨rfl,rfl,rfl,by simp[World.setCell],fun j hj=>Below.heap_setCell _ _ _ _ (show j≠w.heap.size+1 by omega)⟩)
 ·exact (h.box.kept (hb.block _ h.box.lt)).kept (Below.heap_setCell _ _ _ _ (show w.heap.size≠w.heap.size+1 by omega))
 ·have e:(qs++List.replicate (N-k) (Value.pointer none)).set k (.pointer (some p))=qs++[.pointer (some p)]++List.replicate (N-(k+1)) (.pointer none):=by
   obtain⟨m,hm⟩:∃m,N-k=m+1:=⟨N-k-1,by omega⟩
   rw[hm,show N-(k+1)=m by omega,← hq,List.set_append_right _ _ (Nat.le_refl _)]
   simp[List.replicate_succ]
  rw[← e]
  exact hst.1
 ·rw[List.take_succ_eq_append_getElem hke]
  refine ht.snoc hv (by omega) ?_ ?_
  ·intro j h1 h2 h3
   exact⟨(Below.heap_setCell _ _ _ _ (show j≠w.heap.size+1 from fun e=>h2 (by rw[e]))).trans (hb.block j h3),h2⟩
  ·intro j h1 h2
   exact⟨Below.heap_setCell _ _ _ _ (show j≠w.heap.size+1 by omega),fun e=>by injection e;omega⟩
theorem ClA.done {f N:Nat} {w wr:World} {es:List Sp.V} (h:ClA f N w es N wr) (hn:N=es.length):Tr (f+1) w.heap.size wr (.pointer (some ⟨w.heap.size,0,none⟩)) (Sp.vArr es):=by
 obtain⟨qs,hq,ho,ht⟩:=h.el
 rw[Nat.sub_self,List.replicate_zero,List.append_nil] at ho
 rw[List.take_of_length_le (by omega)] at ht
 have ho':=owns_base ho (Nat.zero_le _)
 rw[show N=qs.length from hq.symm] at ho'
 have hb:=h.box
 rw[show N=qs.length from hq.symm] at hb
 exact TrL.arr (sl:=.slice (some ⟨w.heap.size+1,0,none⟩) qs.length qs.length) ht (Nat.le_refl _) (by omega) hb ho' (fun g hg=>by
  have:g=w.heap.size+1:=by simpa[Value.ownBlock] using hg.symm
  omega)
theorem clone_arr {f:Nat} {F:Nat→Prop} {sl:Value} {ps:List Value} {es:List Sp.V} (hS:∀d∈es,CloneAt f d) (h:VB w b 5 n0 [] sl (.map none)) (ho:w.ownsRow 0 80 1 sl ps.length ps) (ha:Al (Rep f F w) ps es) (hsm:ps.length*8≤281474976710656) :
  Calls Tryz.prog 201 #[.pointer (some ⟨b,0,none⟩)] w fun e w'=>e = .returned (.pointer (some ⟨w.heap.size,0,none⟩))∧Below w.heap.size w w'∧Tr (f+1) w.heap.size w' (.pointer (some ⟨w.heap.size,0,none⟩)) (Sp.vArr es):=by
 have c0:=h.c0
 have c1:=h.c1
 have c2:=h.c2
 have c3:=h.c3
 have c4:=h.c4
 have c5:=h.c5
 have c6:=h.c6
 have hbl:=h.lt
 have hl:=ha.length
 obtain⟨N,hN⟩:∃N,N=ps.length:=⟨_,rfl⟩
 have hn1:(N:Int)≤9223372036854775807:=by omega
 rw[← hN] at hsm
 have hmk:=ptr_make N hsm
 have hMx:N≤maxLen:=by unfold maxLen;omega
 have HL:=hide (hN.trans hl)
 have old:∀ (o:Obj) (j:Nat),(w.alloc o).cell? ⟨b,j,none⟩=w.cell? ⟨b,j,none⟩:=fun o j=>World.cell?_of_block (w:=w) (Below.heap_alloc w o b hbl)
 have d0:∀o,(w.alloc o).cell? ⟨b,0,none⟩=some (.int .i64 5):=fun o=>(old o 0).trans c0
 have d5:∀o,(w.alloc o).cell? ⟨b,5,none⟩=some sl:=fun o=>(old o 5).trans c5
 have hstart:Hid (∀W,W=((w.alloc (.cells #[.int .i64 5,.bool false,.string ⟨#[]⟩,.int .i64 0,.string ⟨#[]⟩,.slice (some ⟨w.heap.size+1,0,none⟩) N N,.map none] 111)).alloc (.cells (madeCells #[.pointer none] N) 80))→ClA f N w es 0 W):=by
  rintro W rfl
  have e1:(w.alloc (.cells #[.int .i64 5,.bool false,.string ⟨#[]⟩,.int .i64 0,.string ⟨#[]⟩,.slice (some ⟨w.heap.size+1,0,none⟩) N N,.map none] 111)).heap.size=w.heap.size+1:=by simp
  have hb1:=heap_alloc_new w (.cells #[.int .i64 5,.bool false,.string ⟨#[]⟩,.int .i64 0,.string ⟨#[]⟩,.slice (some ⟨w.heap.size+1,0,none⟩) N N,.map none] 111)
  generalize hW:w.alloc (.cells #[.int .i64 5,.bool false,.string ⟨#[]⟩,.int .i64 0,.string ⟨#[]⟩,.slice (some ⟨w.heap.size+1,0,none⟩) N N,.map none] 111)=W1 at *
  have hbel:Below w.heap.size w W1:=by rw[← hW];exact (Below.refl _ _).alloc (Nat.le_refl _) _
  have hmc:(madeCells #[Value.pointer none] N).size=N*1:=by simp[madeCells]
  have hrow:=World.ownsRow_lit (base:=w.heap.size+1) (e:=80) (size:=1) W1 (madeCells #[.pointer none] N) N (by omega) hMx hmc
  have hvb:VB W1 w.heap.size 5 n0 [] (.slice (some ⟨w.heap.size+1,0,none⟩) N N) (.map none):=hb1
  rw[e1] at hrow
  refine⟨hbel.alloc (by omega) _,hvb.kept (Below.heap_alloc W1 _ _ hvb.lt),[],rfl,?_,TrL.nil _ _ _ _⟩
  have hx:(madeCells #[Value.pointer none] N).toList=[]++List.replicate (N-0) (Value.pointer none):=by simp[madeCells,Nat.mod_one,List.map_const']
  rw[← hx]
  exact hrow
 have hcall:Hid (∀ (k:Nat) (h1:k<ps.length) (h3:k<es.length) (wr:World),Below w.heap.size w wr→Calls Tryz.prog 201 #[ps[k]] wr fun e w'=>∃p,e = .returned (.pointer (some p))∧Below wr.heap.size wr w'∧Tr f wr.heap.size w' (.pointer (some p)) es[k]) :=
  hide (fun k h1 h3 wr hb=>hS _ (List.getElem_mem h3) F wr ps[k] ((ha.get k h1 h3).bel hb))
 obtain⟨a,c,rfl⟩:=slice_form ho
 have HC:Hid (∀ (k:Nat) (h1:k<ps.length),∃g,a=some ⟨g,0,none⟩∧g<w.heap.size∧w.cell? ⟨g,k,none⟩=some ps[k]):=hide (fun k h1=>by
  obtain⟨g1,p1,e,_,_,l1,hc1⟩:=owns_cell1 ho (by omega)
  injection e with e
  exact⟨g1,e,l1,hc1 k h1⟩)
 rw[← hN] at c5 d5
 have HN:=hide hN
 clear h ho ha hS hl hN old
 go_enter Tryz.func201,Tryz.ntmps201
 go_wp2_with (fail)
 go_loopw [29] (fun i wr=>∃k:Nat,k≤N∧i = .int .i64 k∧Hid (ClA f N w es k wr)) (fun i _=>N-(intOf i).toNat)
 case atStart=>exact⟨0,by omega,rfl,unhide hstart _ rfl⟩
 case round =>
  obtain⟨k,hk,rfl,HI⟩:=hrel
  by_cases hlt:k<N
  ·have h1:k<ps.length:=by have:=unhide HN;omega
   have h3:k<es.length:=by have:=unhide HL;omega
   obtain⟨g,rfl,hg1,hgc⟩:=unhide HC k h1
   have q1:=((unhide HI).bel.cell (p:=⟨g,k,none⟩) hg1).trans hgc
   have qV:=(unhide HI).box.c5
   have hc1:=hide (unhide hcall k h1 h3)
   have HSTEP:Hid (∀ (w2:World) (p:Addr),Below wr.heap.size wr w2→Tr f wr.heap.size w2 (.pointer (some p)) es[k]→ClA f N w es (k+1) (w2.setCell ⟨w.heap.size+1,k,none⟩ (.pointer (some p)))):=hide (fun w2 p hb hv=>(unhide HI).step hlt h3 hb hv)
   have HV2:Hid (∀w2,Below wr.heap.size wr w2→w2.cell? ⟨w.heap.size,5,none⟩=some (.slice (some ⟨w.heap.size+1,0,none⟩) N N)∧w2.frozen? ⟨w.heap.size+1,k,none⟩=false ∧ ∃u,w2.cell? ⟨w.heap.size+1,k,none⟩=some u):=hide (fun w2 hb=>by
    obtain⟨qs,hq,ho,ht⟩:=(unhide HI).el
    have ho2:=owns_kept ho (w':=w2) (fun g hg=>hb.block g (owns_lt ho g hg).1)
    refine⟨((unhide HI).box.kept (hb.block _ (unhide HI).box.lt)).c5,ho2.frozenAt k,?_⟩
    have h5:=ho2.cellAt k (by omega)
    rw[h5]
    have hlen:k<(qs++List.replicate (N-k) (Value.pointer none)).length:=by simp;omega
    exact⟨_,List.getElem?_eq_getElem hlen⟩)
   have HB:=hide (unhide HI).bel
   generalize ps[k]=pk at *
   clear HC
   go_wp2_with (fail)
   go_region_with (go_at_call 201;refine (unhide hc1 _ ?_).mono ?_;exact⟨(unhide HB).os,(unhide HB).tape,(unhide HB).output,(unhide HB).size,(unhide HB).block⟩;rintro e w2 ⟨p,rfl,hb2,hv2⟩;have hb3:Below wr.heap.size wr w2:=⟨hb2.os,hb2.tape,hb2.output,hb2.size,hb2.block⟩;obtain⟨y1,y2,u,y3⟩:=unhide HV2 w2 hb3)
   all_goals (
    go_wp2_with (fail)
    exact⟨⟨k+1,by omega,by go_num,unhide HSTEP w2 p hb3 hv2⟩,by simp only[intOf];omega⟩)
  ·have HD:=hide (show Tr (f+1) w.heap.size wr (.pointer (some ⟨w.heap.size,0,none⟩)) (Sp.vArr es) from (show ClA f N w es N wr from by have:=unhide HI;rwa [show k=N by omega] at this).done (unhide HL))
   have HB:=hide (unhide HI).bel
   clear HC
   go_wp2_with (fail)
   go_ret
   exact⟨rfl,unhide HB,unhide HD⟩
end
end

section
open Go.RowKit Go.Maps
theorem map_make (n:Nat) (w:World):(Instr.makeMap 109 (some (.int .i64 n))).run Tryz.prog w = .ok (.map (some w.heap.size)) (w.alloc (.map #[] 0)):=by
 simp[Instr.makeMap,run_underlying Tryz.underlying109,asInt,asIntOf,Result.andThen]
theorem obj_within {es es':List (Lit×Sp.V)} (c:Maps.Canon (.map es:DataW Unit)) (c':Maps.Canon (.map es':DataW Unit))
  (h:∀k,Maps.has (.map es:DataW Unit) k=true→Maps.has (.map es':DataW Unit) k=true∧(DataW.map es).atKey k .nil=(DataW.map es').atKey k .nil):∀p∈es,p∈es':=by
 obtain⟨_,he,hp,hk⟩:=c
 injection he with he
 subst he
 obtain⟨_,he,hp',hk'⟩:=c'
 injection he with he
 subst he
 have hap:=apart_of_rising hp
 have hap':=apart_of_rising hp'
 intro p hpm
 have h1:Maps.has (.map es:DataW Unit) p.1=true:=List.any_eq_true.2 ⟨p,hpm,WideAt.sameKey_self (hk p hpm)⟩
 obtain⟨h2,h3⟩:=h p.1 h1
 obtain⟨q,hq,hs⟩:=List.any_eq_true.1 (show es'.any (fun q=>q.1.sameKey p.1)=true from h2)
 have e1:q.1=p.1:=WideAt.sameKey_eq hs
 have e2:=WideAt.atKey_mem .nil (hk p hpm) hap (show (p.1,p.2)∈es from hpm)
 have e3:=WideAt.atKey_mem .nil (hk' q hq) hap' (show (q.1,q.2)∈es' from hq)
 rw[e1] at e3
 rw[e2,e3] at h3
 have:p=q:=Prod.ext e1.symm h3
 rw[this];exact hq
theorem obj_eq {es es':List (Lit×Sp.V)} (c:Maps.Canon (.map es:DataW Unit)) (c':Maps.Canon (.map es':DataW Unit)) (hh:∀k,Maps.has (.map es:DataW Unit) k=Maps.has (.map es':DataW Unit) k)
  (h:∀k,Maps.has (.map es:DataW Unit) k=true→(DataW.map es).atKey k .nil=(DataW.map es').atKey k .nil):es=es':=by
 have s1:=obj_within c c' (fun k hk=>⟨by rw[← hh];exact hk,h k hk⟩)
 have s2:=obj_within c' c (fun k hk=>⟨by rw[hh];exact hk,(h k (by rw[hh];exact hk)).symm⟩)
 obtain⟨_,he,hp,_⟩:=c
 injection he with he
 subst he
 obtain⟨_,he,hp',_⟩:=c'
 injection he with he
 subst he
 exact eq_of_mem_rising hp hp' (fun p=>⟨s1 p,s2 p⟩)
theorem key_lit {es:List (Lit×Sp.V)} (c:Maps.Canon (.map es:DataW Unit)) {k:Lit} (h:Maps.has (.map es:DataW Unit) k=true):WideAt.IsKeyLit k:=by
 obtain⟨_,he,_,hk⟩:=c
 injection he with he
 subst he
 obtain⟨p,hp,hs⟩:=List.any_eq_true.1 (show es.any (fun p=>p.1.sameKey k)=true from h)
 have:=hk p hp
 rwa [WideAt.sameKey_eq hs] at this
structure ClO (f:Nat) (w:World) (es:List (Lit×Sp.V)) (left:Lit→Bool) (cnt:Nat) (wr:World):Prop where
 bel:Below w.heap.size w wr
 box:VB wr w.heap.size 6 n0 [] (.slice none 0 0) (.map (some (w.heap.size+1)))
 sz:w.heap.size+3≤wr.heap.size
 el:∃n' D' es',n'+cnt≤es.length∧wr.ownsMap Tryz.prog 9 RV (w.heap.size+1) n' (.map D')∧TrM f (w.heap.size+3) wr D' es' ∧
  (∀k,Maps.has (.map es':DataW Unit) k=(Maps.has (.map es:DataW Unit) k && !left k))∧(∀k,Maps.has (.map es':DataW Unit) k=true→(DataW.map es').atKey k .nil=(DataW.map es).atKey k .nil)
theorem ClO.next {f cnt:Nat} {w wr w1:World} {es:List (Lit×Sp.V)} {left:Lit→Bool} (h:ClO f w es left cnt wr) (hg:wr.grownBy w1 (some (w.heap.size+2))):ClO f w es left cnt w1:=by
 have hs:=h.sz
 have hs1:=hg.size
 have hk:∀j,j<wr.heap.size→j≠w.heap.size+2→w1.heap[j]? = wr.heap[j]?:=fun j h1 h2=>hg.block j h1 (fun e=>h2 (Option.some.inj e))
 refine⟨⟨hg.os.trans h.bel.os,hg.tape.trans h.bel.tape,hg.output.trans h.bel.output,by omega,fun j hj=>(hk j (by omega) (by omega)).trans (h.bel.block j hj)⟩,h.box.kept (hk _ (by omega) (by omega)),by omega,?_⟩
 obtain⟨n',D',es',h1,h2,h3,h4,h5⟩:=h.el
 exact⟨n',D',es',h1,map_kept h2 (hk _ (by omega) (by omega)),h3.move (fun j hj hl=>hk j hl (by omega)),h4,h5⟩
theorem ClO.step {f cnt cnt1:Nat} {w w1 w2:World} {es:List (Lit×Sp.V)} {left:Lit→Bool} (h:ClO f w es left cnt w1) (c:Maps.Canon (.map es:DataW Unit)) (hc:cnt1<cnt) (hsm:es.length<maxLen)
  {x:Value} {kl:Lit} (hkey:keyOf Tryz.prog 9 x=some kl) (hl:left kl=true) (hh:Maps.has (.map es:DataW Unit) kl=true) {p:Addr} (hb:Below w1.heap.size w1 w2) (hv:Tr f w1.heap.size w2 (.pointer (some p)) ((DataW.map es).atKey kl .nil)) :
  w2.cell? ⟨w.heap.size,6,none⟩=some (.map (some (w.heap.size+1))) ∧ ∃w3,(Instr.mapUpdate 109 (.map (some (w.heap.size+1))) x (.pointer (some p))).run Tryz.prog w2 = .ok () w3 ∧
   ClO f w es (fun z=>left z && !z.sameKey kl) cnt1 w3∧w2.grownBy w3 (some (w.heap.size+1)):=by
 have hs:=h.sz
 have hs2:=hb.size
 refine⟨(h.box.kept (hb.block _ h.box.lt)).c6,?_⟩
 obtain⟨n',D',es',h1,h2,h3,h4,h5⟩:=h.el
 have h2':=map_kept h2 (hb.block _ (map_lt h2))
 obtain⟨w3,hrun,ho3,hg⟩:=h2'.update mlaw Tryz.underlying109 (by omega) hkey (val:=.pointer (some p)) (d:=.held (.pointer (some p))) (ps:=[]) rfl
 have hs3:=hg.size
 have hk:∀j,j<w2.heap.size→j≠w.heap.size+1→w3.heap[j]? = w2.heap[j]?:=fun j h1 h2=>hg.block j h1 (fun e=>h2 (Option.some.inj e))
 refine⟨w3,hrun,⟨⟨hg.os.trans (hb.os.trans h.bel.os),hg.tape.trans (hb.tape.trans h.bel.tape),hg.output.trans (hb.output.trans h.bel.output),by omega,fun j hj=>(hk j (by omega) (by omega)).trans ((hb.block j (by omega)).trans (h.bel.block j hj))⟩,
  (h.box.kept (hb.block _ h.box.lt)).kept (hk _ (by omega) (by omega)),by omega,?_⟩,hg⟩
 have kk:=key_lit c hh
 obtain⟨D2,es2,e1,e2,ht⟩:=h3.put (k:=kl) (w6:=w3) hv (by omega) (fun j j1 j2=>(hk j (by omega) (by omega)).trans (hb.block j j2)) (fun j j1 j2=>hk j j2 (by omega))
 rw[e1] at ho3
 refine⟨n'+1,D2,es2,by omega,ho3,ht,?_,?_⟩
 ·intro k
  rw[← e2]
  by_cases hkk:k=kl
  ·subst hkk
   rw[has_put_same ⟨_,rfl⟩ kk,hh,hl,WideAt.sameKey_self kk];rfl
  ·rw[has_put_other hkk,h4]
   have:k.sameKey kl=false:=by
    cases hx:k.sameKey kl
    ·rfl
    ·exact absurd (WideAt.sameKey_eq hx) hkk
   rw[this];simp
 ·intro k
  rw[← e2]
  by_cases hkk:k=kl
  ·subst hkk
   intro _
   rw[atKey_put_same ⟨_,rfl⟩ kk]
  ·rw[has_put_other hkk,atKey_put_other hkk]
   exact h5 k
theorem ClO.done {f cnt:Nat} {w wr:World} {es:List (Lit×Sp.V)} {left:Lit→Bool} (h:ClO f w es left cnt wr) (c:Maps.Canon (.map es:DataW Unit)) (hl:∀k,left k=false):Tr (f+1) w.heap.size wr (.pointer (some ⟨w.heap.size,0,none⟩)) (Sp.vObj es):=by
 obtain⟨n',D',es',h1,h2,h3,h4,h5⟩:=h.el
 have c':=h3.pt.canon (h2.canon mlaw)
 have e:es'=es:=obj_eq c' c (fun k=>by rw[h4,hl];simp) h5
 subst e
 exact h3.obj ⟨Nat.le_refl _,by omega⟩ ⟨by omega,by omega⟩ (by omega) h.box h2
end

section
set_option maxRecDepth 100000
set_option maxHeartbeats 8000000
open Go.RowKit Go.Maps
section
variable {w:World} {b:Nat}
theorem clone_obj {f:Nat} {F:Nat→Prop} {m n:Nat} {D:List (Lit×DataW Value)} {es:List (Lit×Sp.V)} (hS:∀k,Maps.has (.map es:DataW Unit) k=true→CloneAt f ((DataW.map es).atKey k .nil)) (h:VB w b 6 n0 [] (.slice none 0 0) (.map (some m))) (ho:w.ownsMap Tryz.prog 9 RV m n (.map D)) (hp:Pt (Rep f F w) D es) (hsm:es.length<maxLen) :
  Calls Tryz.prog 201 #[.pointer (some ⟨b,0,none⟩)] w fun e w'=>e = .returned (.pointer (some ⟨w.heap.size,0,none⟩))∧Below w.heap.size w w'∧Tr (f+1) w.heap.size w' (.pointer (some ⟨w.heap.size,0,none⟩)) (Sp.vObj es):=by
 have hml:=mlaw
 have hmz:=mzero
 have hmk:=map_make es.length
 have c0:=h.c0
 have c1:=h.c1
 have c2:=h.c2
 have c3:=h.c3
 have c4:=h.c4
 have c5:=h.c5
 have c6:=h.c6
 have hbl:=h.lt
 have hmb:=map_lt ho
 have l1:=fun (o:Obj) ty=>(ho.alloc o).len (t:=109) Tryz.underlying109 ty
 have hl:=hp.size
 have hsz:Maps.size (.map D:DataW Value)=es.length:=hl
 have C1:=hide (hp.canon (ho.canon hml))
 have HO2:Hid (∀o1 o2,((w.alloc o1).alloc o2).ownsMap Tryz.prog 9 RV m n (.map D)):=hide (fun o1 o2=>(ho.alloc o1).alloc o2)
 have old:∀ (o:Obj) (j:Nat),(w.alloc o).cell? ⟨b,j,none⟩=w.cell? ⟨b,j,none⟩:=fun o j=>World.cell?_of_block (w:=w) (Below.heap_alloc w o b hbl)
 have d0:∀o,(w.alloc o).cell? ⟨b,0,none⟩=some (.int .i64 6):=fun o=>(old o 0).trans c0
 have d6:∀o,(w.alloc o).cell? ⟨b,6,none⟩=some (.map (some m)):=fun o=>(old o 6).trans c6
 have hstart:Hid (∀w0,((w.alloc (.cells #[.int .i64 6,.bool false,.string ⟨#[]⟩,.int .i64 0,.string ⟨#[]⟩,.slice none 0 0,.map (some (w.heap.size+1))] 111)).alloc (.map #[] 0)).grownBy w0 none→w0.heap.size=w.heap.size+3 →
   ClO f w es (has (.map D:DataW Value)) (Maps.size (.map D:DataW Value)) w0):=by
  intro w0 hg hs
  obtain⟨W1,hW⟩:∃W1,W1=w.alloc (.cells #[.int .i64 6,.bool false,.string ⟨#[]⟩,.int .i64 0,.string ⟨#[]⟩,.slice none 0 0,.map (some (w.heap.size+1))] 111):=⟨_,rfl⟩
  rw[← hW] at hg
  have e1:W1.heap.size=w.heap.size+1:=by rw[hW];simp
  have hvb:VB W1 w.heap.size 6 n0 [] (.slice none 0 0) (.map (some (w.heap.size+1))):=by rw[hW];exact heap_alloc_new w _
  have hbel:Below w.heap.size w W1:=by rw[hW];exact (Below.refl _ _).alloc (Nat.le_refl _) _
  have hmade:=World.ownsMap_made W1 Tryz.prog 9 RV
  rw[e1] at hmade
  have hk:∀j,j<w.heap.size+2→w0.heap[j]? = (W1.alloc (.map #[] 0)).heap[j]?:=fun j hj=>hg.block j (by simp;omega) (by simp)
  have hb2:=hbel.alloc (by omega) (.map #[] 0)
  refine⟨⟨hg.os.trans hb2.os,hg.tape.trans hb2.tape,hg.output.trans hb2.output,by omega,fun j hj=>(hk j (by omega)).trans (hb2.block j hj)⟩,
   (hvb.kept (Below.heap_alloc W1 _ _ hvb.lt)).kept (hk _ (by omega)),by omega,0,[],[],by omega,map_kept hmade (hk _ (by omega)),TrM.nil _ _ _,?_,?_⟩
  ·intro k
   rw[hp.has k]
   cases Maps.has (.map es:DataW Unit) k<;>rfl
  ·intro k hk;cases hk
 have HP:=hide hp
 have HS:=hide hS
 have HSM:=hide hsm
 clear hp hS h ho hsm old hl
 go_enter Tryz.func201,Tryz.ntmps201
 go_wp2_with (first
  | (at_range;refine wpList_range_own _ rfl _ 109 rfl 9 80 hml Tryz.underlying109 RV m n _ rfl (unhide HO2 _ _) ?_;intro w0 hrg0 hg0 hs0)
  | go_in)
 have e0:(((w.alloc (.cells #[.int .i64 6,.bool false,.string ⟨#[]⟩,.int .i64 0,.string ⟨#[]⟩,.slice none 0 0,.map (some (w.heap.size+1))] 111)).alloc (.map #[] 0))).heap.size=w.heap.size+2:=by simp
 have hcl:=hide (unhide hstart w0 hg0 (by rw[hs0];simp))
 rw[e0] at hrg0
 clear hg0 hs0 hstart
 go_loopw [7] (fun _ wr=>∃ (left:Lit→Bool) (cnt:Nat),wr.ranges Tryz.prog 9 RV m (w.heap.size+2) n (.map D) left cnt∧Hid (ClO f w es left cnt wr))
  (fun _ wr=>wr.rangeLeft m (w.heap.size+2))
 case atStart=>exact⟨_,_,hrg0,hcl⟩
 case round =>
  obtain⟨left,cnt,hrg,G⟩:=hrel
  go_wp2_with (first
   | (at_next;refine wpList_next_ranges _ rfl _ rfl 9 hml RV id id (fun key _ _=>⟨key,rfl⟩) (fun v _ _=>⟨v,rfl⟩) m (w.heap.size+2) n _ _ _ rfl hrg ?_ ?_)
   | go_in)
  ·intro _ hl0
   have HD:=hide ((unhide G).done (unhide C1) hl0)
   have HB:=hide (unhide G).bel
   go_wp2_with (fail)
   go_ret
   exact⟨rfl,unhide HB,unhide HD⟩
  ·intro x c kl yd yp w1 cnt1 hkey hlx hv hat hrg1 hlt hg1 hs1 hen
   have hv2:DataW.held c=yd:=congrArg Prod.fst (Option.some.inj hv)
   subst hv2
   have hasD:Maps.has (.map D) kl=true:=has_true_of_atKey hat
   obtain⟨c',e1,hrep⟩:=(unhide HP).at kl hasD
   have e2:c'=c:=by
    have e3:=(e1 .nil).symm.trans (hat .nil)
    injection e3
   subst e2
   have hasE:Maps.has (.map es:DataW Unit) kl=true:=by rw[← (unhide HP).has kl];exact hasD
   have G1:=(unhide G).next hg1
   have hc1:Hid (∀wx,Below w.heap.size w wx→Calls Tryz.prog 201 #[c'] wx fun e w'=>∃p,e = .returned (.pointer (some p))∧Below wx.heap.size wx w'∧Tr f wx.heap.size w' (.pointer (some p)) ((DataW.map es).atKey kl .nil)):=hide (fun wx hb=>unhide HS kl hasE F wx c' (hrep.bel hb))
   have HUP:=hide (fun (w2:World) (p:Addr) (hb:Below w1.heap.size w1 w2) (hv:Tr f w1.heap.size w2 (.pointer (some p)) ((DataW.map es).atKey kl .nil))=>G1.step (unhide C1) hlt (unhide HSM) hkey hlx hasE hb hv)
   have qV:=G1.box.c6
   have HB:=hide G1.bel
   clear hat hrep hasE e1 hasD hv
   go_wp2_with (fail)
   go_region_with (go_at_call 201;refine (unhide hc1 _ ?_).mono ?_;exact⟨(unhide HB).os,(unhide HB).tape,(unhide HB).output,(unhide HB).size,(unhide HB).block⟩;rintro e w2 ⟨p,rfl,hb2,hv2⟩;have hb3:Below w1.heap.size w1 w2:=⟨hb2.os,hb2.tape,hb2.output,hb2.size,hb2.block⟩;obtain⟨y1,w3,hrun,hcl,hg3⟩:=unhide HUP w2 p hb3 hv2)
   all_goals (
    have hrg3:=(hrg1.kept (grown_of_below hb3) (by simp) (by simp)).kept hg3 (fun e=>by have:=Option.some.inj e;omega) (fun e=>by have:=Option.some.inj e;omega)
    go_wp2_with (fail)
    go_roundw
    case rel=>exact⟨_,cnt1,hrg3,hcl⟩
    case measure=>rw[hrg3.left_eq,hrg.left_eq];exact hlt)
end
def Sp.nar:Nat→Sp.V→Prop
 | 0,_=>True
 | f+1,d=>match d with
  | .slice es _=>es.length≤1000000000000 ∧ ∀e∈es,Sp.nar f e
  | .map es=>es.length≤1000000000000 ∧ ∀p∈es,Sp.nar f p.2
  | _=>True
theorem clone_step {f:Nat} (hS:∀a,Sp.nar f a→CloneAt f a) (a:Sp.V) (hn:Sp.nar (f+1) a):CloneAt (f+1) a:=by
 intro F w v ha
 obtain⟨b,rfl,_,ha⟩:=ha
 rcases ha with⟨k,hk,rfl,h⟩|⟨n,rfl,h,hbd⟩|⟨s,rfl,h⟩|⟨es,sl,ps,rfl,h,ho,_,hal⟩|⟨es,m,n,D,rfl,h,_,ho,hp⟩
 ·refine (clone_leaf h (by omega) (by omega)).mono ?_
  rintro e w' ⟨rfl,hb,hv⟩
  exact⟨_,rfl,hb,Tr.leafW (Nat.le_refl _) hk hv⟩
 ·refine (clone_leaf h (by omega) (by omega)).mono ?_
  rintro e w' ⟨rfl,hb,hv⟩
  exact⟨_,rfl,hb,Tr.leafN (Nat.le_refl _) hv hbd⟩
 ·refine (clone_leaf h (by omega) (by omega)).mono ?_
  rintro e w' ⟨rfl,hb,hv⟩
  exact⟨_,rfl,hb,Tr.leafS (Nat.le_refl _) hv⟩
 ·obtain⟨n1,n2⟩:=hn
  refine (clone_arr (fun d hd=>hS d (n2 d hd)) h ho hal (by have:=hal.length;omega)).mono ?_
  rintro e w' ⟨rfl,hb,hv⟩
  exact⟨_,rfl,hb,hv⟩
 ·obtain⟨n1,n2⟩:=hn
  refine (clone_obj (fun k hk=>by
   obtain⟨p,hpm,e⟩:=at_mem hk
   rw[e];exact hS _ (n2 p hpm)) h ho hp (by unfold maxLen;omega)).mono ?_
  rintro e w' ⟨rfl,hb,hv⟩
  exact⟨_,rfl,hb,hv⟩
theorem vClone_any:∀ (f:Nat) (a:Sp.V),Sp.nar f a→CloneAt f a
 | 0,_,_=>fun _ _ _ h=>h.elim
 | f+1,a,hn=>clone_step (vClone_any f) a hn
end

section
open Go.RowKit Go.Maps
namespace Sp
abbrev Opn:=Nat×List By×V
abbrev Inv:=Option (List Opn)
abbrev Doc:=Option (V×Inv)
abbrev St:=Int×By×By
abbrev Ans:=Nat×Nat×By
abbrev Op2:=Nat×List By×List By×V
def add_:By:=[97,100,100]
def remove_:By:=[114,101,109,111,118,101]
def replace_:By:=[114,101,112,108,97,99,101]
def move_:By:=[109,111,118,101]
def copy_:By:=[99,111,112,121]
def test_:By:=[116,101,115,116]
def op_:By:=[111,112]
def path_:By:=[112,97,116,104]
def from_:By:=[102,114,111,109]
def value_:By:=[118,97,108,117,101]
def pMem (d:V) (k:By):Option V:=match d with
 | .map es=>if Maps.has (.map es:V) (.string k)=true then some ((DataW.map es).atKey (.string k) .nil) else none
 | _=>none
def pStrOf:Option V→Option By
 | some (.lit (.string s))=>some s
 | _=>none
def pPtrOf (d:Option V):Option (List By):=match pStrOf d with
 | some s=>toks s
 | none=>none
def kindOf (nm:By) (hv hf:Bool):Option Nat :=
 if nm=remove_ then some 1
 else if nm=add_ then (if hv then some 0 else none)
 else if nm=replace_ then (if hv then some 2 else none)
 else if nm=test_ then (if hv then some 5 else none)
 else if nm=move_ then (if hf then some 3 else none)
 else if nm=copy_ then (if hf then some 4 else none)
 else none
def pItem (d:V):Option Op2:=match pPtrOf (pMem d path_) with
 | none=>none
 | some p=>match kindOf ((pStrOf (pMem d op_)).getD []) (pMem d value_).isSome (pPtrOf (pMem d from_)).isSome with
  | none=>none
  | some k=>some (k,p,(pPtrOf (pMem d from_)).getD [],(pMem d value_).getD .nil)
def pItems:Nat→List V→Except Nat (List Op2)
 | _,[]=>.ok []
 | i,d::r=>match pItem d with
  | none=>.error i
  | some o=>match pItems (i+1) r with
   | .ok l=>.ok (o::l)
   | .error c=>.error c
def pread (d:V):Except Nat (List Op2):=match d with
 | .slice es _=>pItems 0 es
 | _=>.error 0
def way (d:V) (s:List By):List Nat:=(posn d s).getD []
def noB:By:=[]
def addAt (d:V) (s:List By) (t:By) (n x:V):Except Nat (V×List Opn):=match n with
 | .map es=>if Maps.has (.map es:V) (.string t)=true then .ok (vput (way d s) (setV 0 t x (.map es)) d,[(2,s++[t],(DataW.map es).atKey (.string t) .nil)])
   else .ok (vput (way d s) (insV 0 t x (.map es)) d,[(1,s++[t],.nil)])
 | .slice es y=>match slot es.length t with
  | .error c=>.error c
  | .ok i=>.ok (vput (way d s) (insV i noB x (.slice es y)) d,[(1,s++[Lib.itoa (i:Int)],.nil)])
 | _=>.error 11
def pSplit (p:List By):Option (List By×By):=match p.getLast? with
 | none=>none
 | some t=>some (p.dropLast,t)
def dadd (d:V) (p:List By) (x:V):Except Nat (V×List Opn):=match pSplit p with
 | none=>.ok (x,[(2,[],d)])
 | some (s,t)=>match find d s with
  | .error c=>.error c
  | .ok n=>addAt d s t n x
def drem (d:V) (p:List By):Except Nat (V×List Opn):=match pSplit p with
 | none=>.error 11
 | some (s,t)=>match find d s with
  | .error c=>.error c
  | .ok n=>match child n t with
   | .error c=>.error c
   | .ok e=>.ok (vput (way d s) (remV ((idx t).getD 0) t n) d,[(0,p,e)])
def drep (d:V) (p:List By) (x:V):Except Nat (V×List Opn):=match pSplit p with
 | none=>.ok (x,[(2,[],d)])
 | some (s,t)=>match find d s with
  | .error c=>.error c
  | .ok n=>match child n t with
   | .error c=>.error c
   | .ok e=>.ok (vput (way d s) (setV ((idx t).getD 0) t x n) d,[(2,p,e)])
def leads (p q:List By):Bool:=decide (q.length<p.length) && (p.take q.length == q)
def dmove (d:V) (q p:List By):Except Nat (V×List Opn):=match find d q with
 | .error c=>.error c
 | .ok e=>if q=p then .ok (d,[]) else if leads p q then .error 13 else match drem d q with
  | .error c=>.error c
  | .ok (d1,j1)=>match dadd d1 p e with
   | .error c=>.error c
   | .ok (d2,j2)=>.ok (d2,j1++j2)
def dcopy (d:V) (q p:List By):Except Nat (V×List Opn):=match find d q with
 | .error c=>.error c
 | .ok e=>dadd d p e
noncomputable def dtest (d:V) (p:List By) (x:V):Except Nat (V×List Opn):=match find d p with
 | .error c=>.error c
 | .ok e=>if veq e x=true then .ok (d,[]) else .error 14
noncomputable def do1 (d:V) (o:Op2):Except Nat (V×List Opn) :=
 if o.1=0 then dadd d o.2.1 o.2.2.2 else if o.1=1 then drem d o.2.1 else if o.1=2 then drep d o.2.1 o.2.2.2
 else if o.1=3 then dmove d o.2.2.1 o.2.1 else if o.1=4 then dcopy d o.2.2.1 o.2.1 else dtest d o.2.1 o.2.2.2
noncomputable def meas (dp:Int) (d:V):Nat:=if dp<dep top d then 7 else if 20000<(can top d).length then 4 else 0
noncomputable def dops (dp:Int):Nat→V→List Opn→List Op2→Except (Nat×Nat) (V×List Opn)
 | _,d,j,[]=>.ok (d,j)
 | i,d,j,o::r=>match do1 d o with
  | .error c=>.error (c,i)
  | .ok (d',j')=>if meas dp d'=0 then dops dp (i+1) d' (j++j') r else .error (meas dp d',i)
def escT1 (c:UInt8):By:=if c=126 then [126,48] else if c=47 then [126,49] else [c]
def tokT (t:By):By:=t.flatMap escT1
def ptxt (p:List By):By:=p.flatMap fun t=>47::tokT t
def opName (k:Nat):By:=if k=0 then add_ else if k=1 then remove_ else replace_
def elemV (o:Opn):V:=if o.1=1 then vObj [(.string op_,vStr (opName o.1)),(.string path_,vStr (ptxt o.2.1))]
 else vObj [(.string op_,vStr (opName o.1)),(.string path_,vStr (ptxt o.2.1)),(.string value_,o.2.2)]
def ptext (l:List Opn):By:=can top (vArr (l.map elemV))
end Sp
end
end Go.Proofs.YtdpomdelmdofmaaGreatDoor
