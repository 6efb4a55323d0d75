import Derived.Test.YtdpomdelmdofmaaGreatDoorUnd17
import Derived.Laws.MakeOwn
import Derived.Laws.OwnMore
namespace Go.Proofs.YtdpomdelmdofmaaGreatDoor
open Go.Proofs.Tryz
section
set_option maxRecDepth 100000
set_option maxHeartbeats 8000000
open Go.RowKit Go.Maps
def Gt(f:Nat)(a:Sp.V):Prop:=∀ (F:Nat->Prop) (w:World) (v:Value),Rep f F w v a->Calls Tryz.prog 201 #[v] w fun e w'=>∃p,e = .returned (.pointer (some p))/\Below w.heap.size w w'/\Tr f w.heap.size w' (.pointer (some p)) a
theorem Tz(n:Nat)(hn:n*8<=281474976710656)(w:World):(Instr.makeSlice 106 (.int .i64 n) (.int .i64 n)).run Tryz.prog w = .ok (.slice (some ⟨w.heap.size,0,none⟩) n n) (w.alloc (.cells (madeCells #[.pointer none] (n*1)) 80)):=by
 obtain⟨i,hi,h⟩:=Option.map_eq_some_iff.1 QD;injection h with h1 h2;injection h2 with h2 h3;have:=run_make (P:=Tryz.prog) w 106 80 i _ underlying106 hi h1 .i64 .i64 n n (by omega) (by omega) (by rw[h3];omega) (by omega);rw[h2] at this;simpa[Value.cells] using this
section
variable{w:World}{b:Nat}
theorem GS{k:Int}{n:Sp.Nm}{s:Sp.By}(h:VB w b k n s (.slice none 0 0) (.map none))(h5:k≠5)(h6:k≠6) :
  Calls Tryz.prog 201 #[.pointer (some ⟨b,0,none⟩)] w fun e w'=>e = .returned (.pointer (some ⟨w.heap.size,0,none⟩))/\Below w.heap.size w w'/\VB w' w.heap.size k n s (.slice none 0 0) (.map none):=by
 have c0:=h.c0;have c1:=h.c1;have c2:=h.c2;have c3:=h.c3;have c4:=h.c4;have c5:=h.c5;have c6:=h.c6;have d0:∀o,(w.alloc o).cell? ⟨b,0,none⟩=some (.int .i64 k):=fun o=>(World.cell?_of_block (w:=w) (Below.heap_alloc w o b h.lt)).trans c0;have e5:(k == 5)=false:=beq_eq_false_iff_ne.2 h5;have e6:(k == 6)=false:=beq_eq_false_iff_ne.2 h6;clear h h5 h6
 go_enter func201,ntmps201
 go_wp2_with (fail)
 go_ret;exact⟨rfl,(Below.refl _ _).alloc (Nat.le_refl _) _,EA _ _ _ rfl⟩
structure ClA(f N:Nat)(w:World)(es:List Sp.V)(k:Nat)(wr:World):Prop where
 bel:Below w.heap.size w wr
 box:VB wr w.heap.size 5 n0 [] (.slice (some ⟨w.heap.size+1,0,none⟩) N N) (.map none)
 el:∃qs:List Value,qs.length=k/\wr.ownsRow (w.heap.size+1) 80 1 (.slice (some ⟨w.heap.size+1,0,none⟩) N N) N (qs++List.replicate (N-k) (.pointer none))/\TrL f (w.heap.size+1) (some (w.heap.size+1)) wr qs (es.take k)
theorem ClA.step{f N k:Nat}{w wr w2:World}{es:List Sp.V}{p:Addr}(h:ClA f N w es k wr)(hk:k<N)(hke:k<es.length)(hb:Below wr.heap.size wr w2)(hv:Tr f wr.heap.size w2 (.pointer (some p)) es[k]) :
  ClA f N w es (k+1) (w2.setCell ⟨w.heap.size+1,k,none⟩ (.pointer (some p))):=by
 obtain⟨qs,hq,ho,ht⟩:=h.el;have hlt:=AA ho (w.heap.size+1) rfl;have ho2:=AZ ho (w':=w2) (fun g hg=>hb.block g (AA ho g hg).1);have hst:=ho2.stored k (.pointer (some p));have hs2:=hb.size;refine⟨?_,?_,qs++[.pointer (some p)],by simp[hq],?_,?_⟩
 ·refine ((h.bel.trans (hb.mono h.bel.size)).trans ⟨rfl,rfl,rfl,by simp[World.setCell],fun j hj=>Below.heap_setCell _ _ _ _ (show j≠w.heap.size+1 by omega)⟩)
 ·exact (h.box.kept (hb.block _ h.box.lt)).kept (Below.heap_setCell _ _ _ _ (show w.heap.size≠w.heap.size+1 by omega))
 ·have e:(qs++List.replicate (N-k) (Value.pointer none)).set k (.pointer (some p))=qs++[.pointer (some p)]++List.replicate (N-(k+1)) (.pointer none):=by
   obtain⟨m,hm⟩:∃m,N-k=m+1:=⟨N-k-1,by omega⟩
   rw[hm,show N-(k+1)=m by omega,<- hq,List.set_append_right _ _ (Nat.le_refl _)];simp[List.replicate_succ]
  rw[<- e];exact hst.1
 ·rw[List.take_succ_eq_append_getElem hke];refine ht.snoc hv (by omega) ?_ ?_
  ·intro j h1 h2 h3;exact⟨(Below.heap_setCell _ _ _ _ (show j≠w.heap.size+1 from fun e=>h2 (by rw[e]))).trans (hb.block j h3),h2⟩
  ·intro j h1 h2;exact⟨Below.heap_setCell _ _ _ _ (show j≠w.heap.size+1 by omega),fun e=>by injection e;omega⟩
theorem ClA.done{f N:Nat}{w wr:World}{es:List Sp.V}(h:ClA f N w es N wr)(hn:N=es.length):Tr (f+1) w.heap.size wr (.pointer (some ⟨w.heap.size,0,none⟩)) (Sp.Ar es):=by
 obtain⟨qs,hq,ho,ht⟩:=h.el;rw[Nat.sub_self,List.replicate_zero,List.append_nil] at ho;rw[List.take_of_length_le (by omega)] at ht;have ho':=Hl ho (Nat.zero_le _);rw[show N=qs.length from hq.symm] at ho';have hb:=h.box;rw[show N=qs.length from hq.symm] at hb;exact TrL.arr (sl:=.slice (some ⟨w.heap.size+1,0,none⟩) qs.length qs.length) ht (Nat.le_refl _) (by omega) hb ho' (fun g hg=>by
  have:g=w.heap.size+1:=by simpa[Value.ownBlock] using hg.symm
  omega)
theorem SG{f:Nat}{F:Nat->Prop}{sl:Value}{ps:List Value}{es:List Sp.V}(hS:∀d∈es,Gt f d)(h:VB w b 5 n0 [] sl (.map none))(ho:w.ownsRow 0 80 1 sl ps.length ps)(ha:Al (Rep f F w) ps es)(hsm:ps.length*8<=281474976710656) :
  Calls Tryz.prog 201 #[.pointer (some ⟨b,0,none⟩)] w fun e w'=>e = .returned (.pointer (some ⟨w.heap.size,0,none⟩))/\Below w.heap.size w w'/\Tr (f+1) w.heap.size w' (.pointer (some ⟨w.heap.size,0,none⟩)) (Sp.Ar es):=by
 have c0:=h.c0;have c1:=h.c1;have c2:=h.c2;have c3:=h.c3;have c4:=h.c4;have c5:=h.c5;have c6:=h.c6;have hbl:=h.lt;have hl:=ha.length;obtain⟨N,hN⟩:∃N,N=ps.length:=⟨_,rfl⟩
 have hn1:(N:Int)<=9223372036854775807:=by omega
 rw[<- hN] at hsm;have hmk:=Tz N hsm;have hMx:N<=maxLen:=by unfold maxLen;omega
 have HL:=Ab (hN.trans hl);have old:∀ (o:Obj) (j:Nat),(w.alloc o).cell? ⟨b,j,none⟩=w.cell? ⟨b,j,none⟩:=fun o j=>World.cell?_of_block (w:=w) (Below.heap_alloc w o b hbl);have d0:∀o,(w.alloc o).cell? ⟨b,0,none⟩=some (.int .i64 5):=fun o=>(old o 0).trans c0;have d5:∀o,(w.alloc o).cell? ⟨b,5,none⟩=some sl:=fun o=>(old o 5).trans c5;have hstart:Hid (∀W,W=((w.alloc (.cells #[.int .i64 5,.bool false,.string ⟨#[]⟩,.int .i64 0,.string ⟨#[]⟩,.slice (some ⟨w.heap.size+1,0,none⟩) N N,.map none] 111)).alloc (.cells (madeCells #[.pointer none] N) 80))->ClA f N w es 0 W):=by
  rintro W rfl;have e1:(w.alloc (.cells #[.int .i64 5,.bool false,.string ⟨#[]⟩,.int .i64 0,.string ⟨#[]⟩,.slice (some ⟨w.heap.size+1,0,none⟩) N N,.map none] 111)).heap.size=w.heap.size+1:=by simp
  have hb1:=heap_alloc_new w (.cells #[.int .i64 5,.bool false,.string ⟨#[]⟩,.int .i64 0,.string ⟨#[]⟩,.slice (some ⟨w.heap.size+1,0,none⟩) N N,.map none] 111);generalize hW:w.alloc (.cells #[.int .i64 5,.bool false,.string ⟨#[]⟩,.int .i64 0,.string ⟨#[]⟩,.slice (some ⟨w.heap.size+1,0,none⟩) N N,.map none] 111)=W1 at *;have hbel:Below w.heap.size w W1:=by rw[<- hW];exact (Below.refl _ _).alloc (Nat.le_refl _) _
  have hmc:(madeCells #[Value.pointer none] N).size=N*1:=by simp[madeCells]
  have hrow:=World.ownsRow_lit (base:=w.heap.size+1) (e:=80) (size:=1) W1 (madeCells #[.pointer none] N) N (by omega) hMx hmc;have hvb:VB W1 w.heap.size 5 n0 [] (.slice (some ⟨w.heap.size+1,0,none⟩) N N) (.map none):=hb1;rw[e1] at hrow;refine⟨hbel.alloc (by omega) _,hvb.kept (Below.heap_alloc W1 _ _ hvb.lt),[],rfl,?_,TrL.nil _ _ _ _⟩;have hx:(madeCells #[Value.pointer none] N).toList=[]++List.replicate (N-0) (Value.pointer none):=by simp[madeCells,Nat.mod_one,List.map_const']
  rw[<- hx];exact hrow
 have hcall:Hid (∀ (k:Nat) (h1:k<ps.length) (h3:k<es.length) (wr:World),Below w.heap.size w wr->Calls Tryz.prog 201 #[ps[k]] wr fun e w'=>∃p,e = .returned (.pointer (some p))/\Below wr.heap.size wr w'/\Tr f wr.heap.size w' (.pointer (some p)) es[k]) :=
  Ab (fun k h1 h3 wr hb=>hS _ (List.getElem_mem h3) F wr ps[k] ((ha.get k h1 h3).bel hb))
 obtain⟨a,c,rfl⟩:=Dt ho;have HC:Hid (∀ (k:Nat) (h1:k<ps.length),∃g,a=some ⟨g,0,none⟩/\g<w.heap.size/\w.cell? ⟨g,k,none⟩=some ps[k]):=Ab (fun k h1=>by
  obtain⟨g1,p1,e,_,_,l1,hc1⟩:=BF ho (by omega);injection e with e;exact⟨g1,e,l1,hc1 k h1⟩)
 rw[<- hN] at c5 d5;have HN:=Ab hN;clear h ho ha hS hl hN old
 go_enter func201,ntmps201
 go_wp2_with (fail)
 go_loopw [29] (fun i wr=>∃k:Nat,k<=N/\i = .int .i64 k/\Hid (ClA f N w es k wr)) (fun i _=>N-(intOf i).toNat)
 case atStart=>exact⟨0,by omega,rfl,Aa hstart _ rfl⟩
 case round =>
  obtain⟨k,hk,rfl,HI⟩:=hrel;by_cases hlt:k<N
  ·have h1:k<ps.length:=by have:=Aa HN;omega
   have h3:k<es.length:=by have:=Aa HL;omega
   obtain⟨g,rfl,hg1,hgc⟩:=Aa HC k h1;have q1:=((Aa HI).bel.cell (p:=⟨g,k,none⟩) hg1).trans hgc;have qV:=(Aa HI).box.c5;have hc1:=Ab (Aa hcall k h1 h3);have HSTEP:Hid (∀ (w2:World) (p:Addr),Below wr.heap.size wr w2->Tr f wr.heap.size w2 (.pointer (some p)) es[k]->ClA f N w es (k+1) (w2.setCell ⟨w.heap.size+1,k,none⟩ (.pointer (some p)))):=Ab (fun w2 p hb hv=>(Aa HI).step hlt h3 hb hv);have HV2:Hid (∀w2,Below wr.heap.size wr w2->w2.cell? ⟨w.heap.size,5,none⟩=some (.slice (some ⟨w.heap.size+1,0,none⟩) N N)/\w2.frozen? ⟨w.heap.size+1,k,none⟩=false /\ ∃u,w2.cell? ⟨w.heap.size+1,k,none⟩=some u):=Ab (fun w2 hb=>by
    obtain⟨qs,hq,ho,ht⟩:=(Aa HI).el;have ho2:=AZ ho (w':=w2) (fun g hg=>hb.block g (AA ho g hg).1);refine⟨((Aa HI).box.kept (hb.block _ (Aa HI).box.lt)).c5,ho2.frozenAt k,?_⟩;have h5:=ho2.cellAt k (by omega);rw[h5];have hlen:k<(qs++List.replicate (N-k) (Value.pointer none)).length:=by simp;omega
    exact⟨_,List.getElem?_eq_getElem hlen⟩)
   have HB:=Ab (Aa HI).bel;generalize ps[k]=pk at *;clear HC
   go_wp2_with (fail)
   go_region_with (go_at_call 201;refine (Aa hc1 _ ?_).mono ?_;exact⟨(Aa HB).os,(Aa HB).tape,(Aa HB).output,(Aa HB).size,(Aa HB).block⟩;rintro e w2 ⟨p,rfl,hb2,hv2⟩;have hb3:Below wr.heap.size wr w2:=⟨hb2.os,hb2.tape,hb2.output,hb2.size,hb2.block⟩;obtain⟨y1,y2,u,y3⟩:=Aa HV2 w2 hb3)
   all_goals (
    go_wp2_with (fail);exact⟨⟨k+1,by omega,by go_num,Aa HSTEP w2 p hb3 hv2⟩,by simp only[intOf];omega⟩)
  ·have HD:=Ab (show Tr (f+1) w.heap.size wr (.pointer (some ⟨w.heap.size,0,none⟩)) (Sp.Ar es) from (show ClA f N w es N wr from by have:=Aa HI;rwa [show k=N by omega] at this).done (Aa HL));have HB:=Ab (Aa HI).bel;clear HC
   go_wp2_with (fail)
   go_ret;exact⟨rfl,Aa HB,Aa HD⟩
end
end

section
open Go.RowKit Go.Maps
theorem TW(n:Nat)(w:World):(Instr.makeMap 109 (some (.int .i64 n))).run Tryz.prog w = .ok (.map (some w.heap.size)) (w.alloc (.map #[] 0)):=by
 simp[Instr.makeMap,run_underlying underlying109,asInt,asIntOf,Result.andThen]
theorem JW{es es':List (Lit×Sp.V)}(c:Maps.Canon (.map es:DataW Unit))(c':Maps.Canon (.map es':DataW Unit))
  (h:∀k,Maps.has (.map es:DataW Unit) k=true->Maps.has (.map es':DataW Unit) k=true/\(DataW.map es).atKey k .nil=(DataW.map es').atKey k .nil):∀p∈es,p∈es':=by
 obtain⟨_,he,hp,hk⟩:=c;injection he with he;subst he;obtain⟨_,he,hp',hk'⟩:=c';injection he with he;subst he;have hap:=apart_of_rising hp;have hap':=apart_of_rising hp';intro p hpm;have h1:Maps.has (.map es:DataW Unit) p.1=true:=List.any_eq_true.2 ⟨p,hpm,WideAt.sameKey_self (hk p hpm)⟩;obtain⟨h2,h3⟩:=h p.1 h1;obtain⟨q,hq,hs⟩:=List.any_eq_true.1 (show es'.any (fun q=>q.1.sameKey p.1)=true from h2);have e1:q.1=p.1:=WideAt.sameKey_eq hs;have e2:=WideAt.atKey_mem .nil (hk p hpm) hap (show (p.1,p.2)∈es from hpm);have e3:=WideAt.atKey_mem .nil (hk' q hq) hap' (show (q.1,q.2)∈es' from hq);rw[e1] at e3;rw[e2,e3] at h3;have:p=q:=Prod.ext e1.symm h3;rw[this];exact hq
theorem Rr{es es':List (Lit×Sp.V)}(c:Maps.Canon (.map es:DataW Unit))(c':Maps.Canon (.map es':DataW Unit))(hh:∀k,Maps.has (.map es:DataW Unit) k=Maps.has (.map es':DataW Unit) k)
  (h:∀k,Maps.has (.map es:DataW Unit) k=true->(DataW.map es).atKey k .nil=(DataW.map es').atKey k .nil):es=es':=by
 have s1:=JW c c' (fun k hk=>⟨by rw[<- hh];exact hk,h k hk⟩);have s2:=JW c' c (fun k hk=>⟨by rw[hh];exact hk,(h k (by rw[hh];exact hk)).symm⟩);obtain⟨_,he,hp,_⟩:=c;injection he with he;subst he;obtain⟨_,he,hp',_⟩:=c';injection he with he;subst he;exact eq_of_mem_rising hp hp' (fun p=>⟨s1 p,s2 p⟩)
theorem O0{es:List (Lit×Sp.V)}(c:Maps.Canon (.map es:DataW Unit)){k:Lit}(h:Maps.has (.map es:DataW Unit) k=true):WideAt.IsKeyLit k:=by
 obtain⟨_,he,_,hk⟩:=c;injection he with he;subst he;obtain⟨p,hp,hs⟩:=List.any_eq_true.1 (show es.any (fun p=>p.1.sameKey k)=true from h);have:=hk p hp
 rwa [WideAt.sameKey_eq hs] at this
structure ClO(f:Nat)(w:World)(es:List (Lit×Sp.V))(left:Lit->Bool)(cnt:Nat)(wr:World):Prop where
 bel:Below w.heap.size w wr
 box:VB wr w.heap.size 6 n0 [] (.slice none 0 0) (.map (some (w.heap.size+1)))
 sz:w.heap.size+3<=wr.heap.size
 el:∃n' D' es',n'+cnt<=es.length/\wr.ownsMap Tryz.prog 9 RV (w.heap.size+1) n' (.map D')/\TrM f (w.heap.size+3) wr D' es' /\
  (∀k,Maps.has (.map es':DataW Unit) k=(Maps.has (.map es:DataW Unit) k && !left k))/\(∀k,Maps.has (.map es':DataW Unit) k=true->(DataW.map es').atKey k .nil=(DataW.map es).atKey k .nil)
theorem ClO.next{f cnt:Nat}{w wr w1:World}{es:List (Lit×Sp.V)}{left:Lit->Bool}(h:ClO f w es left cnt wr)(hg:wr.grownBy w1 (some (w.heap.size+2))):ClO f w es left cnt w1:=by
 have hs:=h.sz;have hs1:=hg.size;have hk:∀j,j<wr.heap.size->j≠w.heap.size+2->w1.heap[j]? = wr.heap[j]?:=fun j h1 h2=>hg.block j h1 (fun e=>h2 (Option.some.inj e));refine⟨⟨hg.os.trans h.bel.os,hg.tape.trans h.bel.tape,hg.output.trans h.bel.output,by omega,fun j hj=>(hk j (by omega) (by omega)).trans (h.bel.block j hj)⟩,h.box.kept (hk _ (by omega) (by omega)),by omega,?_⟩;obtain⟨n',D',es',h1,h2,h3,h4,h5⟩:=h.el;exact⟨n',D',es',h1,AJ h2 (hk _ (by omega) (by omega)),h3.move (fun j hj hl=>hk j hl (by omega)),h4,h5⟩
theorem ClO.step{f cnt cnt1:Nat}{w w1 w2:World}{es:List (Lit×Sp.V)}{left:Lit->Bool}(h:ClO f w es left cnt w1)(c:Maps.Canon (.map es:DataW Unit))(hc:cnt1<cnt)(hsm:es.length<maxLen)
  {x:Value} {kl:Lit} (hkey:keyOf Tryz.prog 9 x=some kl) (hl:left kl=true) (hh:Maps.has (.map es:DataW Unit) kl=true) {p:Addr} (hb:Below w1.heap.size w1 w2) (hv:Tr f w1.heap.size w2 (.pointer (some p)) ((DataW.map es).atKey kl .nil)) :
  w2.cell? ⟨w.heap.size,6,none⟩=some (.map (some (w.heap.size+1))) /\ ∃w3,(Instr.mapUpdate 109 (.map (some (w.heap.size+1))) x (.pointer (some p))).run Tryz.prog w2 = .ok () w3 /\
   ClO f w es (fun z=>left z && !z.sameKey kl) cnt1 w3/\w2.grownBy w3 (some (w.heap.size+1)):=by
 have hs:=h.sz;have hs2:=hb.size;refine⟨(h.box.kept (hb.block _ h.box.lt)).c6,?_⟩;obtain⟨n',D',es',h1,h2,h3,h4,h5⟩:=h.el;have h2':=AJ h2 (hb.block _ (B0 h2));obtain⟨w3,hrun,ho3,hg⟩:=h2'.update Cd underlying109 (by omega) hkey (val:=.pointer (some p)) (d:=.held (.pointer (some p))) (ps:=[]) rfl;have hs3:=hg.size;have hk:∀j,j<w2.heap.size->j≠w.heap.size+1->w3.heap[j]? = w2.heap[j]?:=fun j h1 h2=>hg.block j h1 (fun e=>h2 (Option.some.inj e));refine⟨w3,hrun,⟨⟨hg.os.trans (hb.os.trans h.bel.os),hg.tape.trans (hb.tape.trans h.bel.tape),hg.output.trans (hb.output.trans h.bel.output),by omega,fun j hj=>(hk j (by omega) (by omega)).trans ((hb.block j (by omega)).trans (h.bel.block j hj))⟩,
  (h.box.kept (hb.block _ h.box.lt)).kept (hk _ (by omega) (by omega)),by omega,?_⟩,hg⟩
 have kk:=O0 c hh;obtain⟨D2,es2,e1,e2,ht⟩:=h3.put (k:=kl) (w6:=w3) hv (by omega) (fun j j1 j2=>(hk j (by omega) (by omega)).trans (hb.block j j2)) (fun j j1 j2=>hk j j2 (by omega));rw[e1] at ho3;refine⟨n'+1,D2,es2,by omega,ho3,ht,?_,?_⟩
 ·intro k;rw[<- e2];by_cases hkk:k=kl
  ·subst hkk;rw[has_put_same ⟨_,rfl⟩ kk,hh,hl,WideAt.sameKey_self kk];rfl
  ·rw[has_put_other hkk,h4];have:k.sameKey kl=false:=by
    cases hx:k.sameKey kl
    ·rfl
    ·exact absurd (WideAt.sameKey_eq hx) hkk
   rw[this];simp
 ·intro k;rw[<- e2];by_cases hkk:k=kl
  ·subst hkk;intro _;rw[atKey_put_same ⟨_,rfl⟩ kk]
  ·rw[has_put_other hkk,atKey_put_other hkk];exact h5 k
theorem ClO.done{f cnt:Nat}{w wr:World}{es:List (Lit×Sp.V)}{left:Lit->Bool}(h:ClO f w es left cnt wr)(c:Maps.Canon (.map es:DataW Unit))(hl:∀k,left k=false):Tr (f+1) w.heap.size wr (.pointer (some ⟨w.heap.size,0,none⟩)) (Sp.Av es):=by
 obtain⟨n',D',es',h1,h2,h3,h4,h5⟩:=h.el;have c':=h3.pt.canon (h2.canon Cd);have e:es'=es:=Rr c' c (fun k=>by rw[h4,hl];simp) h5;subst e;exact h3.obj ⟨Nat.le_refl _,by omega⟩ ⟨by omega,by omega⟩ (by omega) h.box h2
end

section
set_option maxRecDepth 100000
set_option maxHeartbeats 8000000
open Go.RowKit Go.Maps
section
variable{w:World}{b:Nat}
theorem SF{f:Nat}{F:Nat->Prop}{m n:Nat}{D:List (Lit×DataW Value)}{es:List (Lit×Sp.V)}(hS:∀k,Maps.has (.map es:DataW Unit) k=true->Gt f ((DataW.map es).atKey k .nil))(h:VB w b 6 n0 [] (.slice none 0 0) (.map (some m)))(ho:w.ownsMap Tryz.prog 9 RV m n (.map D))(hp:Pt (Rep f F w) D es)(hsm:es.length<maxLen) :
  Calls Tryz.prog 201 #[.pointer (some ⟨b,0,none⟩)] w fun e w'=>e = .returned (.pointer (some ⟨w.heap.size,0,none⟩))/\Below w.heap.size w w'/\Tr (f+1) w.heap.size w' (.pointer (some ⟨w.heap.size,0,none⟩)) (Sp.Av es):=by
 have hml:=Cd;have hmz:=C9;have hmk:=TW es.length;have c0:=h.c0;have c1:=h.c1;have c2:=h.c2;have c3:=h.c3;have c4:=h.c4;have c5:=h.c5;have c6:=h.c6;have hbl:=h.lt;have hmb:=B0 ho;have l1:=fun (o:Obj) ty=>(ho.alloc o).len (t:=109) underlying109 ty;have hl:=hp.size;have hsz:Maps.size (.map D:DataW Value)=es.length:=hl;have C1:=Ab (hp.canon (ho.canon hml));have HO2:Hid (∀o1 o2,((w.alloc o1).alloc o2).ownsMap Tryz.prog 9 RV m n (.map D)):=Ab (fun o1 o2=>(ho.alloc o1).alloc o2);have old:∀ (o:Obj) (j:Nat),(w.alloc o).cell? ⟨b,j,none⟩=w.cell? ⟨b,j,none⟩:=fun o j=>World.cell?_of_block (w:=w) (Below.heap_alloc w o b hbl);have d0:∀o,(w.alloc o).cell? ⟨b,0,none⟩=some (.int .i64 6):=fun o=>(old o 0).trans c0;have d6:∀o,(w.alloc o).cell? ⟨b,6,none⟩=some (.map (some m)):=fun o=>(old o 6).trans c6;have hstart:Hid (∀w0,((w.alloc (.cells #[.int .i64 6,.bool false,.string ⟨#[]⟩,.int .i64 0,.string ⟨#[]⟩,.slice none 0 0,.map (some (w.heap.size+1))] 111)).alloc (.map #[] 0)).grownBy w0 none->w0.heap.size=w.heap.size+3 ->
   ClO f w es (has (.map D:DataW Value)) (Maps.size (.map D:DataW Value)) w0):=by
  intro w0 hg hs;obtain⟨W1,hW⟩:∃W1,W1=w.alloc (.cells #[.int .i64 6,.bool false,.string ⟨#[]⟩,.int .i64 0,.string ⟨#[]⟩,.slice none 0 0,.map (some (w.heap.size+1))] 111):=⟨_,rfl⟩
  rw[<- hW] at hg;have e1:W1.heap.size=w.heap.size+1:=by rw[hW];simp
  have hvb:VB W1 w.heap.size 6 n0 [] (.slice none 0 0) (.map (some (w.heap.size+1))):=by rw[hW];exact heap_alloc_new w _
  have hbel:Below w.heap.size w W1:=by rw[hW];exact (Below.refl _ _).alloc (Nat.le_refl _) _
  have hmade:=World.ownsMap_made W1 Tryz.prog 9 RV;rw[e1] at hmade;have hk:∀j,j<w.heap.size+2->w0.heap[j]? = (W1.alloc (.map #[] 0)).heap[j]?:=fun j hj=>hg.block j (by simp;omega) (by simp);have hb2:=hbel.alloc (by omega) (.map #[] 0);refine⟨⟨hg.os.trans hb2.os,hg.tape.trans hb2.tape,hg.output.trans hb2.output,by omega,fun j hj=>(hk j (by omega)).trans (hb2.block j hj)⟩,
   (hvb.kept (Below.heap_alloc W1 _ _ hvb.lt)).kept (hk _ (by omega)),by omega,0,[],[],by omega,AJ hmade (hk _ (by omega)),TrM.nil _ _ _,?_,?_⟩
  ·intro k;rw[hp.has k];cases Maps.has (.map es:DataW Unit) k<;>rfl
  ·intro k hk;cases hk
 have HP:=Ab hp;have HS:=Ab hS;have HSM:=Ab hsm;clear hp hS h ho hsm old hl
 go_enter func201,ntmps201
 go_wp2_with (first
  | (at_range;refine wpList_range_own _ rfl _ 109 rfl 9 80 hml underlying109 RV m n _ rfl (Aa HO2 _ _) ?_;intro w0 hrg0 hg0 hs0)
  | go_in)
 have e0:(((w.alloc (.cells #[.int .i64 6,.bool false,.string ⟨#[]⟩,.int .i64 0,.string ⟨#[]⟩,.slice none 0 0,.map (some (w.heap.size+1))] 111)).alloc (.map #[] 0))).heap.size=w.heap.size+2:=by simp
 have hcl:=Ab (Aa hstart w0 hg0 (by rw[hs0];simp));rw[e0] at hrg0;clear hg0 hs0 hstart
 go_loopw [7] (fun _ wr=>∃ (left:Lit->Bool) (cnt:Nat),wr.ranges Tryz.prog 9 RV m (w.heap.size+2) n (.map D) left cnt/\Hid (ClO f w es left cnt wr))
  (fun _ wr=>wr.rangeLeft m (w.heap.size+2))
 case atStart=>exact⟨_,_,hrg0,hcl⟩
 case round =>
  obtain⟨left,cnt,hrg,G⟩:=hrel
  go_wp2_with (first
   | (at_next;refine wpList_next_ranges _ rfl _ rfl 9 hml RV id id (fun key _ _=>⟨key,rfl⟩) (fun v _ _=>⟨v,rfl⟩) m (w.heap.size+2) n _ _ _ rfl hrg ?_ ?_)
   | go_in)
  ·intro _ hl0;have HD:=Ab ((Aa G).done (Aa C1) hl0);have HB:=Ab (Aa G).bel
   go_wp2_with (fail)
   go_ret;exact⟨rfl,Aa HB,Aa HD⟩
  ·intro x c kl yd yp w1 cnt1 hkey hlx hv hat hrg1 hlt hg1 hs1 hen;have hv2:DataW.held c=yd:=congrArg Prod.fst (Option.some.inj hv);subst hv2;have hasD:Maps.has (.map D) kl=true:=has_true_of_atKey hat
   obtain⟨c',e1,hrep⟩:=(Aa HP).at kl hasD;have e2:c'=c:=by
    have e3:=(e1 .nil).symm.trans (hat .nil);injection e3
   subst e2;have hasE:Maps.has (.map es:DataW Unit) kl=true:=by rw[<- (Aa HP).has kl];exact hasD
   have G1:=(Aa G).next hg1;have hc1:Hid (∀wx,Below w.heap.size w wx->Calls Tryz.prog 201 #[c'] wx fun e w'=>∃p,e = .returned (.pointer (some p))/\Below wx.heap.size wx w'/\Tr f wx.heap.size w' (.pointer (some p)) ((DataW.map es).atKey kl .nil)):=Ab (fun wx hb=>Aa HS kl hasE F wx c' (hrep.bel hb));have HUP:=Ab (fun (w2:World) (p:Addr) (hb:Below w1.heap.size w1 w2) (hv:Tr f w1.heap.size w2 (.pointer (some p)) ((DataW.map es).atKey kl .nil))=>G1.step (Aa C1) hlt (Aa HSM) hkey hlx hasE hb hv);have qV:=G1.box.c6;have HB:=Ab G1.bel;clear hat hrep hasE e1 hasD hv
   go_wp2_with (fail)
   go_region_with (go_at_call 201;refine (Aa hc1 _ ?_).mono ?_;exact⟨(Aa HB).os,(Aa HB).tape,(Aa HB).output,(Aa HB).size,(Aa HB).block⟩;rintro e w2 ⟨p,rfl,hb2,hv2⟩;have hb3:Below w1.heap.size w1 w2:=⟨hb2.os,hb2.tape,hb2.output,hb2.size,hb2.block⟩;obtain⟨y1,w3,hrun,hcl,hg3⟩:=Aa HUP w2 p hb3 hv2)
   all_goals (
    have hrg3:=(hrg1.kept (BK hb3) (by simp) (by simp)).kept hg3 (fun e=>by have:=Option.some.inj e;omega) (fun e=>by have:=Option.some.inj e;omega)
    go_wp2_with (fail)
    go_roundw
    case rel=>exact⟨_,cnt1,hrg3,hcl⟩
    case measure=>rw[hrg3.left_eq,hrg.left_eq];exact hlt)
end
def Sp.nar:Nat->Sp.V->Prop
 | 0,_=>True
 | f+1,d=>match d with
  | .slice es _=>es.length<=1000000000000 /\ ∀e∈es,Sp.nar f e
  | .map es=>es.length<=1000000000000 /\ ∀p∈es,Sp.nar f p.2
  | _=>True
theorem QA{f:Nat}(hS:∀a,Sp.nar f a->Gt f a)(a:Sp.V)(hn:Sp.nar (f+1) a):Gt (f+1) a:=by
 intro F w v ha;obtain⟨b,rfl,_,ha⟩:=ha;rcases ha with⟨k,hk,rfl,h⟩|⟨n,rfl,h,hbd⟩|⟨s,rfl,h⟩|⟨es,sl,ps,rfl,h,ho,_,hal⟩|⟨es,m,n,D,rfl,h,_,ho,hp⟩
 ·refine (GS h (by omega) (by omega)).mono ?_;rintro e w' ⟨rfl,hb,hv⟩;exact⟨_,rfl,hb,Tr.leafW (Nat.le_refl _) hk hv⟩
 ·refine (GS h (by omega) (by omega)).mono ?_;rintro e w' ⟨rfl,hb,hv⟩;exact⟨_,rfl,hb,Tr.leafN (Nat.le_refl _) hv hbd⟩
 ·refine (GS h (by omega) (by omega)).mono ?_;rintro e w' ⟨rfl,hb,hv⟩;exact⟨_,rfl,hb,Tr.leafS (Nat.le_refl _) hv⟩
 ·obtain⟨n1,n2⟩:=hn;refine (SG (fun d hd=>hS d (n2 d hd)) h ho hal (by have:=hal.length;omega)).mono ?_;rintro e w' ⟨rfl,hb,hv⟩;exact⟨_,rfl,hb,hv⟩
 ·obtain⟨n1,n2⟩:=hn;refine (SF (fun k hk=>by
   obtain⟨p,hpm,e⟩:=NN hk;rw[e];exact hS _ (n2 p hpm)) h ho hp (by unfold maxLen;omega)).mono ?_
  rintro e w' ⟨rfl,hb,hv⟩;exact⟨_,rfl,hb,hv⟩
theorem Gv:∀ (f:Nat) (a:Sp.V),Sp.nar f a->Gt f a
 | 0,_,_=>fun _ _ _ h=>h.elim
 | f+1,a,hn=>QA (Gv f) a hn
end

section
open Go.RowKit Go.Maps
namespace Sp
def own(n:A):List Nat:=match n with
 | .agg [.lit (.int _ b),.lit (.int _ g),x]=>(match x with
  | .slice _ _=>b.toNat::(if g=0 then [] else [g.toNat])
  | .map _=>[b.toNat,g.toNat]
  | _=>[b.toNat])
 | _=>[]
theorem Fd(b g:Nat)(al:List A):own (nd b g (.slice al []))=b::(if g=0 then [] else [g]):=by
 show (b:Int).toNat::(if (g:Int)=0 then [] else [(g:Int).toNat])=_;by_cases h:g=0
 ·subst h;rfl
 ·rw[if_neg h,if_neg (by omega)];rfl
theorem Ga(b g:Nat)(es:List (Lit×A)):own (nd b g (.map es))=[b,g]:=rfl
end Sp
theorem Im{f:Nat}{w:World}:∀ {ps:List Value} {al:List Sp.A},Al (Ae f w) ps al -> ∃l:List (Option Addr),ps=l.map Value.pointer/\l.length=al.length
 | [],[],_=>⟨[],rfl,rfl⟩
 | _::_,_::_,⟨h,t⟩=>by
  obtain⟨b,rfl,_⟩:=h.ptr;obtain⟨l,rfl,e⟩:=Im t;exact⟨some ⟨b,0,none⟩::l,rfl,by simp[e]⟩
theorem Al.take{α β:Type}{P:α->β->Prop}:∀ {l:List α} {m:List β},Al P l m -> ∀i,Al P (l.take i) (m.take i)
 | [],[],_,_=>by simp;trivial
 | _::_,_::_,_,0=>trivial
 | _::_,_::_,⟨a,b⟩,i+1=>⟨a,Al.take b i⟩
theorem Al.drop{α β:Type}{P:α->β->Prop}:∀ {l:List α} {m:List β},Al P l m -> ∀i,Al P (l.drop i) (m.drop i)
 | [],[],_,_=>by simp;trivial
 | _::_,_::_,h,0=>h
 | _::_,_::_,⟨_,b⟩,i+1=>Al.drop b i
theorem Al.lins{α β:Type}{P:α->β->Prop}{l:List α}{m:List β}(h:Al P l m)(i:Nat){a:α}{b:β}(hab:P a b):Al P (Sp.lins i a l) (Sp.lins i b m):=Al.append (h.take i) ⟨hab,h.drop i⟩
theorem Al.ldel{α β:Type}{P:α->β->Prop}{l:List α}{m:List β}(h:Al P l m)(i:Nat):Al P (Sp.ldel i l) (Sp.ldel i m):=Al.append (h.take i) (h.drop (i+1))
theorem Al.set{α β:Type}{P:α->β->Prop}:∀ {l:List α} {m:List β},Al P l m -> ∀ (i:Nat) {a:α} {b:β},P a b->Al P (l.set i a) (m.set i b)
 | [],[],_,_,_,_,_=>trivial
 | _::_,_::_,⟨_,t⟩,0,_,_,h=>⟨h,t⟩
 | _::_,_::_,⟨h0,t⟩,i+1,_,_,h=>⟨h0,Al.set t i h⟩
theorem TV{w:World}{m n:Nat}{D:List (Lit×DataW Value)}(h:w.ownsMap Tryz.prog 9 RV m n (.map D)):w.ownsMap Tryz.prog 9 RV m D.length (.map D):=by
 obtain⟨es,clock,hb,F,hs,e⟩:=h;refine⟨es,clock,hb,F,?_,e⟩;injection e with e;rw[e,length_read];exact Nat.le_refl _
structure DJ(f:Nat)(w w':World)(u:Value)(n n':Sp.A)(Z:Nat->Prop):Prop where
 tr:Ae (f+1) w' u n'
 nd:(Sp.fp (f+1) n').Nodup
 sub:∀k∈Sp.fp (f+1) n',k∈Sp.fp (f+1) n\/Z k\/w.heap.size<=k
 kept:As (fun k=>k∈Sp.own n) w w'
theorem Hm{f:Nat}{w:World}{u:Value}{n:Sp.A}(h:Ae (f+1) w u n):∀k∈Sp.own n,k∈Sp.fp (f+1) n:=by
 obtain⟨b,g,x,rfl,hv,h⟩:=h;rcases h with⟨j,_,_,rfl,h⟩|⟨n,_,rfl,h,hbd⟩|⟨s,_,rfl,h⟩|⟨al,sl,ps,rfl,_⟩|⟨es,n,D,rfl,_⟩
 ·intro k hk;exact hk
 ·intro k hk;exact hk
 ·intro k hk;exact hk
 ·intro k hk;rw[Sp.Fd] at hk;rw[Sp.AQ];rcases List.mem_cons.1 hk with rfl|hk
  ·simp
  ·exact List.mem_cons_of_mem _ (List.mem_append_left _ hk)
 ·intro k hk;rw[Sp.Ga] at hk;rw[Sp.Bi];rcases List.mem_cons.1 hk with rfl|hk
  ·simp
  ·have:k=g:=by simpa using hk
   subst this;simp
theorem Kx{f:Nat}{n c:Sp.A}{w:World}{u:Value}(h:Ae (f+1) w u n)(hn:(Sp.fp (f+1) n).Nodup)(hc:c∈Sp.AL n):∀k∈Sp.own n,k ∉ Sp.fp f c:=by
 obtain⟨b,g,x,rfl,hv,h⟩:=h;rcases h with⟨j,_,_,rfl,h⟩|⟨n,_,rfl,h,hbd⟩|⟨s,_,rfl,h⟩|⟨al,sl,ps,rfl,_⟩|⟨es,n,D,rfl,_⟩
 ·rw[Sp.FR] at hc;cases hc
 ·rw[Sp.GJ] at hc;cases hc
 ·rw[Sp.GI] at hc;cases hc
 ·rw[Sp.B2] at hc;rw[Sp.AQ] at hn;obtain⟨n1,n2⟩:=List.nodup_cons.1 hn;obtain⟨_,_,n3⟩:=List.nodup_append.1 n2;intro k hk hkc;have hm:k∈al.flatMap (Sp.fp f):=List.mem_flatMap.2 ⟨c,hc,hkc⟩;rw[Sp.Fd] at hk;rcases List.mem_cons.1 hk with rfl|hk
  ·exact n1 (List.mem_append_right _ hm)
  ·exact n3 k hk k hm rfl
 ·rw[Sp.BI] at hc;obtain⟨p,hp,rfl⟩:=List.mem_map.1 hc;rw[Sp.Bi] at hn;obtain⟨n1,n2⟩:=List.nodup_cons.1 hn;obtain⟨n3,_⟩:=List.nodup_cons.1 n2;intro k hk hkc;have hm:k∈es.flatMap (fun p=>Sp.fp f p.2):=List.mem_flatMap.2 ⟨p,hp,hkc⟩;rw[Sp.Ga] at hk;rcases List.mem_cons.1 hk with rfl|hk
  ·exact n1 (List.mem_cons_of_mem _ hm)
  ·have:k=g:=by simpa using hk
   subst this;exact n3 hm
theorem SU{f b g g':Nat}{w w':World}{u:Value}{al al':List Sp.A}{l':List (Option Addr)}{sl':Value}{Z:Nat->Prop}(h:Ae (f+1) w u (Sp.nd b g (.slice al [])))(hvb:VB w' b 5 n0 [] sl' (.map none))(ho:w'.ownsRow 0 80 1 sl' l'.length (l'.map Value.pointer))(hs:sl'.ownBlock=if g'=0 then none else some g')
  (hal:Al (Ae f w') (l'.map Value.pointer) al') (hg:g'=g\/w.heap.size<=g') (hnd:(b::((if g'=0 then [] else [g'])++al'.flatMap (Sp.fp f))).Nodup) (hZ:∀k∈al'.flatMap (Sp.fp f),k∈al.flatMap (Sp.fp f)\/Z k) (hk:As (fun k=>k∈Sp.own (Sp.nd b g (.slice al []))) w w') :
  DJ f w w' u (Sp.nd b g (.slice al [])) (Sp.nd b g' (.slice al' [])) Z:=by
 obtain⟨b2,g2,x2,e,rfl,_⟩:=h;unfold Sp.nd at e;injection e with e;injection e with e _;injection e with e;injection e with _ e;obtain rfl:b=b2:=by omega
 refine⟨⟨b,g',_,rfl,rfl,Or.inr (Or.inr (Or.inr (Or.inl ⟨al',sl',l'.map Value.pointer,rfl,hvb,by rw[List.length_map];exact ho,hs,hal⟩)))⟩,by rw[Sp.AQ];exact hnd,?_,hk⟩;intro k hkm;rw[Sp.AQ] at hkm |-;rcases List.mem_cons.1 hkm with rfl|hkm
 ·exact Or.inl (by simp)
 ·rcases List.mem_append.1 hkm with hkm|hkm
  ·split at hkm
   ·cases hkm
   ·rename_i h0;obtain rfl:k=g':=by simpa using hkm
    rcases hg with rfl|hg
    ·exact Or.inl (by simp[h0])
    ·exact Or.inr (Or.inr hg)
  ·rcases hZ k hkm with h|h
   ·exact Or.inl (List.mem_cons_of_mem _ (List.mem_append_right _ h))
   ·exact Or.inr (Or.inl h)
end

section
open Go.RowKit Go.Maps
theorem EV{α β:Type}(q:α->List β){l m:List α}(h:l.Perm m):(l.flatMap q).Perm (m.flatMap q):=h.flatMap_right q
theorem JY{b:Nat}{G Y:List Nat}(h1:Y.Nodup)(h2:b ∉ Y)(h3:b ∉ G)(h4:G.Nodup)(h5:∀k∈G,k ∉ Y):(b::(G++Y)).Nodup :=
 List.nodup_cons.2 ⟨fun hm=>(List.mem_append.1 hm).elim h3 h2,List.nodup_append.2 ⟨h4,h1,fun x hx _ hy e=>h5 x hx (e▸hy)⟩⟩
theorem Lj(g:Nat):(if g=0 then ([]:List Nat) else [g]).Nodup:=by split<;>simp
theorem E3{f b g:Nat}{al:List Sp.A}(hn:(Sp.fp (f+1) (Sp.nd b g (.slice al []))).Nodup):(al.flatMap (Sp.fp f)).Nodup/\b ∉ al.flatMap (Sp.fp f)/\b≠(if g=0 then b+1 else g) /\ ∀k∈(if g=0 then ([]:List Nat) else [g]),k ∉ al.flatMap (Sp.fp f):=by
 rw[Sp.AQ] at hn;obtain⟨n1,n2⟩:=List.nodup_cons.1 hn;obtain⟨n3,n4,n5⟩:=List.nodup_append.1 n2;refine⟨n4,fun h=>n1 (List.mem_append_right _ h),?_,fun k hk h=>n5 k hk k h rfl⟩;split
 ·omega
 ·rename_i h0;rintro rfl;exact n1 (List.mem_append_left _ (by simp[h0]))
theorem Al.bel{f:Nat}{w w':World}{ps:List Value}{al:List Sp.A}(h:Al (Ae f w) ps al)(hk:∀k∈al.flatMap (Sp.fp f),w'.heap[k]? = w.heap[k]?):Al (Ae f w') ps al :=
 Al.mem (fun _ c hc hu=>hu.move fun k hkc=>hk k (List.mem_flatMap.2 ⟨c,hc,hkc⟩)) h
section
variable{f:Nat}{w:World}{u:Value}{n c:Sp.A}{pth:Value}{b i:Nat}{key:Sp.By}{x:Option Addr}
theorem YZ{g:Nat}{al:List Sp.A}(h:Ae (f+1) w u (Sp.nd b g (.slice al [])))(hn:(Sp.fp (f+1) (Sp.nd b g (.slice al []))).Nodup)(hi:i<al.length)(hc:Ae f w (.pointer x) c)(hcn:(Sp.fp f c).Nodup)(hcd:∀k∈Sp.fp f c,k ∉ Sp.fp (f+1) (Sp.nd b g (.slice al []))) :
  Calls Tryz.prog 250 #[plV pth b key i,.pointer x] w fun e w'=>e = .returned (.tuple #[])/\DJ f w w' u (Sp.nd b g (.slice al [])) (Sp.nd b g (.slice (al.set i c) [])) (fun k=>k∈Sp.fp f c):=by
 have h0:=h;obtain⟨p1,p2,p3,p4⟩:=E3 hn;obtain⟨b2,g2,x2,e,hu,h⟩:=h;unfold Sp.nd at e;injection e with e;injection e with e1 e;injection e with e2 e;injection e with e3 _;injection e1 with e1;injection e1 with _ e1;injection e2 with e2;injection e2 with _ e2;obtain rfl:b=b2:=by omega
 obtain rfl:g=g2:=by omega
 rcases h with⟨j,_,_,rfl,_⟩|⟨n,_,rfl,_⟩|⟨s,_,rfl,_⟩|⟨al2,sl,ps,rfl,hvb,ho,hs,ha⟩|⟨es,n,D,rfl,_⟩
 ·cases e3
 ·cases e3
 ·cases e3
 ·injection e3 with e3 _;subst e3;have hl:=ha.length;refine (VL (pth:=pth) (key:=key) (pu:=x) hvb ho (show i<ps.length by omega)).mono ?_;rintro e w' ⟨rfl,g3,hg3,ho',hk⟩;obtain⟨rfl,h00⟩:=CZ hs hg3;have hbg:b≠g3:=by rw[if_neg h00] at p3;exact p3
  have hold:∀k,k<w.heap.size->k≠g3->w'.heap[k]? = w.heap[k]?:=fun k hk1 hk2=>hk.block k hk1 (fun e=>hk2 (Option.some.inj e));have hgc:g3 ∉ Sp.fp f c:=fun hm=>hcd g3 hm (by rw[Sp.AQ];simp[h00]);have ha':Al (Ae f w') ps al:=ha.bel fun k hkm=>hold k (ha.lts k hkm) (fun e=>p4 g3 (by simp[h00]) (e▸hkm));have hc':Ae f w' (.pointer x) c:=hc.move fun k hkm=>hold k (hc.lt k hkm) (fun e=>hgc (e▸hkm));obtain⟨l,hpl,hll⟩:=Im (ha'.set i hc');obtain⟨old,hold2⟩:∃old,al[i]? = some old:=⟨_,List.getElem?_eq_getElem hi⟩
  have q1:=EV (Sp.fp f) (Sp.Lf c hold2);have q2:=EV (Sp.fp f) (Sp.FM hold2);rw[List.flatMap_cons] at q1 q2;have r1:=List.nodup_append.1 (q2.nodup_iff.1 p1);have hmem:∀k∈(al.set i c).flatMap (Sp.fp f),k∈al.flatMap (Sp.fp f)\/k∈Sp.fp f c:=fun k hkm=>by
   rcases List.mem_append.1 (q1.mem_iff.1 hkm) with h|h
   ·exact Or.inr h
   ·exact Or.inl (q2.mem_iff.2 (List.mem_append_right _ h))
  have hnin:∀k∈al.flatMap (Sp.fp f),k∈Sp.fp (f+1) (Sp.nd b g3 (.slice al [])):=fun k hkm=>by rw[Sp.AQ];exact List.mem_cons_of_mem _ (List.mem_append_right _ hkm)
  refine⟨rfl,SU (l':=l) (sl':=sl) h0 (hvb.kept (hold b hvb.lt hbg)) ?_ hs (by rw[<- hpl];exact ha'.set i hc') (Or.inl rfl) (JY ?_ ?_ ?_ (Lj _) ?_) hmem ?_⟩
  ·rw[<- hpl,hll];have:(al.set i c).length=ps.length:=by simp[hl]
   rw[this];exact ho'
  ·exact q1.nodup_iff.2 (List.nodup_append.2 ⟨hcn,r1.2.1,fun y hy z hz e=>hcd y hy (hnin _ (q2.mem_iff.2 (List.mem_append_right _ (e▸hz))))⟩)
  ·intro hm;rcases hmem b hm with h|h
   ·exact p2 h
   ·exact hcd b h (by rw[Sp.AQ];simp)
  ·rw[if_neg h00];simpa using hbg
  ·intro k hk2 hm;rcases hmem k hm with h|h
   ·exact p4 k hk2 h
   ·rw[if_neg h00] at hk2;have:k=g3:=by simpa using hk2
    subst this;exact hgc h
  ·exact⟨hk.os,hk.tape,hk.output,hk.size,fun k hk1 hk2=>hold k hk1 (fun e=>hk2 (by rw[Sp.Fd,if_neg h00,e];simp))⟩
 ·cases e3
theorem LQ{g:Nat}{al al':List Sp.A}{sl:Value}{l l':List (Option Addr)}{w':World}{Z:Nat->Prop}{e:Ending}(h0:Ae (f+1) w u (Sp.nd b g (.slice al [])))(hn:(Sp.fp (f+1) (Sp.nd b g (.slice al []))).Nodup)(hs:sl.ownBlock=if g=0 then none else some g)(ha:Al (Ae f w) (l.map Value.pointer) al)
  (hend:Eo b sl l' w e w') (hal:∀W:World,(∀k,k<w.heap.size->k≠b->sl.ownBlock≠some k->W.heap[k]? = w.heap[k]?)->Al (Ae f W) (l'.map Value.pointer) al') (hY:(al'.flatMap (Sp.fp f)).Nodup) (hmem:∀k∈al'.flatMap (Sp.fp f),k∈al.flatMap (Sp.fp f)\/Z k) (hZ:∀k,Z k->k<w.heap.size/\k ∉ Sp.fp (f+1) (Sp.nd b g (.slice al []))) (hpos:0<w.heap.size) :
  e = .returned (.tuple #[]) /\ ∃g',(g'=g\/w.heap.size<=g')/\DJ f w w' u (Sp.nd b g (.slice al [])) (Sp.nd b g' (.slice al' [])) Z:=by
 obtain⟨p1,p2,p3,p4⟩:=E3 hn;obtain⟨rfl,g2,cap,hvb,ho,hor,hk⟩:=hend;have hbm:b∈Sp.fp (f+1) (Sp.nd b g (.slice al [])):=by rw[Sp.AQ];simp
 have hg2:(sl.ownBlock=some g2/\g2=g/\g≠0)\/w.heap.size<=g2:=by
  rcases hor with h|h
  ·obtain⟨e1,e2⟩:=CZ hs h;exact Or.inl ⟨h,e1,e2⟩
  ·exact Or.inr h
 have hg20:g2≠0:=by
  rcases hg2 with⟨_,rfl,h⟩|h
  ·exact h
  ·omega
 have hlt:∀k∈al.flatMap (Sp.fp f),k<w.heap.size:=ha.lts;have hbl:b<w.heap.size:=h0.lt b hbm;refine⟨rfl,g2,hg2.imp (fun h=>h.2.1) id,SU (l':=l') h0 hvb ho (by rw[if_neg hg20];rfl) (hal w' fun k hk1 hk2 hk3=>hk.block k hk1 (fun h=>h.elim hk2 hk3)) (hg2.imp (fun h=>h.2.1) id) (JY hY ?_ ?_ (Lj _) ?_) hmem ?_⟩
 ·intro hm;rcases hmem b hm with h|h
  ·exact p2 h
  ·exact (hZ b h).2 hbm
 ·rw[if_neg hg20];intro hm;obtain rfl:b=g2:=by simpa using hm
  rcases hg2 with⟨_,rfl,h⟩|h
  ·rw[if_neg h] at p3;exact p3 rfl
  ·omega
 ·intro k hk2 hm;rw[if_neg hg20] at hk2;obtain rfl:k=g2:=by simpa using hk2
  rcases hg2 with⟨_,rfl,h0⟩|h
  ·rcases hmem k hm with h|h
   ·exact p4 k (by simp[h0]) h
   ·exact (hZ k h).2 (by rw[Sp.AQ];simp[h0])
  ·rcases hmem k hm with h'|h'
   ·have:=hlt k h';omega
   ·have:=(hZ k h').1;omega
 ·refine hk.mono fun k hk2=>?_;rw[Sp.Fd];rcases hk2 with rfl|h
  ·simp
  ·obtain⟨rfl,h9⟩:=CZ hs h;simp[h9]
theorem Y4{g:Nat}{al:List Sp.A}(h:Ae (f+1) w u (Sp.nd b g (.slice al [])))(hn:(Sp.fp (f+1) (Sp.nd b g (.slice al []))).Nodup)(hi:i<=al.length)(hb:al.length<=1000000000000)(hc:Ae f w (.pointer x) c)(hcn:(Sp.fp f c).Nodup)(hcd:∀k∈Sp.fp f c,k ∉ Sp.fp (f+1) (Sp.nd b g (.slice al []))) :
  Calls Tryz.prog 249 #[plV pth b key i,.pointer x] w fun e w'=>e = .returned (.tuple #[]) /\ ∃g',(g'=g\/w.heap.size<=g')/\DJ f w w' u (Sp.nd b g (.slice al [])) (Sp.nd b g' (.slice (Sp.lins i c al) [])) (fun k=>k∈Sp.fp f c):=by
 have h0:=h;obtain⟨b2,g2,x2,e,hu,h⟩:=h;unfold Sp.nd at e;injection e with e;injection e with e1 e;injection e with e2 e;injection e with e3 _;injection e1 with e1;injection e1 with _ e1;injection e2 with e2;injection e2 with _ e2;obtain rfl:b=b2:=by omega
 obtain rfl:g=g2:=by omega
 rcases h with⟨j,_,_,rfl,_⟩|⟨n,_,rfl,_⟩|⟨s,_,rfl,_⟩|⟨al2,sl,ps,rfl,hvb,ho,hs,ha⟩|⟨es,n,D,rfl,_⟩
 ·cases e3
 ·cases e3
 ·cases e3
 ·injection e3 with e3 _;subst e3;obtain⟨l,rfl,hl⟩:=Im ha;rw[List.length_map] at ho;obtain⟨p1,p2,p3,p4⟩:=E3 hn;have hbs:sl.ownBlock≠some b:=fun h=>by
   obtain⟨rfl,h9⟩:=CZ hs h;rw[if_neg h9] at p3;exact p3 rfl
  refine (P5 (pth:=pth) (key:=key) (x:=x) hvb ho (show i<=l.length by omega) (by omega) hbs).mono ?_;intro e w' hend;have q1:=EV (Sp.fp f) (Sp.ES i c al);rw[List.flatMap_cons] at q1;have hnin:∀k∈al.flatMap (Sp.fp f),k∈Sp.fp (f+1) (Sp.nd b g (.slice al [])):=fun k hkm=>by rw[Sp.AQ];exact List.mem_cons_of_mem _ (List.mem_append_right _ hkm)
  have hown:∀k,k=b\/sl.ownBlock=some k->k∈Sp.fp (f+1) (Sp.nd b g (.slice al [])):=fun k hk=>by
   rw[Sp.AQ];rcases hk with rfl|h
   ·simp
   ·obtain⟨rfl,h9⟩:=CZ hs h;simp[h9]
  have hnot:∀k∈al.flatMap (Sp.fp f),k≠b/\sl.ownBlock≠some k:=fun k hkm=>⟨fun e=>p2 (e▸hkm),fun h=>by
   obtain⟨rfl,h9⟩:=CZ hs h;exact p4 k (by simp[h9]) hkm⟩
  refine LQ h0 hn hs ha hend (fun W hW=>?_) ?_ ?_ (fun k hk=>⟨hc.lt k hk,hcd k hk⟩) (by have:=hvb.lt;omega)
  ·have ha':Al (Ae f W) (l.map Value.pointer) al:=ha.bel fun k hkm=>hW k (ha.lts k hkm) (hnot k hkm).1 (hnot k hkm).2;have hc':Ae f W (.pointer x) c:=hc.move fun k hkm=>hW k (hc.lt k hkm) (fun e=>hcd k hkm (hown k (Or.inl e))) (fun e=>hcd k hkm (hown k (Or.inr e)));rw[Sp.Ji];exact ha'.lins i hc'
  ·exact q1.nodup_iff.2 (List.nodup_append.2 ⟨hcn,p1,fun y hy z hz e=>hcd y hy (hnin _ (e▸hz))⟩)
  ·intro k hkm;rcases List.mem_append.1 (q1.mem_iff.1 hkm) with h|h
   ·exact Or.inr h
   ·exact Or.inl h
 ·cases e3
theorem Y1{g:Nat}{al:List Sp.A}(h:Ae (f+1) w u (Sp.nd b g (.slice al [])))(hn:(Sp.fp (f+1) (Sp.nd b g (.slice al []))).Nodup)(hi:i<al.length) :
  Calls Tryz.prog 246 #[plV pth b key i] w fun e w'=>e = .returned (.tuple #[]) /\ ∃g',(g'=g\/w.heap.size<=g')/\DJ f w w' u (Sp.nd b g (.slice al [])) (Sp.nd b g' (.slice (Sp.ldel i al) [])) (fun _=>False):=by
 have h0:=h;obtain⟨b2,g2,x2,e,hu,h⟩:=h;unfold Sp.nd at e;injection e with e;injection e with e1 e;injection e with e2 e;injection e with e3 _;injection e1 with e1;injection e1 with _ e1;injection e2 with e2;injection e2 with _ e2;obtain rfl:b=b2:=by omega
 obtain rfl:g=g2:=by omega
 rcases h with⟨j,_,_,rfl,_⟩|⟨n,_,rfl,_⟩|⟨s,_,rfl,_⟩|⟨al2,sl,ps,rfl,hvb,ho,hs,ha⟩|⟨es,n,D,rfl,_⟩
 ·cases e3
 ·cases e3
 ·cases e3
 ·injection e3 with e3 _;subst e3;obtain⟨l,rfl,hl⟩:=Im ha;rw[List.length_map] at ho;obtain⟨p1,p2,p3,p4⟩:=E3 hn;have hbs:sl.ownBlock≠some b:=fun h=>by
   obtain⟨rfl,h9⟩:=CZ hs h;rw[if_neg h9] at p3;exact p3 rfl
  refine (PJ (pth:=pth) (key:=key) hvb ho (show i<l.length by omega) hbs).mono ?_;intro e w' hend;obtain⟨old,hold2⟩:∃old,al[i]? = some old:=⟨_,List.getElem?_eq_getElem hi⟩
  have q2:=EV (Sp.fp f) (Sp.FM hold2);rw[List.flatMap_cons] at q2;have r1:=List.nodup_append.1 (q2.nodup_iff.1 p1);have hnot:∀k∈al.flatMap (Sp.fp f),k≠b/\sl.ownBlock≠some k:=fun k hkm=>⟨fun e=>p2 (e▸hkm),fun h=>by
   obtain⟨rfl,h9⟩:=CZ hs h;exact p4 k (by simp[h9]) hkm⟩
  refine LQ h0 hn hs ha hend (fun W hW=>?_) r1.2.1 (fun k hkm=>Or.inl (q2.mem_iff.2 (List.mem_append_right _ hkm))) (fun _ h=>h.elim) (by have:=hvb.lt;omega);have ha':Al (Ae f W) (l.map Value.pointer) al:=ha.bel fun k hkm=>hW k (ha.lts k hkm) (hnot k hkm).1 (hnot k hkm).2;rw[Sp.Jj];exact ha'.ldel i
 ·cases e3
end
end

section
open Go.RowKit Go.Maps
theorem Hn{f b g:Nat}{es:List (Lit×Sp.A)}(hn:(Sp.fp (f+1) (Sp.nd b g (.map es))).Nodup):(es.flatMap fun p=>Sp.fp f p.2).Nodup/\(b ∉ es.flatMap fun p=>Sp.fp f p.2)/\(g ∉ es.flatMap fun p=>Sp.fp f p.2)/\b≠g:=by
 rw[Sp.Bi] at hn;obtain⟨n1,n2⟩:=List.nodup_cons.1 hn;obtain⟨n3,n4⟩:=List.nodup_cons.1 n2;exact⟨n4,fun h=>n1 (List.mem_cons_of_mem _ h),n3,fun e=>n1 (by simp[e])⟩
theorem DV{f b g:Nat}{w:World}{u:Value}{es:List (Lit×Sp.A)}(h:Ae (f+1) w u (Sp.nd b g (.map es))):u = .pointer (some ⟨b,0,none⟩) /\ ∃D,VB w b 6 n0 [] (.slice none 0 0) (.map (some g))/\w.ownsMap Tryz.prog 9 RV g es.length (.map D)/\Pt (Ae f w) D es:=by
 obtain⟨b2,g2,x2,e,hu,h⟩:=h;unfold Sp.nd at e;injection e with e;injection e with e1 e;injection e with e2 e;injection e with e3 _;injection e1 with e1;injection e1 with _ e1;injection e2 with e2;injection e2 with _ e2;obtain rfl:b=b2:=by omega
 obtain rfl:g=g2:=by omega
 rcases h with⟨j,_,_,rfl,_⟩|⟨n,_,rfl,_⟩|⟨s,_,rfl,_⟩|⟨al2,sl,ps,rfl,hvb,ho,hs,ha⟩|⟨es,n,D,rfl,hvb,ho,hp⟩
 ·cases e3
 ·cases e3
 ·cases e3
 ·cases e3
 ·injection e3 with e3;subst e3;exact⟨hu,D,hvb,hp.len▸TV ho,hp⟩
theorem Pt.bel{f:Nat}{w w':World}{D:List (Lit×DataW Value)}{es:List (Lit×Sp.A)}(h:Pt (Ae f w) D es)(hk:∀k∈es.flatMap (fun p=>Sp.fp f p.2),w'.heap[k]? = w.heap[k]?):Pt (Ae f w') D es :=
 Pt.mem (fun _ p hp hu=>hu.move fun k hkc=>hk k (List.mem_flatMap.2 ⟨p,hp,hkc⟩)) h
theorem Rs{f b g n:Nat}{w w':World}{u:Value}{es es':List (Lit×Sp.A)}{D':List (Lit×DataW Value)}{Z:Nat->Prop}(h:Ae (f+1) w u (Sp.nd b g (.map es)))(hvb:VB w' b 6 n0 [] (.slice none 0 0) (.map (some g)))(ho:w'.ownsMap Tryz.prog 9 RV g n (.map D'))(hp:Pt (Ae f w') D' es')
  (hnd:(b::g::es'.flatMap (fun p=>Sp.fp f p.2)).Nodup) (hZ:∀k∈es'.flatMap (fun p=>Sp.fp f p.2),k∈es.flatMap (fun p=>Sp.fp f p.2)\/Z k) (hk:As (fun k=>k∈Sp.own (Sp.nd b g (.map es))) w w') :
  DJ f w w' u (Sp.nd b g (.map es)) (Sp.nd b g (.map es')) Z:=by
 obtain⟨hu,_⟩:=DV h;refine⟨⟨b,g,_,rfl,hu,Or.inr (Or.inr (Or.inr (Or.inr ⟨es',n,D',rfl,hvb,ho,hp⟩)))⟩,by rw[Sp.Bi];exact hnd,?_,hk⟩;intro k hkm;rw[Sp.Bi] at hkm |-;rcases List.mem_cons.1 hkm with rfl|hkm
 ·exact Or.inl (by simp)
 ·rcases List.mem_cons.1 hkm with rfl|hkm
  ·exact Or.inl (by simp)
  ·rcases hZ k hkm with h|h
   ·exact Or.inl (List.mem_cons_of_mem _ (List.mem_cons_of_mem _ h))
   ·exact Or.inr (Or.inl h)
theorem Lr{f:Nat}(k:Lit)(es:List (Lit×Sp.A)):((Sp.mdel k es).flatMap fun p=>Sp.fp f p.2).Sublist (es.flatMap fun p=>Sp.fp f p.2):=by
 unfold Sp.mdel;induction es with
 | nil=>exact List.Sublist.refl _
 | cons y r ih =>
  rw[List.filter_cons,List.flatMap_cons];split
  ·rw[List.flatMap_cons];exact (List.Sublist.refl _).append ih
  ·exact ih.trans (List.sublist_append_right _ _)
section
variable{f:Nat}{w:World}{u:Value}{c:Sp.A}{pth:Value}{b g i:Nat}{key:Sp.By}{x:Option Addr}{es:List (Lit×Sp.A)}
theorem OL{w':World}{D:List (Lit×DataW Value)}{n:Nat}(h:Ae (f+1) w u (Sp.nd b g (.map es)))(hn:(Sp.fp (f+1) (Sp.nd b g (.map es))).Nodup)(hc:Ae f w (.pointer x) c)(hcn:(Sp.fp f c).Nodup)(hcd:∀k∈Sp.fp f c,k ∉ Sp.fp (f+1) (Sp.nd b g (.map es)))
  (hvb:VB w b 6 n0 [] (.slice none 0 0) (.map (some g))) (hp:Pt (Ae f w) D es) (ho:w'.ownsMap Tryz.prog 9 RV g n (DataW.put (.map D) (.string key) (.held (.pointer x)))) (hk:w.grownBy w' (some g)) :
  DJ f w w' u (Sp.nd b g (.map es)) (Sp.nd b g (.map (Sp.mput (.string key) c es))) (fun k=>k∈Sp.fp f c):=by
 obtain⟨p1,p2,p3,p4⟩:=Hn hn;have hold:∀k,k<w.heap.size->k≠g->w'.heap[k]? = w.heap[k]?:=fun k hk1 hk2=>hk.block k hk1 (fun e=>hk2 (Option.some.inj e));have hb:b ∉ Sp.fp f c:=fun hm=>hcd b hm (by rw[Sp.Bi];simp);have hg:g ∉ Sp.fp f c:=fun hm=>hcd g hm (by rw[Sp.Bi];simp);have hp':Pt (Ae f w') D es:=hp.bel fun k hkm=>hold k (hp.lts k hkm) (fun e=>p3 (e▸hkm));have hc':Ae f w' (.pointer x) c:=hc.move fun k hkm=>hold k (hc.lt k hkm) (fun e=>hg (e▸hkm));have q:=(Sp.Df (.string key) c es).flatMap_right (fun p=>Sp.fp f p.2);rw[List.flatMap_cons] at q;have s:=Lr (f:=f) (.string key) es;have hmem:∀k∈(Sp.mput (.string key) c es).flatMap (fun p=>Sp.fp f p.2),k∈es.flatMap (fun p=>Sp.fp f p.2)\/k∈Sp.fp f c:=fun k hkm=>by
  rcases List.mem_append.1 (q.mem_iff.1 hkm) with h|h
  ·exact Or.inr h
  ·exact Or.inl (s.subset h)
 have hnd:((Sp.mput (.string key) c es).flatMap (fun p=>Sp.fp f p.2)).Nodup:=q.nodup_iff.2 (List.nodup_append.2 ⟨hcn,p1.sublist s,fun y hy z hz e=>hcd y hy (by rw[Sp.Bi];exact List.mem_cons_of_mem _ (List.mem_cons_of_mem _ (s.subset (e▸hz))))⟩);refine Rs h (hvb.kept (hold b hvb.lt p4)) ho (Pt.insert _ _ _ hc' (Pt.filter (fun c=>!c.sameKey (.string key)) hp')) ?_ hmem ⟨hk.os,hk.tape,hk.output,hk.size,fun k hk1 hk2=>hold k hk1 (fun e=>hk2 (by rw[Sp.Ga,e];simp))⟩;refine List.nodup_cons.2 ⟨fun hm=>?_,List.nodup_cons.2 ⟨fun hm=>?_,hnd⟩⟩
 ·rcases List.mem_cons.1 hm with e|hm
  ·exact p4 e
  ·exact (hmem b hm).elim p2 hb
 ·exact (hmem g hm).elim p3 hg
theorem YY(h:Ae (f+1) w u (Sp.nd b g (.map es)))(hn:(Sp.fp (f+1) (Sp.nd b g (.map es))).Nodup)(hkl:key.length<=1048576)(hl:es.length<=1000000000000)(hc:Ae f w (.pointer x) c)(hcn:(Sp.fp f c).Nodup)(hcd:∀k∈Sp.fp f c,k ∉ Sp.fp (f+1) (Sp.nd b g (.map es))) :
  Calls Tryz.prog 250 #[plV pth b key i,.pointer x] w fun e w'=>e = .returned (.tuple #[])/\DJ f w w' u (Sp.nd b g (.map es)) (Sp.nd b g (.map (Sp.mput (.string key) c es))) (fun k=>k∈Sp.fp f c):=by
 obtain⟨_,D,hvb,ho,hp⟩:=DV h;refine (VK (pth:=pth) (i:=i) (pu:=x) hkl (by unfold maxLen;omega) hvb ho).mono ?_;rintro e w' ⟨rfl,ho',hk⟩;exact⟨rfl,OL h hn hc hcn hcd hvb hp ho' hk⟩
theorem Y3(h:Ae (f+1) w u (Sp.nd b g (.map es)))(hn:(Sp.fp (f+1) (Sp.nd b g (.map es))).Nodup)(hkl:key.length<=1048576)(hl:es.length<=1000000000000)(hc:Ae f w (.pointer x) c)(hcn:(Sp.fp f c).Nodup)(hcd:∀k∈Sp.fp f c,k ∉ Sp.fp (f+1) (Sp.nd b g (.map es))) :
  Calls Tryz.prog 249 #[plV pth b key i,.pointer x] w fun e w'=>e = .returned (.tuple #[])/\DJ f w w' u (Sp.nd b g (.map es)) (Sp.nd b g (.map (Sp.mput (.string key) c es))) (fun k=>k∈Sp.fp f c):=by
 obtain⟨_,D,hvb,ho,hp⟩:=DV h;refine (P4 (pth:=pth) (i:=i) (pu:=x) hkl (by unfold maxLen;omega) hvb ho).mono ?_;rintro e w' ⟨rfl,ho',hk⟩;exact⟨rfl,OL h hn hc hcn hcd hvb hp ho' hk⟩
theorem Y0(h:Ae (f+1) w u (Sp.nd b g (.map es)))(hn:(Sp.fp (f+1) (Sp.nd b g (.map es))).Nodup)(hkl:key.length<=1048576) :
  Calls Tryz.prog 246 #[plV pth b key i] w fun e w'=>e = .returned (.tuple #[])/\DJ f w w' u (Sp.nd b g (.map es)) (Sp.nd b g (.map (Sp.mdel (.string key) es))) (fun _=>False):=by
 obtain⟨_,D,hvb,ho,hp⟩:=DV h;obtain⟨p1,p2,p3,p4⟩:=Hn hn;refine (PI (pth:=pth) (i:=i) hkl hvb ho).mono ?_;rintro e w' ⟨rfl,ho',hk⟩;have hold:∀k,k<w.heap.size->k≠g->w'.heap[k]? = w.heap[k]?:=fun k hk1 hk2=>hk.block k hk1 (fun e=>hk2 (Option.some.inj e));have hp':Pt (Ae f w') D es:=hp.bel fun k hkm=>hold k (hp.lts k hkm) (fun e=>p3 (e▸hkm));have s:=Lr (f:=f) (.string key) es;refine⟨rfl,Rs h (hvb.kept (hold b hvb.lt p4)) ho' (Pt.filter (fun c=>!c.sameKey (.string key)) hp') ?_ (fun k hkm=>Or.inl (s.subset hkm)) ⟨hk.os,hk.tape,hk.output,hk.size,fun k hk1 hk2=>hold k hk1 (fun e=>hk2 (by rw[Sp.Ga,e];simp))⟩⟩;refine List.nodup_cons.2 ⟨fun hm=>?_,List.nodup_cons.2 ⟨fun hm=>p3 (s.subset hm),p1.sublist s⟩⟩;rcases List.mem_cons.1 hm with e|hm
 ·exact p4 e
 ·exact p2 (s.subset hm)
end
def Db(n:Sp.A)(i m:Nat)(key:Sp.By):Prop:=(∃b g al,n=Sp.nd b g (.slice al [])/\i<al.length+m/\al.length<=1000000000000) \/ ∃b g es,n=Sp.nd b g (.map es)/\key.length<=1048576/\es.length<=1000000000000
def Sp.blk(n:Sp.A):Nat:=match n with | .agg (.lit (.int _ b)::_)=>b.toNat|_=>0
section
variable{f:Nat}{w:World}{u:Value}{n c:Sp.A}{pth:Value}{i:Nat}{key:Sp.By}{x:Option Addr}
def QH(f:Nat)(w:World)(u:Value)(n n':Sp.A)(Z:Nat->Prop)(e:Ending)(w':World):Prop :=
 e = .returned (.tuple #[]) /\ ∃n2,(Sp.er (f+1) n2=Sp.er (f+1) n'/\Sp.AL n2=Sp.AL n' /\ ∀k∈Sp.own n2,k∈Sp.own n\/w.heap.size<=k)/\DJ f w w' u n n2 Z
theorem OS{b g g' q:Nat}{al al':List Sp.A}(h:g'=g\/q<=g'):∀k∈Sp.own (Sp.nd b g' (.slice al' [])),k∈Sp.own (Sp.nd b g (.slice al []))\/q<=k:=by
 intro k hk;rw[Sp.Fd] at hk |-;rcases List.mem_cons.1 hk with rfl|hk
 ·exact Or.inl (by simp)
 ·split at hk
  ·cases hk
  ·rename_i h0;obtain rfl:k=g':=by simpa using hk
   rcases h with rfl|h
   ·exact Or.inl (by simp[h0])
   ·exact Or.inr h
theorem Sd(f b g g':Nat)(al:List Sp.A):Sp.er (f+1) (Sp.nd b g (.slice al []))=Sp.er (f+1) (Sp.nd b g' (.slice al [])):=by rw[Sp.er_arr,Sp.er_arr]
theorem MB(h:Ae (f+1) w u n)(hn:(Sp.fp (f+1) n).Nodup)(hi:Db n i 0 key)(hc:Ae f w (.pointer x) c)(hcn:(Sp.fp f c).Nodup)(hcd:∀k∈Sp.fp f c,k ∉ Sp.fp (f+1) n) :
  Calls Tryz.prog 250 #[plV pth (Sp.blk n) key i,.pointer x] w (QH f w u n (Sp.Bx i key c n) (fun k=>k∈Sp.fp f c)):=by
 rcases hi with⟨b,g,al,rfl,h1,h2⟩|⟨b,g,es,rfl,h1,h2⟩
 ·exact (YZ h hn h1 hc hcn hcd).mono fun e w' ⟨he,h⟩=>⟨he,_,⟨rfl,rfl,fun k hk=>Or.inl hk⟩,h⟩
 ·exact (YY h hn h1 h2 hc hcn hcd).mono fun e w' ⟨he,h⟩=>⟨he,_,⟨rfl,rfl,fun k hk=>Or.inl hk⟩,h⟩
theorem IP(h:Ae (f+1) w u n)(hn:(Sp.fp (f+1) n).Nodup)(hi:Db n i 1 key)(hc:Ae f w (.pointer x) c)(hcn:(Sp.fp f c).Nodup)(hcd:∀k∈Sp.fp f c,k ∉ Sp.fp (f+1) n) :
  Calls Tryz.prog 249 #[plV pth (Sp.blk n) key i,.pointer x] w (QH f w u n (Sp.BS i key c n) (fun k=>k∈Sp.fp f c)):=by
 rcases hi with⟨b,g,al,rfl,h1,h2⟩|⟨b,g,es,rfl,h1,h2⟩
 ·exact (Y4 h hn (by omega) h2 hc hcn hcd).mono fun e w' ⟨he,g',hg,h⟩=>⟨he,_,⟨Sd f b g' g _,rfl,OS hg⟩,h⟩
 ·exact (Y3 h hn h1 h2 hc hcn hcd).mono fun e w' ⟨he,h⟩=>⟨he,_,⟨rfl,rfl,fun k hk=>Or.inl hk⟩,h⟩
theorem IG(h:Ae (f+1) w u n)(hn:(Sp.fp (f+1) n).Nodup)(hi:Db n i 0 key) :
  Calls Tryz.prog 246 #[plV pth (Sp.blk n) key i] w (QH f w u n (Sp.Cb i key n) (fun _=>False)):=by
 rcases hi with⟨b,g,al,rfl,h1,h2⟩|⟨b,g,es,rfl,h1,h2⟩
 ·exact (Y1 h hn h1).mono fun e w' ⟨he,g',hg,h⟩=>⟨he,_,⟨Sd f b g' g _,rfl,OS hg⟩,h⟩
 ·exact (Y0 h hn h1).mono fun e w' ⟨he,h⟩=>⟨he,_,⟨rfl,rfl,fun k hk=>Or.inl hk⟩,h⟩
end
end
end Go.Proofs.YtdpomdelmdofmaaGreatDoor
