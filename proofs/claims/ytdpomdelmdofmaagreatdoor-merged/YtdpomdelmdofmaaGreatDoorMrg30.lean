/-
  Plain facts on the functions of Sp: a canonical text has no blank outside of its strings, no byte below 32, and each string ends.
-/
import Derived.Test.YtdpomdelmdofmaaGreatDoorMrg13
import Derived.Test.YtdpomdelmdofmaaGreatDoorMrg24
import Derived.Laws.MakeOwn
namespace Go.Proofs.YtdpomdelmdofmaaGreatDoor
section
def Sp.stp (st:Bool×Bool) (c:UInt8):Option (Bool×Bool) :=
 let ins:=if c == 34 && !st.2 then !st.1 else st.1
 if c.toNat<32∨(c.toNat=32∧ins=false) then none else some (ins,c == 92 && !st.2)
def Sp.scn:Bool×Bool→Sp.By→Option (Bool×Bool)
 | st,[]=>some st
 | st,c::r=>match Sp.stp st c with
  | none=>none
  | some st'=>Sp.scn st' r
theorem scn_app (a b:Sp.By):∀ (st st':Bool×Bool),Sp.scn st a=some st'→Sp.scn st (a++b)=Sp.scn st' b:=by
 induction a with
 | nil=>intro st st' h;injection h with h;subst h;rfl
 | cons c r ih =>
  intro st st' h
  unfold Sp.scn at h
  rw[List.cons_append]
  rw[Sp.scn]
  cases hs:Sp.stp st c with
  | none=>rw[hs] at h;cases h
  | some st1=>rw[hs] at h;exact ih _ _ h
theorem ofNat_beq (c k:UInt8):(c == k)=decide (c.toNat=k.toNat):=by
 rw[Bool.eq_iff_iff,beq_iff_eq,decide_eq_true_eq]
 exact⟨fun h=>by rw[h],fun h=>UInt8.toNat_inj.1 h⟩
def Sp.pl (c:UInt8):Prop:=33≤c.toNat∧c.toNat≠34∧c.toNat≠92
theorem stp_pl {c:UInt8} (h:Sp.pl c) (o:Bool) (i:Bool):Sp.stp (i,o) c=some (i,false):=by
 obtain⟨h1,h2,h3⟩:=h
 unfold Sp.stp
 have e1:(c == 34)=false:=by rw[ofNat_beq];simpa using h2
 have e2:(c == 92)=false:=by rw[ofNat_beq];simpa using h3
 simp only[e1,e2,Bool.false_and]
 rw[if_neg (by omega)]
 rfl
theorem scn_pl (l:Sp.By) (h:∀c∈l,Sp.pl c) (i:Bool):Sp.scn (i,false) l=some (i,false):=by
 induction l with
 | nil=>rfl
 | cons c r ih =>
  rw[Sp.scn,stp_pl (h c (by simp))]
  exact ih fun c hc=>h c (by simp[hc])
theorem hexc_pl:∀n:Fin 16,33≤(Sp.hexc n.val).toNat∧(Sp.hexc n.val).toNat≠34∧(Sp.hexc n.val).toNat≠92:=by decide
theorem scn_escB (c:UInt8):Sp.scn (true,false) (Sp.escB c)=some (true,false):=by
 unfold Sp.escB
 split
 ·rename_i h
  rcases h with h|h
  ·obtain rfl:c=34:=UInt8.toNat_inj.1 h
   rfl
  ·obtain rfl:c=92:=UInt8.toNat_inj.1 h
   rfl
 ·rename_i h
  split
  ·rename_i h2
   have e:Sp.scn (true,false) ([92,117,48,48]++[Sp.hexc (c.toNat / 16),Sp.hexc (c.toNat % 16)])=Sp.scn (true,false) [Sp.hexc (c.toNat / 16),Sp.hexc (c.toNat % 16)]:=scn_app _ _ _ _ rfl
   rw[show [92,117,48,48,Sp.hexc (c.toNat / 16),Sp.hexc (c.toNat % 16)]=[92,117,48,48]++[Sp.hexc (c.toNat / 16),Sp.hexc (c.toNat % 16)] from rfl,e]
   apply scn_pl
   intro x hx
   simp only[List.mem_cons,List.not_mem_nil,or_false] at hx
   rcases hx with rfl|rfl
   ·exact hexc_pl ⟨c.toNat / 16,by omega⟩
   ·exact hexc_pl ⟨c.toNat % 16,by omega⟩
  ·rename_i h2
   rw[Sp.scn]
   have e1:(c == 34)=false:=by rw[ofNat_beq];simp;omega
   have e2:(c == 92)=false:=by rw[ofNat_beq];simp;omega
   unfold Sp.stp
   simp only[e1,e2,Bool.false_and]
   rw[if_neg (by simp;omega)]
   rfl
theorem scn_escS (s:Sp.By):Sp.scn (true,false) (Sp.escS s)=some (true,false):=by
 induction s with
 | nil=>rfl
 | cons c r ih=>rw[Sp.escS,scn_app _ _ _ _ (scn_escB c),ih]
theorem scn_quoT (s:Sp.By):Sp.scn (false,false) (Sp.quoT s)=some (false,false):=by
 unfold Sp.quoT
 rw[Sp.scn,show Sp.stp (false,false) 34=some (true,false) from rfl]
 simp only
 rw[scn_app _ _ _ _ (scn_escS s)]
 rfl
theorem digit_pl {c:UInt8} (h:Sp.isD c=true):Sp.pl c:=by
 unfold Sp.isD at h
 simp at h
 exact⟨by omega,by omega,by omega⟩
theorem itoa_pl (e:Int):∀c∈Lib.itoa e,Sp.pl c:=by
 unfold Lib.itoa
 split
 ·intro c hc
  rcases List.mem_cons.1 hc with rfl|hc
  ·exact⟨by decide,by decide,by decide⟩
  ·exact digit_pl (decD_all _ c hc)
 ·intro c hc;exact digit_pl (decD_all _ c hc)
theorem numT_pl {n:Sp.Nm} (h:Sp.Gn n):∀c∈Sp.numT n,Sp.pl c:=by
 rcases h with rfl|⟨hne,hd,_⟩
 ·intro c hc
  have:c=48:=by simpa[Sp.numT] using hc
  subst this
  exact⟨by decide,by decide,by decide⟩
 ·unfold Sp.numT
  rw[if_neg hne]
  intro c hc
  rcases List.mem_append.1 hc with hc|hc
  ·split at hc
   ·rw[List.mem_singleton] at hc;subst hc;exact⟨by decide,by decide,by decide⟩
   ·cases hc
  ·rcases List.mem_append.1 hc with hc|hc
   ·exact digit_pl (hd c hc)
   ·split at hc
    ·cases hc
    ·rcases List.mem_cons.1 hc with rfl|hc
     ·exact⟨by decide,by decide,by decide⟩
     ·exact itoa_pl _ c hc
theorem scn_join (xs:List Sp.By) (h:∀y∈xs,Sp.scn (false,false) y=some (false,false)):Sp.scn (false,false) (Sp.joinC xs)=some (false,false):=by
 have hr:∀ys:List Sp.By,(∀y∈ys,Sp.scn (false,false) y=some (false,false))→Sp.scn (false,false) (Sp.joinR ys)=some (false,false):=by
  intro ys
  induction ys with
  | nil=>intro _;rfl
  | cons y r ih =>
   intro hy
   rw[Sp.joinR,Sp.scn,stp_pl ⟨by decide,by decide,by decide⟩]
   simp only
   rw[scn_app _ _ _ _ (hy y (by simp))]
   exact ih fun y hh=>hy y (by simp[hh])
 cases xs with
 | nil=>rfl
 | cons y r =>
  rw[Sp.joinC,scn_app _ _ _ _ (h y (by simp))]
  exact hr r fun y hh=>h y (by simp[hh])
theorem scn_wrap (a b:UInt8) (ha:Sp.pl a) (hb:Sp.pl b) (l:Sp.By) (h:Sp.scn (false,false) l=some (false,false)):Sp.scn (false,false) (a::(l++[b]))=some (false,false):=by
 rw[Sp.scn,stp_pl ha]
 simp only
 rw[scn_app _ _ _ _ h]
 exact scn_pl [b] (by intro c hc;rw[List.mem_singleton] at hc;subst hc;exact hb) false
theorem scn_can {d x:Int} (f:Nat):∀ (lv:Int) (v:Sp.V),Sp.gd d x f lv v→Sp.scn (false,false) (Sp.can f v)=some (false,false):=by
 induction f with
 | zero=>intro lv v h;cases h
 | succ f ih =>
  intro lv v h
  obtain⟨_,⟨k,hk,rfl⟩|⟨s,_,rfl⟩|⟨n,hn,_,_,rfl⟩|⟨es,hes,rfl⟩|⟨es,hp,hes,rfl⟩⟩:=h
  ·rw[Sp.can_word]
   match k,hk with
   | 0,_=>rfl
   | 1,_=>rfl
   | 2,_=>rfl
  ·rw[Sp.can_str];exact scn_quoT s
  ·rw[Sp.can_num];exact scn_pl _ (numT_pl hn) false
  ·rw[Sp.can_arr]
   refine scn_wrap 91 93 ⟨by decide,by decide,by decide⟩ ⟨by decide,by decide,by decide⟩ _ (scn_join _ fun y hy=>?_)
   obtain⟨e,he,rfl⟩:=List.mem_map.1 hy
   exact ih _ _ (hes e he)
  ·rw[obj_text hp fun p hpm=>let ⟨⟨s,hs,_⟩,_⟩:=hes p hpm; ⟨s,hs⟩]
   refine scn_wrap 123 125 ⟨by decide,by decide,by decide⟩ ⟨by decide,by decide,by decide⟩ _ (scn_join _ fun y hy=>?_)
   obtain⟨e,he,rfl⟩:=List.mem_map.1 hy
   unfold Sp.entT
   rw[scn_app _ _ _ _ (scn_quoT _),Sp.scn,stp_pl ⟨by decide,by decide,by decide⟩]
   exact ih _ _ (hes e he).2
def Sp.trB (l:Sp.By):Nat:=(l.reverse.takeWhile (· == 92)).length
theorem trB_snoc (l:Sp.By) (c:UInt8):Sp.trB (l++[c])=if c == 92 then Sp.trB l+1 else 0:=by
 unfold Sp.trB
 rw[List.reverse_append,List.reverse_cons,List.reverse_nil,List.nil_append,List.cons_append,List.nil_append,List.takeWhile_cons]
 split
 ·rfl
 ·rfl
theorem scn_next (l:Sp.By) (st:Bool×Bool) (h:Sp.scn (false,false) l=some (false,false)) (i:Nat) (hi:i<l.length) (hs:Sp.scn (false,false) (l.take i)=some st) :
  ∃st',Sp.stp st l[i]=some st'∧Sp.scn (false,false) (l.take (i+1))=some st':=by
 have e1:Sp.scn (false,false) (l.take i++l.drop i)=Sp.scn st (l.drop i):=scn_app _ _ _ _ hs
 rw[List.take_append_drop,h,List.drop_eq_getElem_cons hi,Sp.scn] at e1
 cases hst:Sp.stp st l[i] with
 | none=>rw[hst] at e1;cases e1
 | some st' =>
  refine⟨st',rfl,?_⟩
  rw[List.take_succ_eq_append_getElem hi,scn_app _ _ _ _ hs,Sp.scn,hst]
  rfl
theorem scn_odd (l:Sp.By) (h:Sp.scn (false,false) l=some (false,false)):∀ (i:Nat) (st:Bool×Bool),i≤l.length→Sp.scn (false,false) (l.take i)=some st→st.2=decide (Sp.trB (l.take i) % 2=1):=by
 intro i
 induction i with
 | zero=>intro st _ hs;rw[List.take_zero] at hs ⊢; injection hs with hs;subst hs;rfl
 | succ i ih =>
  intro st hi hs
  have hlt:i<l.length:=by omega
  cases hp:Sp.scn (false,false) (l.take i) with
  | none =>
   have:Sp.scn (false,false) l=none:=by
    have hn:∀ (a b:Sp.By) (s0:Bool×Bool),Sp.scn s0 a=none→Sp.scn s0 (a++b)=none:=by
     intro a b
     induction a with
     | nil=>intro s0 h;cases h
     | cons c r ihr =>
      intro s0 h
      rw[Sp.scn] at h
      rw[List.cons_append,Sp.scn]
      cases hc:Sp.stp s0 c with
      | none=>rfl
      | some s1=>rw[hc] at h;exact ihr s1 h
    have:=hn _ (l.drop i) _ hp
    rwa [List.take_append_drop] at this
   rw[this] at h;cases h
  | some st0 =>
   obtain⟨st',h1,h2⟩:=scn_next l st0 h i hlt hp
   rw[h2] at hs
   injection hs with hs
   subst hs
   have h0:=ih st0 (by omega) hp
   rw[List.take_succ_eq_append_getElem hlt,trB_snoc]
   have h3:st'.2=(l[i] == 92 && !st0.2):=by
    unfold Sp.stp at h1
    simp only at h1
    generalize (if (l[i] == 34 && !st0.2)=true then !st0.1 else st0.1)=ins at h1
    split at h1
    ·cases h1
    ·injection h1 with h1;rw[← h1]
   rw[h3,h0]
   split
   ·rename_i hc
    rw[hc,Bool.true_and,Bool.eq_iff_iff]
    simp
    omega
   ·rename_i hc
    have:(l[i] == 92)=false:=by simpa using hc
    rw[this];rfl
end

section
open Go.RowKit
def Sp.cnt:Nat→Nat→Sp.By→Option Nat
 | 0,v,_=>some v
 | _+1,_,[]=>none
 | k+1,v,c::r=>if 128≤c.toNat∧c.toNat<192 then Sp.cnt k (64*v+c.toNat-128) r else none
def Sp.lead (c:Nat):Nat×Nat :=
 if 240≤c∧c<248 then (4,c-240) else if 224≤c∧c<240 then (3,c-224) else if 192≤c∧c<224 then (2,c-192) else if 128≤c then (0,0) else (1,c)
def Sp.least (n:Nat):Nat:=if n=2 then 128 else if n=3 then 2048 else if n=4 then 65536 else 0
def Sp.sca (l:Sp.By):Nat×Nat:=match l with
 | []=>(0,0)
 | c::r=>if (Sp.lead c.toNat).1=0∨r.length+1<(Sp.lead c.toNat).1 then (0,0) else match Sp.cnt ((Sp.lead c.toNat).1-1) (Sp.lead c.toNat).2 r with
  | none=>(0,0)
  | some v=>if v<Sp.least (Sp.lead c.toNat).1∨1114111<v∨(55296≤v∧v<57344) then (0,0) else (v,(Sp.lead c.toNat).1)
end

section
set_option maxRecDepth 100000
set_option maxHeartbeats 4000000
open Go.RowKit
def Plain (l:List Sp.St):Prop:=∀o∈l,Fine o
def Scr (w:World) (sb so:Nat) (l:List Sp.St):Prop:=∀i (h:i<l.length),w.cell? ⟨sb,so+i*3,none⟩=some (.int .i64 l[i].1)∧w.cell? ⟨sb,so+i*3+1,none⟩=some (.string ⟨l[i].2.1.toArray⟩)∧w.cell? ⟨sb,so+i*3+2,none⟩=some (.string ⟨l[i].2.2.toArray⟩)
def AnsC (cs:Array Value) (n:Nat) (a:List Sp.Ans):Prop:=cs.size=n*3 ∧ ∀i (h:i<a.length),cs[i*3]? = some (.int .i64 a[i].1)∧cs[i*3+1]? = some (.int .i64 a[i].2.1)∧cs[i*3+2]? = some (.string ⟨a[i].2.2.toArray⟩)
theorem ans_info:(Tryz.prog.info? 46).map (fun i=>(i.zero,i.size,i.bytes))=some (some (.agg #[.int .i64 0,.int .i64 0,.string ⟨#[]⟩]),3,32):=by kernel_rfl
theorem ans_make (n:Nat) (hn:n*32≤281474976710656) (w:World):(Instr.makeSlice 43 (.int .i64 n) (.int .i64 n)).run Tryz.prog w = .ok (.slice (some ⟨w.heap.size,0,none⟩) n n) (w.alloc (.cells (madeCells #[.int .i64 0,.int .i64 0,.string ⟨#[]⟩] (n*3)) 46)):=by
 obtain⟨i,hi,h⟩:=Option.map_eq_some_iff.1 ans_info
 injection h with h1 h2
 injection h2 with h2 h3
 have:=run_make (P:=Tryz.prog) w 43 46 i _ Tryz.underlying43 hi h1 .i64 .i64 n n (by omega) (by omega) (by rw[h3];omega) (by omega)
 rw[h2] at this
 simpa[Value.cells] using this
theorem row_set {w:World} {A t:Nat} {cs:Array Value} {fr:Nat×Nat} (h:w.heap[A]? = some (.cells cs t fr)) (o:Nat) (u:Value):(w.setCell ⟨A,o,none⟩ u).heap[A]? = some (.cells (cs.setIfInBounds o u) t fr):=by
 simp only[World.setCell,Array.getElem?_modify]
 rw[if_pos trivial,h];rfl
theorem AnsC.snoc {cs:Array Value} {n:Nat} {a:List Sp.Ans} (h:AnsC cs n a) (x:Sp.Ans) (hl:a.length<n) :
  AnsC (((cs.setIfInBounds (a.length*3) (.int .i64 x.1)).setIfInBounds (a.length*3+1) (.int .i64 x.2.1)).setIfInBounds (a.length*3+2) (.string ⟨x.2.2.toArray⟩)) n (a++[x]):=by
 obtain⟨h1,h2⟩:=h
 refine⟨by simpa using h1,fun i hi=>?_⟩
 simp only[Array.getElem?_setIfInBounds,Array.size_setIfInBounds]
 rw[List.length_append,List.length_singleton] at hi
 by_cases hx:i=a.length
 ·subst hx
  simp only[List.getElem_concat_length]
  refine⟨?_,?_,?_⟩
  all_goals repeat' split
  all_goals first|rfl|omega|exact absurd trivial ‹¬True›
 ·have hia:i<a.length:=by omega
  rw[List.getElem_append_left hia]
  obtain⟨e1,e2,e3⟩:=h2 i hia
  refine⟨?_,?_,?_⟩
  ·rw[if_neg (by omega),if_neg (by omega),if_neg (by omega)];exact e1
  ·rw[if_neg (by omega),if_neg (by omega),if_neg (by omega)];exact e2
  ·rw[if_neg (by omega),if_neg (by omega),if_neg (by omega)];exact e3
def RunI (d e n:Int) (l:List Sp.St) (S A m:Nat) (w0:World) (k:Nat) (w:World):Prop :=
 ∃p cs,SB w S d e n p∧DocF w (fun j=>w0.heap.size≤j∧j≠S∧j≠A) p d e (Sp.docAfter d e n none (l.take k))∧w.heap[A]? = some (.cells cs 46 (0,0))∧AnsC cs m (Sp.run d e n none (l.take k))∧Below w0.heap.size w0 w
theorem RunI.next {d e n:Int} {l:List Sp.St} {S A m k:Nat} {w0 w:World} {cs:Array Value} (hk:k<l.length) (hm:m=l.length) (hSA:S≠A) (hA0:w0.heap.size≤A) (hS0:w0.heap.size≤S) (hA:w.heap[A]? = some (.cells cs 46 (0,0))) (hans:AnsC cs m (Sp.run d e n none (l.take k))) (hb:Below w0.heap.size w0 w)
  {w1 w3:World} {o:Obj} (hw1:w1=w.alloc o) (hSw:S<w.heap.size) {F:Nat→Prop} (hF:∀j,F j→w0.heap.size≤j∧j≠S∧j≠A) (hst:StepEnd S d e n (Sp.docAfter d e n none (l.take k)) l[k] F w1 (.returned (ansA (Sp.step d e n (Sp.docAfter d e n none (l.take k)) l[k]).1)) w3) :
  RunI d e n l S A m w0 (k+1) (((w3.setCell ⟨A,k*3,none⟩ (.int .i64 (Sp.step d e n (Sp.docAfter d e n none (l.take k)) l[k]).1.1)).setCell ⟨A,k*3+1,none⟩ (.int .i64 (Sp.step d e n (Sp.docAfter d e n none (l.take k)) l[k]).1.2.1)).setCell ⟨A,k*3+2,none⟩ (.string ⟨(Sp.step d e n (Sp.docAfter d e n none (l.take k)) l[k]).1.2.2.toArray⟩)):=by
 obtain⟨_,hk3,p',hsb,hdoc⟩:=hst
 have hAl:A<w.heap.size:=(Array.getElem?_eq_some_iff.1 hA).1
 have hA1:w1.heap[A]? = some (.cells cs 46 (0,0)):=by rw[hw1];exact (Below.heap_alloc _ _ _ hAl).trans hA
 have hs1:w1.heap.size=w.heap.size+1:=by rw[hw1];simp
 have hA3:w3.heap[A]? = some (.cells cs 46 (0,0)):=(hk3.block A (by omega) (fun h=>by
  rcases h with h|h
  ·exact (hF A h).2.2 rfl
  ·omega)).trans hA1
 have hlen:(Sp.run d e n none (l.take k)).length=k:=by rw[Sp.run_len,List.length_take];omega
 have htk:l.take (k+1)=l.take k++[l[k]]:=List.take_succ_eq_append_getElem hk
 have hrow:=row_set (row_set (row_set hA3 (k*3) (.int .i64 (Sp.step d e n (Sp.docAfter d e n none (l.take k)) l[k]).1.1)) (k*3+1) (.int .i64 (Sp.step d e n (Sp.docAfter d e n none (l.take k)) l[k]).1.2.1)) (k*3+2) (.string ⟨(Sp.step d e n (Sp.docAfter d e n none (l.take k)) l[k]).1.2.2.toArray⟩)
 have hans':=hans.snoc (Sp.step d e n (Sp.docAfter d e n none (l.take k)) l[k]).1 (by omega)
 rw[hlen,← Sp.run_snoc,← htk] at hans'
 have ho:∀j,j≠A→(((w3.setCell ⟨A,k*3,none⟩ (.int .i64 (Sp.step d e n (Sp.docAfter d e n none (l.take k)) l[k]).1.1)).setCell ⟨A,k*3+1,none⟩ (.int .i64 (Sp.step d e n (Sp.docAfter d e n none (l.take k)) l[k]).1.2.1)).setCell ⟨A,k*3+2,none⟩ (.string ⟨(Sp.step d e n (Sp.docAfter d e n none (l.take k)) l[k]).1.2.2.toArray⟩)).heap[j]? = w3.heap[j]?:=fun j hj =>
  (Below.heap_setCell _ _ _ _ hj).trans ((Below.heap_setCell _ _ _ _ hj).trans (Below.heap_setCell _ _ _ _ hj))
 refine⟨p',_,(ho S hSA).trans hsb,?_,hrow,hans',?_⟩
 ·rw[htk,Sp.after_snoc]
  refine hdoc.move fun j h1 _=>?_
  have hj:w0.heap.size≤j∧j≠S∧j≠A:=by
   rcases h1 with h1|h1
   ·exact hF j h1.1
   ·exact⟨by have:=hb.size;omega,by omega,by omega⟩
  exact⟨ho j hj.2.2,hj⟩
 ·have hb1:Below w0.heap.size w0 w1:=by rw[hw1];exact hb.alloc (by omega) _
  have hb3:Below w0.heap.size w0 w3:=hb1.trans (hk3.below (fun j hj h=>by
   rcases h with h|h
   ·have:=(hF j h).1;omega
   ·omega) hb1.size)
  exact below_set (below_set (below_set hb3 A _ hA0 _) A _ hA0 _) A _ hA0 _
theorem AnsC.cell {cs:Array Value} {n:Nat} {a:List Sp.Ans} (h:AnsC cs n a) (j:Nat) (hj:j<n*3):∃u,cs[j]? = some u:=by
 have:=h.1
 exact⟨cs[j],by rw[Array.getElem?_eq_getElem (by omega)]⟩
theorem Run_some {d e n:Int} {sb so m cap:Nat} {l:List Sp.St} {w:World} (hs:Scr w sb so l) (hpl:Plain l) (hm:m=l.length) (hpos:0<m) (hcap:m≤cap) (hb:m*32≤281474976710656) (hsb:sb<w.heap.size) (hT:Laid w) :
  Calls Tryz.prog 24 #[.agg #[.int .i64 d,.int .i64 e,.int .i64 n],.slice (some ⟨sb,so,none⟩) m cap] w fun x w'=>∃A cs,x = .returned (.slice (some ⟨A,0,none⟩) m m)∧w.heap.size≤A∧w'.heap[A]? = some (.cells cs 46 (0,0))∧AnsC cs m (Sp.run d e n none l)∧Below w.heap.size w w':=by
 have hmk:=ans_make m hb
 have hnb:(m:Int)≤9223372036854775807:=by omega
 have HM:=hide hm
 have HS:=hide hs
 have HT:=hide hT
 have hng:=hT.ng
 have HI0:Hid (RunI d e n l (w.heap.size+1+1) (w.heap.size+1) m w 0 (((w.alloc (.cells #[.int .i64 d,.int .i64 e,.int .i64 n] 23)).alloc (.cells (madeCells #[.int .i64 0,.int .i64 0,.string ⟨#[]⟩] (m*3)) 46)).alloc (.cells #[.int .i64 d,.int .i64 e,.int .i64 n,.pointer none] 62))):=by
  refine⟨.pointer none,madeCells #[.int .i64 0,.int .i64 0,.string ⟨#[]⟩] (m*3),?_,rfl,?_,⟨size_madeCells _ _,fun i hi=>absurd hi (by simp[Sp.run])⟩,(((Below.refl _ w).alloc (Nat.le_refl _) _).alloc (by simp) _).alloc (by simp;omega) _⟩
  ·show (((w.heap.push _).push _).push _)[w.heap.size+1+1]? = _
   simp only[Array.getElem?_push,Array.size_push]
   rw[if_pos trivial]
  ·show (((w.heap.push _).push _).push _)[w.heap.size+1]? = _
   simp only[Array.getElem?_push,Array.size_push]
   rw[if_neg (by omega),if_pos trivial]
 have HPL:=hide hpl
 clear hm hs hT hpl
 go_enter Tryz.func24,Tryz.ntmps24
 go_wp2_with (fail)
 go_loopw [16] (fun i wr=>∃k:Nat,k≤m∧i = .int .i64 k∧RunI d e n l (w.heap.size+1+1) (w.heap.size+1) m w k wr) (fun i _=>m-(intOf i).toNat)
 case atStart=>exact⟨0,by omega,rfl,unhide HI0⟩
 case round =>
  obtain⟨k,hk,rfl,p,cs,hsbk,hdoc,hrow,hans,hbel⟩:=hrel
  by_cases hlt:k<m
  ·have hkl:k<l.length:=by have:=unhide HM;omega
   obtain⟨q0,q1,q2⟩:=unhide HS k hkl
   have cc0:wr.cell? ⟨sb,so+k*3,none⟩=some (.int .i64 l[k].1):=(hbel.cell (p:=⟨sb,so+k*3,none⟩) hsb).trans q0
   have cc1:wr.cell? ⟨sb,so+k*3+1,none⟩=some (.string ⟨l[k].2.1.toArray⟩):=(hbel.cell (p:=⟨sb,so+k*3+1,none⟩) hsb).trans q1
   have cc2:wr.cell? ⟨sb,so+k*3+2,none⟩=some (.string ⟨l[k].2.2.toArray⟩):=(hbel.cell (p:=⟨sb,so+k*3+2,none⟩) hsb).trans q2
   have HSB:=hide hsbk
   have HDOC:=hide hdoc
   have HROW:=hide hrow
   have HANS:=hide hans
   have HBEL:=hide hbel
   have hSlt:=hsbk.lt
   have hle:=hbel.size
   clear q0 q1 q2 hsbk hdoc hrow hans hbel HI0
   have hA1:w.heap.size+1<wr.heap.size:=(Array.getElem?_eq_some_iff.1 (unhide HROW)).1
   go_wp2_with (fail)
   have hba:Below wr.heap.size wr (wr.alloc (.cells #[.int .i64 l[k].1,.string ⟨l[k].2.1.toArray⟩,.string ⟨l[k].2.2.toArray⟩] 49)):=(Below.refl _ _).alloc (Nat.le_refl _) _
   have hd1:DocF (wr.alloc (.cells #[.int .i64 l[k].1,.string ⟨l[k].2.1.toArray⟩,.string ⟨l[k].2.2.toArray⟩] 49)) (fun j=>w.heap.size≤j∧j≠w.heap.size+1+1∧j≠w.heap.size+1) p d e (Sp.docAfter d e n none (l.take k)):=(unhide HDOC).move fun j h1 h2=>⟨hba.block j h2,h1⟩
   refine (step_any l[k].1 l[k].2.1 l[k].2.2 (fun j hj=>⟨Nat.le_trans hng hj.1,hj.2.1⟩) ((unhide HPL) _ (List.getElem_mem hkl)) ((unhide HSB).low hba) hd1 (((unhide HT).below ((unhide HBEL).mono hng)).below (hba.mono (by omega)))).mono ?_
   rintro x w3 hst
   have hx:=hst.1
   subst hx
   have hst2:=hst
   have hk3:=hst2.2.1
   have hA3:w3.heap[w.heap.size+1]? = some (.cells cs 46 (0,0)):=(hk3.block _ (by simp;omega) (by omega)).trans ((Below.heap_alloc _ _ _ hA1).trans (unhide HROW))
   obtain⟨u0,hu0⟩:=(unhide HANS).cell (k*3) (by omega)
   obtain⟨u1,hu1⟩:=(unhide HANS).cell (k*3+1) (by omega)
   obtain⟨u2,hu2⟩:=(unhide HANS).cell (k*3+2) (by omega)
   have g0:w3.cell? ⟨w.heap.size+1,k*3,none⟩=some u0:=by simp[World.cell?,hA3,hu0]
   have g1:w3.cell? ⟨w.heap.size+1,k*3+1,none⟩=some u1:=by simp[World.cell?,hA3,hu1]
   have g2:w3.cell? ⟨w.heap.size+1,k*3+2,none⟩=some u2:=by simp[World.cell?,hA3,hu2]
   have z:∀o,w3.frozen? ⟨w.heap.size+1,o,none⟩=false:=fun o=>by simp[World.frozen?,hA3]
   have HST:=hide hst
   clear hst hst2 hk3 hA3 hba hd1 hu0 hu1 hu2
   unfold ansA
   go_wp2_with (fail)
   exact⟨⟨k+1,by omega,by go_num,RunI.next hkl (unhide HM) (by omega) (by omega) (by omega) (unhide HROW) (unhide HANS) (unhide HBEL) rfl hSlt (fun j hj=>hj) (unhide HST)⟩,by simp[intOf];omega⟩
  ·go_wp2_with (fail)
   go_ret
   have hkm:k=m:=by omega
   subst hkm
   rw[List.take_of_length_le (by have:=unhide HM;omega)] at hans
   exact⟨_,cs,rfl,by omega,hrow,hans,hbel⟩
end

section
set_option maxHeartbeats 1000000
open Go.RowKit
theorem pick_any (c:Int) (m:Nat) (h0:-9223372036854775808≤c) (h1:c≤9223372036854775807) (hm:0<m) (hm2:m≤4611686018427387904) (w:World) :
  Calls Tryz.prog 23 #[.int .i64 c,.int .i64 m] w fun x w'=>(∃k:Nat,k<m∧x = .returned (.int .i64 k))∧w'=w:=by
 by_cases hc:c<0
 ·have e1:decide (c<0)=true:=by simpa using hc
  go_enter Tryz.func23,Tryz.ntmps23
  go_wp2_with (fail)
  go_ret
  have e2:-(c+1).tmod (m:Int)=(-(c+1)) % (m:Int):=by
   rw[← Int.neg_tmod,Int.tmod_eq_emod_of_nonneg (by omega)]
  have e3:=Int.emod_nonneg (-(c+1)) (show (m:Int)≠0 by omega)
  have e4:=Int.emod_lt_of_pos (-(c+1)) (show (0:Int)<m by omega)
  refine⟨⟨((-(c+1)) % (m:Int)).toNat,by omega,?_⟩,rfl⟩
  rw[e2,Int.toNat_of_nonneg e3]
  rfl
 ·have e1:decide (c<0)=false:=by simpa using hc
  go_enter Tryz.func23,Tryz.ntmps23
  go_wp2_with (fail)
  go_ret
  have e3:=Int.emod_nonneg c (show (m:Int)≠0 by omega)
  have e4:=Int.emod_lt_of_pos c (show (0:Int)<m by omega)
  refine⟨⟨(c % (m:Int)).toNat,by omega,?_⟩,rfl⟩
  rw[Int.toNat_of_nonneg e3]
  rfl
theorem kstep_any (k:Int) (s t:ByteArray) (w:World):Calls Tryz.prog 26 #[.int .i64 k,.string s,.string t] w fun x w'=>x = .returned (.agg #[.int .i64 k,.string s,.string t])∧Below w.heap.size w w':=by
 go_enter Tryz.func26,Tryz.ntmps26
 go_wp2_with (fail)
 refine bodyPost_ret (v:=.agg #[.int .i64 k,.string s,.string t]) (by simp[results,Tryz.results26,go_sem]) rfl ⟨rfl,?_⟩
 exact (Below.refl _ w).alloc (Nat.le_refl _) _
theorem told_yes (t:Sp.By) (w:World):Calls Tryz.prog 30 #[ansV 0 t,.string ⟨t.toArray⟩] w fun x w'=>x = .returned (.bool true)∧Below w.heap.size w w':=by
 unfold ansV
 go_enter Tryz.func30,Tryz.ntmps30
 go_wp2_with (fail)
 go_ret
 exact⟨rfl,(Below.refl _ w).alloc (Nat.le_refl _) _⟩
end

section
def Sp.t1:Sp.By:=[32,91,49,46,48,44,32,50,93]
def Sp.t2:Sp.By:=[91,49,44,50,93]
def Sp.t3:Sp.By:=[91]
end
end Go.Proofs.YtdpomdelmdofmaaGreatDoor
