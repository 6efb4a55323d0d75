/-
  Walks of the statement's own escaped and config.
-/
import Derived.Test.YtdpomdelmdofmaaGreatDoorMrg30
import Derived.Test.YtdpomdelmdofmaaGreatDoorMrg13
namespace Go.Proofs.YtdpomdelmdofmaaGreatDoor
section
set_option maxHeartbeats 4000000
open Go.RowKit
theorem trB_take {t:ByteArray} {j:Nat} (h:j<t.size):Sp.trB (t.data.toList.take (j+1))=if t[j] == 92 then Sp.trB (t.data.toList.take j)+1 else 0:=by
 have hl:j<t.data.toList.length:=by simpa using h
 rw[List.take_succ_eq_append_getElem hl,trB_snoc]
 rfl
theorem odd_end (m:Nat):Ending.returned (.bool ((m:Int) % 2 == 1))=Ending.returned (.bool (decide ((m+0) % 2=1))):=by
 congr 2
 rw[Bool.eq_iff_iff,beq_iff_eq,decide_eq_true_eq]
 omega
theorem escaped_any (t:ByteArray) (n:Nat) (hn:n≤t.size) (hs:t.size≤80000) (w:World) :
  Calls Tryz.prog 20 #[.string t,.int .i64 n] w fun x w'=>x = .returned (.bool (decide (Sp.trB (t.data.toList.take n) % 2=1)))∧Below w.heap.size w w':=by
 go_enter Tryz.func20,Tryz.ntmps20
 go_wp2_with (fail)
 go_loopw [5,6] (fun k i wr=>∃ (j m:Nat),j≤n∧m≤n∧k = .int .i64 m∧(j=0∧i = .int .i64 (-1) ∨ ∃j',j=j'+1∧i = .int .i64 (j':Nat))∧Sp.trB (t.data.toList.take n)=m+Sp.trB (t.data.toList.take j)∧m+j=n ∧ ∃q,wr=w.drewN q) (fun _ i _=>(intOf i+1).toNat)
 case atStart =>
  refine⟨n,0,by omega,by omega,rfl,?_,by omega,by omega,0,rfl⟩
  cases n with
  | zero=>exact Or.inl ⟨rfl,rfl⟩
  | succ n=>exact Or.inr ⟨n,rfl,by go_num⟩
 case round =>
  obtain⟨j,m,hj,hm,rfl,hi,ht,hmj,q,rfl⟩:=hrel
  have HT:=hide ht
  have HM:=hide hmj
  clear ht hmj
  rcases hi with⟨rfl,rfl⟩|⟨j',rfl,rfl⟩
  ·go_wp2_with (fail)
   go_ret
   refine⟨?_,⟨rfl,rfl,rfl,Nat.le_refl _,fun _ _=>rfl⟩⟩
   rw[unhide HT]
   exact odd_end m
  ·have hlt:j'<t.size:=by omega
   have HE:=hide (trB_take hlt)
   cases hc:(t[j'] == 92) with
   | true =>
    have e1:((t[j'].toNat:Int) == 92)=true:=by
     have:=eq_of_beq hc;rw[this];rfl
    have HC:=hide hc
    clear hc
    go_wp2_with (fail)
    refine⟨⟨j',m+1,by omega,by have:=unhide HM;omega,by go_num,?_,?_,by have:=unhide HM;omega,q,rfl⟩,?_⟩
    ·cases j' with
     | zero=>exact Or.inl ⟨rfl,rfl⟩
     | succ k=>exact Or.inr ⟨k,rfl,by go_num⟩
    ·rw[unhide HT,unhide HE,unhide HC,if_pos rfl];omega
    ·simp only[intOf];omega
   | false =>
    have e1:((t[j'].toNat:Int) == 92)=false:=by
     simp at hc ⊢
     intro h;exact hc (UInt8.toNat_inj.1 (by exact_mod_cast h))
    have HC:=hide hc
    clear hc
    go_wp2_with (fail)
    go_ret
    refine⟨?_,⟨rfl,rfl,rfl,Nat.le_refl _,fun _ _=>rfl⟩⟩
    rw[unhide HT,unhide HE,unhide HC,if_neg (by decide)]
    exact odd_end m
end

section
open Go.RowKit
def RunEnd (m:Nat) (a:List Sp.Ans) (w:World) (x:Ending) (w':World):Prop:=∃A cs,x = .returned (.slice (some ⟨A,0,none⟩) m m)∧w.heap.size≤A∧w'.heap[A]? = some (.cells cs 46 (0,0))∧AnsC cs m a∧Below w.heap.size w w'
end

section
set_option maxRecDepth 100000
set_option maxHeartbeats 8000000
open Go.RowKit
def Sp.dmp (d e:Int) (t:Sp.By):Nat×Sp.By:=match Sp.readTo t d e with
 | (c,some v)=>(c,Sp.can top v)
 | (c,none)=>(c,[])
theorem run_dmp {d e n:Int} (hc:Sp.cfg d e n=true) (t:Sp.By):∃k,Sp.run d e n none [(1,t,[]),(2,[],[])]=[((Sp.dmp d e t).1,0,[]),(k,0,(Sp.dmp d e t).2)]:=by
 have s1:Sp.step d e n none (1,t,[])=Sp.ldd (Sp.readTo t d e) none:=by
  unfold Sp.step;rw[hc,if_pos rfl,if_neg (by simp),if_pos rfl]
 have s2:∀v,Sp.step d e n (some v) (2,[],[])=((0,0,Sp.can top v.1),some v):=fun v=>by
  unfold Sp.step;rw[hc,if_pos rfl,if_neg (by simp),if_neg (by simp)];rfl
 have s3:Sp.step d e n none (2,[],[])=((3,0,[]),none):=by
  unfold Sp.step;rw[hc,if_pos rfl,if_neg (by simp),if_neg (by simp)]
 simp only[Sp.run,s1]
 unfold Sp.dmp
 match Sp.readTo t d e with
 | (c,some v)=>exact⟨0,by simp only[Sp.ldd,s2]⟩
 | (c,none)=>exact⟨3,by simp only[Sp.ldd,s3]⟩
theorem plain_dmp (t:Sp.By):Plain [(1,t,[]),(2,[],[])]:=by
 intro o ho
 simp only[List.mem_cons,List.not_mem_nil,or_false] at ho
 rcases ho with rfl|rfl
 ·exact Or.inl (Or.inl (show (1:Int)<3 by decide))
 ·exact Or.inl (Or.inl (show (2:Int)<3 by decide))
def dmpCells (t:ByteArray):Array Value:=#[.int .i64 1,.string t,.string ⟨#[]⟩,.int .i64 2,.string ⟨#[]⟩,.string ⟨#[]⟩]
theorem scr_dmp {w:World} {g:Nat} {t:ByteArray} (h:w.heap[g]? = some (.cells (dmpCells t) 49 (0,0))):Scr w g 0 [(1,t.data.toList,[]),(2,[],[])]:=by
 intro i hi
 have hc:∀j,w.cell? ⟨g,j,none⟩=(dmpCells t)[j]?:=fun j=>by simp[World.cell?,h]
 rw[hc,hc,hc]
 match i,hi with
 | 0,_=>exact⟨rfl,by simp[dmpCells],rfl⟩
 | 1,_=>exact⟨rfl,rfl,rfl⟩
theorem bel_any {B:Nat} {a w w':World} (h:Below B a w) (e:w'.heap=w.heap:=by rfl) (e1:w'.os=w.os:=by rfl) (e2:w'.tape=w.tape:=by rfl) (e3:w'.output=w.output:=by rfl):Below B a w' :=
 ⟨e1.trans h.os,e2.trans h.tape,e3.trans h.output,by rw[e];exact h.size,fun k hk=>by rw[e];exact h.block k hk⟩
theorem bel_from {B:Nat} {a a' w:World} (h:Below B a w) (e:a.heap=a'.heap:=by rfl) (e1:a.os=a'.os:=by rfl) (e2:a.tape=a'.tape:=by rfl) (e3:a.output=a'.output:=by rfl):Below B a' w :=
 ⟨h.os.trans e1,h.tape.trans e2,h.output.trans e3,by rw[← e];exact h.size,fun k hk=>by rw[← e];exact h.block k hk⟩
theorem dumped_any {d e n:Int} (hc:Sp.cfg d e n=true) (t:ByteArray) (w:World) (hT:Laid w) :
  Calls Tryz.prog 19 #[.agg #[.int .i64 d,.int .i64 e,.int .i64 n],.string t] w fun x w'=>x = .returned (.tuple #[.string ⟨(Sp.dmp d e t.data.toList).2.toArray⟩,.int .i64 (Sp.dmp d e t.data.toList).1])∧Below w.heap.size w w':=by
 have HT:=hide hT
 have hng:=hT.ng
 have HC:=hide hc
 have hz:(w.alloc (.cells #[.int .i64 d,.int .i64 e,.int .i64 n] 23)).heap[w.heap.size]? = some (.cells #[.int .i64 d,.int .i64 e,.int .i64 n] 23 (0,0)):=heap_new _ _ _ rfl
 have hba:Below w.heap.size w (w.alloc (.cells #[.int .i64 d,.int .i64 e,.int .i64 n] 23)):=(Below.refl _ _).alloc (Nat.le_refl _) _
 clear hT hc
 go_enter Tryz.func19,Tryz.ntmps19
 go_wp2_with (fail)
 generalize w.alloc (.cells #[.int .i64 d,.int .i64 e,.int .i64 n] 23)=wa at *
 have hsa:w.heap.size<wa.heap.size:=(Array.getElem?_eq_some_iff.1 hz).1
 have z0:wa.cell? ⟨w.heap.size,0,none⟩=some (.int .i64 d):=by simp[World.cell?,hz]
 have z1:wa.cell? ⟨w.heap.size,1,none⟩=some (.int .i64 e):=by simp[World.cell?,hz]
 have z2:wa.cell? ⟨w.heap.size,2,none⟩=some (.int .i64 n):=by simp[World.cell?,hz]
 have HZ:=hide hz
 have HBA:=hide hba
 have HRUN:Hid (∀ (w0:World) (g:Nat),Below w.heap.size w w0→w0.heap[g]? = some (.cells (dmpCells t) 49 (0,0))→Calls Tryz.prog 24 #[.agg #[.int .i64 d,.int .i64 e,.int .i64 n],.slice (some ⟨g,0,none⟩) 2 2] w0 fun x w'=>RunEnd 2 (Sp.run d e n none [(1,t.data.toList,[]),(2,[],[])]) w0 x w'):=by
  intro w0 g h0 h1
  exact Run_some (d:=d) (e:=e) (n:=n) (l:=[(1,t.data.toList,[]),(2,[],[])]) (m:=2) (cap:=2) (scr_dmp h1) (plain_dmp _) rfl (by decide) (by decide) (by decide) (Array.getElem?_eq_some_iff.1 h1).1 ((unhide HT).below (h0.mono hng))
 clear hz hba
 go_region_with (first
  | (go_at_call_of 26 t;refine (kstep_any 1 t _ _).mono ?_;rintro x w1 ⟨rfl,hb1⟩;have y0:=(hb1.cell (p:=⟨w.heap.size,0,none⟩) hsa).trans z0;have y1:=(hb1.cell (p:=⟨w.heap.size,1,none⟩) hsa).trans z1;have y2:=(hb1.cell (p:=⟨w.heap.size,2,none⟩) hsa).trans z2;have hs1:=Nat.lt_of_lt_of_le hsa hb1.size)
  | (go_at_call 26;refine (kstep_any 2 _ _ _).mono ?_;rintro x w2 ⟨rfl,hb2⟩;have x0:=(hb2.cell (p:=⟨w.heap.size,0,none⟩) hs1).trans y0;have x1:=(hb2.cell (p:=⟨w.heap.size,1,none⟩) hs1).trans y1;have x2:=(hb2.cell (p:=⟨w.heap.size,2,none⟩) hs1).trans y2;have hs2:=Nat.lt_of_lt_of_le hs1 hb2.size)
  | (go_at_call 24;refine (unhide HRUN _ _ ?_ ?_).mono ?_;exact bel_any ((((unhide HBA).trans (bel_from (hb1.mono (Nat.le_of_lt hsa)))).trans (bel_from (hb2.mono (Nat.le_of_lt hs1)))).alloc (Nat.le_of_lt hs2) _);exact heap_new _ _ _ rfl;rintro x w3 ⟨A,cs,rfl,hA,hrow,hans,hb3⟩;have hb4:=bel_any ((((unhide HBA).trans (bel_from (hb1.mono (Nat.le_of_lt hsa)))).trans (bel_from (hb2.mono (Nat.le_of_lt hs1)))).alloc (Nat.le_of_lt hs2) _) |>.trans (hb3.mono (Nat.le_trans (Nat.le_of_lt hs2) (by simp)))))
 all_goals (
  replace hb4:Below w.heap.size w w3:=hb4
  have HB4:=hide hb4
  obtain⟨k,hk⟩:=run_dmp (unhide HC) t.data.toList
  rw[hk] at hans
  obtain⟨hsz,hc⟩:=hans
  have q0:=hc 0 (by simp)
  have q1:=hc 1 (by simp)
  simp only[List.getElem_cons_zero,List.getElem_cons_succ] at q0 q1
  have hcell:∀j,w3.cell? ⟨A,j,none⟩=cs[j]?:=fun j=>by simp[World.cell?,hrow]
  have g00:=(hcell 0).trans q0.1
  have g12:=(hcell 5).trans q1.2.2
  clear q0 q1 hc hcell hrow hsz hb4 hb1 hb2 hb3 hk x0 x1 x2 y0 y1 y2 z0 z1 z2
  go_wp2_with (fail)
  go_quiet (fail)
  go_wp2_with (fail)
  go_ret2
  exact⟨rfl,bel_any (unhide HB4)⟩)
end

section
open Go.RowKit
def Sp.u8 (l:Sp.By):Bool:=if _h:l=[] then true else if _h2:(Sp.sca l).2=0 then false else Sp.u8 (l.drop (Sp.sca l).2)
termination_by l.length
decreasing_by
 have:0<l.length:=List.length_pos_iff.2 _h
 rw[List.length_drop]
 omega
end

section
def Sp.blks:List Sp.By:=[[],[32],[10],[9,13]]
def Sp.Bl (b:Sp.By):Prop:=b∈Sp.blks
theorem bl_all {b:Sp.By} (h:Sp.Bl b):∀c∈b,Sp.isB c=true:=by
 unfold Sp.Bl Sp.blks at h
 simp only[List.mem_cons,List.not_mem_nil,or_false] at h
 rcases h with rfl|rfl|rfl|rfl
 all_goals decide
theorem Sp.Bl.nd {b:Sp.By} (h:Sp.Bl b) {r:Sp.By} (hr:Sp.Nd r):Sp.Nd (b++r):=by
 cases b with
 | nil=>exact hr
 | cons c t =>
  intro c' t' e
  injection e with e1 e2
  subst e1
  have:=bl_all h c (by simp)
  unfold Sp.isB at this
  simp only[Bool.or_eq_true,beq_iff_eq] at this
  rcases this with ((rfl|rfl)|rfl)|rfl
  all_goals exact⟨by decide,by decide,by decide,by decide⟩
def Sp.num7:List Sp.By:=[[55],[55,46,48],[55,48,101,45,49],[48,46,55,69,49],[55,101,48],[55,46,48,48,101,43,48],[55,48,48,69,45,50],[48,46,48,48,55,101,51]]
def Sp.num0:List Sp.By:=[[45,48],[48],[48,46,48],[48,101,57,57],[45,48,46,48,69,45,53]]
def Sp.Ch (p:Sp.By) (c:Nat):Prop:=∀l,Sp.chr (p++l)=some (c,l)∧Sp.tk (p++l) 34=false
inductive Sp.Chs:Sp.By→List Nat→Prop
 | nil:Sp.Chs [] []
 | snoc {a:Sp.By} {cs:List Nat} {p:Sp.By} {c:Nat}:Sp.Chs a cs→Sp.Ch p c→Sp.Chs (a++p) (cs++[c])
end
end Go.Proofs.YtdpomdelmdofmaaGreatDoor
