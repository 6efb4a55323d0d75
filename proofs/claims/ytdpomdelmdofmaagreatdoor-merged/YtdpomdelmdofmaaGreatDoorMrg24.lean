/-
  Add, at a document that is being changed: whatever the path.
-/
import Derived.Test.YtdpomdelmdofmaaGreatDoorMrg23
import Derived.Test.YtdpomdelmdofmaaGreatDoorMrg14
import Derived.Test.YtdpomdelmdofmaaGreatDoorMrg18
import Derived.Test.YtdpomdelmdofmaaGreatDoorMrg01
import Derived.RangeFuncNested
import Derived.RangeFuncBound
import Derived.RangeFuncCalls
import Derived.RangeFuncLeaves
import Derived.Shelf.Abstract
import Derived.Shelf.RegionOpen
import Derived.OwnWalkIn
import Derived.TacticsInMore
import Derived.LoopNIn
import Derived.LoopIn
namespace Go.Proofs.YtdpomdelmdofmaaGreatDoor
section
open Go.RowKit Go.Maps
section
variable {w:World} {D R:Nat} {wp:Option Addr} {jn iv:Value} {ch:Bool} {Tb T a:Sp.A} {Mb M:Nat→Prop} {wb:World} {v xv:Sp.V} {js:List Sp.Opn} {y:Option Addr} {F:Nat→Prop} {d x:Int} {B:Nat}
theorem Laid.bel {w w':World} (h:Laid w) (hb:Below w.heap.size w w'):Laid w':=h.below (hb.mono h.ng)
end
end

section
open Go.RowKit Go.Maps
section
variable {w:World} {D R:Nat} {wp:Option Addr} {jn iv:Value} {ch:Bool} {Tb T a:Sp.A} {Mb M:Nat→Prop} {wb:World} {v xv:Sp.V} {js:List Sp.Opn} {y:Option Addr} {F:Nat→Prop} {d x:Int} {B:Nat}
 {k:Nat} {pa fa:Option Addr} {pl pc fl fc:Nat} {p q:List Sp.By}
theorem Laid.jex {M':Nat→Prop} {w':World} (h:Laid w) (hM:∀k,k<NG→M k) (hX:JEx M M' w w'):Laid w' :=
 h.below ⟨hX.os,hX.tape,hX.output,hX.size,fun k hk=>(hX.kept k (hM k hk)).2⟩
end
end

section
set_option maxRecDepth 100000
set_option maxHeartbeats 8000000
open Go.RowKit
structure SameBut (r:Nat) (w w':World):Prop where
 os:w'.os=w.os
 tape:w'.tape=w.tape
 output:w'.output=w.output
 size:w'.heap.size=w.heap.size
 block:∀k,k≠r→w'.heap[k]? = w.heap[k]?
theorem SameBut.of3 (r:Nat) (w:World) (a b c:Value):SameBut r w (((w.setCell ⟨r,0,none⟩ a).setCell ⟨r,1,none⟩ b).setCell ⟨r,2,none⟩ c) :=
 ⟨rfl,rfl,rfl,by simp[World.setCell],fun k hk=>(Below.heap_setCell _ _ _ _ hk).trans ((Below.heap_setCell _ _ _ _ hk).trans (Below.heap_setCell _ _ _ _ hk))⟩
theorem SameBut.below {r B:Nat} {a w w':World} (h:SameBut r w w') (hb:Below B a w) (hr:B≤r):Below B a w' :=
 ⟨h.os.trans hb.os,h.tape.trans hb.tape,h.output.trans hb.output,by rw[h.size];exact hb.size,fun k hk=>(h.block k (by omega)).trans (hb.block k hk)⟩
theorem SameBut.kept {r:Nat} {F:Nat→Prop} {a w w':World} (h:SameBut r w w') (hb:KeptF F a w) (hr:a.heap.size≤r):KeptF F a w' :=
 ⟨h.os.trans hb.os,h.tape.trans hb.tape,h.output.trans hb.output,by rw[h.size];exact hb.size,fun k hk hx=>(h.block k (by omega)).trans (hb.block k hk hx)⟩
theorem run_enter {f:FuncId} {fn:Func} {c:Code} (hf:Tryz.prog.funcs[f]? = some fn) (hname:(fn.name == "runtime.NumGoroutine")=false) (hb:fn.body=some c) (args:Array Value) (w:World) :
  (callFunc f args).run Tryz.prog w = .ok (.enter f args) w:=by
 have h1:¬ fn.name = "runtime.NumGoroutine" := by simpa using hname
 simp[callFunc,hf,h1,hb]
theorem reading_any {S f:Nat} {d e n:Int} {p:Value} {w:World} {s:Sp.By} {Q:Sp.V→Option Addr→World→Sp.Ans→World→Prop} (hin:∀args w,(callFunc f args).run Tryz.prog w = .ok (.enter f args) w) (h:SB w S d e n p) (hT:Laid w)
  (hcall:∀v p2 w1,Below w.heap.size w w1→AB w1 w.heap.size→Sp.readTo s d e=(0,some v)→Tr top (w.heap.size+1) w1 (.pointer p2) v →
   Calls Tryz.prog f #[.pointer (some ⟨S,0,none⟩),.pointer p2] w1 fun x w2=>∃A:Sp.Ans,x = .returned (ansA A)∧AB w2 w.heap.size∧Q v p2 w1 A w2) :
  Calls Tryz.prog 42 #[.pointer (some ⟨S,0,none⟩),.string ⟨s.toArray⟩,.func (.func f) #[.pointer (some ⟨S,0,none⟩)] #[]] w fun x w' =>
   (∃c,0<c∧Sp.readTo s d e=(c,none)∧x = .returned (ansA (c,0,[]))∧Below w.heap.size w w') ∨
   (∃v p2 w1 A w2,Sp.readTo s d e=(0,some v)∧Below w.heap.size w w1∧w.heap.size<w1.heap.size∧Q v p2 w1 A w2∧x = .returned (ansA A)∧SameBut w.heap.size w2 w'):=by
 have hba:Below w.heap.size w (w.alloc (.cells #[.int .i64 0,.int .i64 0,.string ⟨#[]⟩] 46)):=(Below.refl _ _).alloc (Nat.le_refl _) _
 have hTa:=hT.below (hba.mono hT.ng)
 have HS:=hide (h.low hba)
 have HT:=hide hTa
 have HAB:=hide (AB.new w)
 have HBA:=hide hba
 have hsz:(w.alloc (.cells #[.int .i64 0,.int .i64 0,.string ⟨#[]⟩] 46)).heap.size=w.heap.size+1:=by simp
 have HC:=hide hcall
 have HIN:=hide hin
 clear hT h hTa hba hcall hin
 go_enter Tryz.func42,Tryz.ntmps42
 go_wp2_with (fail)
 generalize w.alloc (.cells #[.int .i64 0,.int .i64 0,.string ⟨#[]⟩] 46)=wa at *
 refine (sread_tr s (unhide HS) (unhide HT)).mono ?_
 rintro x w1 ⟨p2,c,rfl,hb1,hc⟩
 have a1:=(unhide HAB).low hb1
 have HB1:=hide ((unhide HBA).trans (hb1.mono (by omega)))
 have hs1:=hb1.size
 rcases hc with⟨hpos,hrd⟩|⟨rfl,v,hrd,hrep⟩
 ·have HRD:=hide hrd
  have e0:((c:Int) != 0)=true:=by simp;omega
  have A1:=hide a1
  clear hrd a1 hb1
  go_wp2_with (fail)
  refine (failed_any c w1).mono ?_
  rintro x w3 ⟨rfl,hb3⟩
  have a3:=(unhide A1).low hb3
  have g0:=a3.c0
  have g1:=a3.c1
  have g2:=a3.c2
  have z:=a3.fz
  have HB3:=hide ((unhide HB1).trans (hb3.mono (by omega)))
  clear a3 hb3
  unfold ansV
  go_wp2_with (fail)
  refine bodyPost_ret (v:=ansA (c,0,[])) (by simp[results,Tryz.results42,go_sem,ansA,g0,g1,g2]) rfl ?_
  exact Or.inl ⟨c,hpos,unhide HRD,rfl,(SameBut.of3 w.heap.size w3 _ _ _).below (unhide HB3) (Nat.le_refl _)⟩
 ·have HCC:=hide (unhide HC v p2 w1 (unhide HB1) a1 hrd (by rw[← hsz];exact hrep))
  have HRD:=hide hrd
  clear hrd a1 hb1 hrep HC
  go_wp2_with (fail)
  rw[unhide HIN,Oper.upon_enter]
  refine (unhide HCC).mono ?_
  rintro x w2 ⟨A,rfl,a2,hq⟩
  have g0:=a2.c0
  have g1:=a2.c1
  have g2:=a2.c2
  have z:=a2.fz
  have HQ:=hide hq
  clear a2 hq HCC
  unfold ansA
  go_wp2_with (fail)
  refine bodyPost_ret (v:=ansA A) (by simp[results,Tryz.results42,go_sem,ansA,g0,g1,g2]) rfl ?_
  exact Or.inr ⟨v,p2,w1,A,w2,unhide HRD,unhide HB1,by omega,unhide HQ,rfl,SameBut.of3 _ _ _ _ _⟩
def GetOk:Prop:=∀ (S:Nat) (d e n:Int) (p:Value) (v:Sp.V×Sp.Inv) (F:Nat→Prop) (s:Sp.By) (w:World),s.length≤1048576→SB w S d e n p→DocF w F p d e (some v)→Laid w →
 Calls Tryz.prog 57 #[.pointer (some ⟨S,0,none⟩),.string ⟨s.toArray⟩] w fun x w'=>x = .returned (ansA (Sp.gotA v.1 s))∧Below w.heap.size w w'
def TestOk:Prop:=∀ (S:Nat) (d e n:Int) (p:Value) (v:Sp.V×Sp.Inv) (F:Nat→Prop) (s t:Sp.By) (w:World),s.length≤1048576→SB w S d e n p→DocF w F p d e (some v)→Laid w →
 Calls Tryz.prog 58 #[.pointer (some ⟨S,0,none⟩),.string ⟨s.toArray⟩,.string ⟨t.toArray⟩] w fun x w'=>x = .returned (ansA (Sp.tst d e v.1 s t,0,[]))∧Below w.heap.size w w'
def AmEnd (F:Nat→Prop) (p:Value) (d e:Int) (r:Sp.Ans×(Sp.V×Sp.Inv)) (w:World) (x:Ending) (w':World):Prop :=
 x = .returned (ansA r.1)∧KeptF F w w'∧DocF w' (fun k=>(F k∧k<w.heap.size)∨w.heap.size≤k) p d e (some r.2)
theorem AmEnd.low {F:Nat→Prop} {p:Value} {d e:Int} {A:Sp.Ans} {v:Sp.V×Sp.Inv} {w w':World} (hd:DocF w F p d e (some v)) (hb:Below w.heap.size w w'):AmEnd F p d e (A,v) w (.returned (ansA A)) w' :=
 ⟨rfl,KeptF.of_below hb,hd.move fun k h1 h2=>⟨hb.block k h2,Or.inl ⟨h1,h2⟩⟩⟩
def PatchOk:Prop:=∀ (S:Nat) (d e n:Int) (p:Value) (v:Sp.V×Sp.Inv) (F:Nat→Prop) (s:Sp.By) (w:World),Sp.cfg d e n=true→(∀k,F k→NG≤k∧k≠S)→SB w S d e n p→DocF w F p d e (some v)→Laid w →
 Calls Tryz.prog 59 #[.pointer (some ⟨S,0,none⟩),.string ⟨s.toArray⟩] w (AmEnd F p d e (Sp.stPatch d e v s) w)
def InvertOk:Prop:=∀ (S:Nat) (d e n:Int) (p:Value) (v:Sp.V×Sp.Inv) (F:Nat→Prop) (w:World),SB w S d e n p→DocF w F p d e (some v)→Laid w →
 Calls Tryz.prog 61 #[.pointer (some ⟨S,0,none⟩)] w fun x w'=>x = .returned (ansA (Sp.stInvert v))∧Below w.heap.size w w'
def MergeOk:Prop:=∀ (S lo:Nat) (d e n:Int) (p:Value) (v:Sp.V×Sp.Inv) (F:Nat→Prop) (s:Sp.By) (q:Sp.V) (p2:Option Addr) (w:World),Sp.cfg d e n=true→(∀k,F k→NG≤k∧k≠S∧k<lo)→SB w S d e n p→DocF w F p d e (some v)→Laid w →
 Sp.readTo s d e=(0,some q)→Tr top lo w (.pointer p2) q→Calls Tryz.prog 60 #[.pointer (some ⟨S,0,none⟩),.pointer p2] w (AmEnd F p d e (Sp.mergeA v q) w)
def DiffOk:Prop:=∀ (S lo:Nat) (d e n:Int) (p:Value) (v:Sp.V×Sp.Inv) (F:Nat→Prop) (s:Sp.By) (q:Sp.V) (p2:Option Addr) (w:World),Sp.cfg d e n=true→SB w S d e n p→DocF w F p d e (some v)→Laid w →
 Sp.readTo s d e=(0,some q)→Tr top lo w (.pointer p2) q→Calls Tryz.prog 62 #[.pointer (some ⟨S,0,none⟩),.pointer p2] w fun x w'=>x = .returned (ansA (Sp.diffAns n v.1 q))∧Below w.heap.size w w'
def MergeDiffOk:Prop:=∀ (S lo:Nat) (d e n:Int) (p:Value) (v:Sp.V×Sp.Inv) (F:Nat→Prop) (s:Sp.By) (q:Sp.V) (p2:Option Addr) (w:World),Sp.cfg d e n=true→SB w S d e n p→DocF w F p d e (some v)→Laid w →
 Sp.readTo s d e=(0,some q)→Tr top lo w (.pointer p2) q→Calls Tryz.prog 63 #[.pointer (some ⟨S,0,none⟩),.pointer p2] w fun x w'=>x = .returned (ansA (Sp.mdiffAns v.1 q))∧Below w.heap.size w w'
def Fine (o:Sp.St):Prop:=(o.1<3∨9<o.1)∨((o.1=3∨o.1=4)∧GetOk∧TestOk∧o.2.1.length≤1048576)∨(o.1=5∧PatchOk)∨(o.1=6∧MergeOk)∨(o.1=7∧InvertOk)∨(o.1=8∧DiffOk)∨(o.1=9∧MergeDiffOk)
noncomputable def Sp.askR (d e n:Int) (v:Sp.V×Sp.Inv) (o:Sp.St):Sp.Ans×(Sp.V×Sp.Inv):=if o.1<5 then (Sp.ask d e v.1 o,v) else Sp.amend d e n v o
theorem DocF.bel {w w':World} {F:Nat→Prop} {p:Value} {d e:Int} {doc:Sp.Doc} (h:DocF w F p d e doc) (hb:Below w.heap.size w w'):DocF w' F p d e doc:=h.move fun k h1 h2=>⟨hb.block k h2,h1⟩
theorem DocW.bel {w w':World} {F:Nat→Prop} {D R:Nat} {wp:Value} {d e:Int} {v:Sp.V×Sp.Inv} (h:DocW w F D R wp d e v) (hb:Below w.heap.size w w'):DocW w' F D R wp d e v:=h.move fun k h1 h2=>⟨hb.block k h2,h1⟩
def askW (w:World) (k:Int) (s t:Sp.By):World:=(w.alloc (.cells #[.int .i64 k,.string ⟨s.toArray⟩,.string ⟨t.toArray⟩] 49)).alloc (.cells #[.int .i64 0,.int .i64 0,.string ⟨#[]⟩] 46)
theorem askW_below (w:World) (k:Int) (s t:Sp.By):Below w.heap.size w (askW w k s t):=((Below.refl _ _).alloc (Nat.le_refl _) _).alloc (by simp) _
theorem askW_size (w:World) (k:Int) (s t:Sp.By):(askW w k s t).heap.size=w.heap.size+2:=by simp[askW]
theorem askW_ab (w:World) (k:Int) (s t:Sp.By):AB (askW w k s t) (w.heap.size+1):=by
 have:=AB.new (w.alloc (.cells #[.int .i64 k,.string ⟨s.toArray⟩,.string ⟨t.toArray⟩] 49))
 rw[show (w.alloc (.cells #[.int .i64 k,.string ⟨s.toArray⟩,.string ⟨t.toArray⟩] 49)).heap.size=w.heap.size+1 by simp] at this
 exact this
theorem askW_op (w:World) (k:Int) (s t:Sp.By):(askW w k s t).heap[w.heap.size]? = some (.cells #[.int .i64 k,.string ⟨s.toArray⟩,.string ⟨t.toArray⟩] 49 (0,0)):=by
 show ((w.heap.push _).push _)[w.heap.size]? = _
 simp[Array.getElem?_push]
structure SameIn (a b:Nat) (w w':World):Prop where
 os:w'.os=w.os
 tape:w'.tape=w.tape
 output:w'.output=w.output
 size:w'.heap.size=w.heap.size
 block:∀k,(k<a∨b≤k)→w'.heap[k]? = w.heap[k]?
theorem SameBut.isIn {r a b:Nat} {w w':World} (h:SameBut r w w') (h1:a≤r) (h2:r<b):SameIn a b w w':=⟨h.os,h.tape,h.output,h.size,fun k hk=>h.block k (by omega)⟩
theorem SameIn.trans {a b:Nat} {w w' w'':World} (h:SameIn a b w w') (h':SameIn a b w' w''):SameIn a b w w'' :=
 ⟨h'.os.trans h.os,h'.tape.trans h.tape,h'.output.trans h.output,h'.size.trans h.size,fun k hk=>(h'.block k hk).trans (h.block k hk)⟩
theorem SameIn.kept {a b:Nat} {F:Nat→Prop} {w0 w w':World} (h:SameIn a b w w') (hb:KeptF F w0 w) (hr:w0.heap.size≤a):KeptF F w0 w' :=
 ⟨h.os.trans hb.os,h.tape.trans hb.tape,h.output.trans hb.output,by rw[h.size];exact hb.size,fun k hk hx=>(h.block k (by omega)).trans (hb.block k hk hx)⟩
theorem am_lift {F:Nat→Prop} {p:Value} {d e:Int} {r:Sp.Ans×(Sp.V×Sp.Inv)} {w w1 w2 w3:World} (hb:Below w.heap.size w w1) (h:AmEnd (fun k=>F k∧k<w.heap.size) p d e r w1 (.returned (ansA r.1)) w2) (hs:SameIn w.heap.size w1.heap.size w2 w3):AmEnd F p d e r w (.returned (ansA r.1)) w3:=by
 obtain⟨_,h1,h2⟩:=h
 refine⟨rfl,?_,h2.move fun k hk _=>⟨hs.block k ?_,?_⟩⟩
 ·exact hs.kept ((KeptF.of_below (F:=F) hb).trans h1 fun k _ h=>h.1) (Nat.le_refl _)
 ·rcases hk with⟨hk,_⟩|hk
  ·omega
  ·omega
 ·rcases hk with⟨hk,_⟩|hk
  ·exact Or.inl hk
  ·exact Or.inr (by have:=hb.size;omega)
theorem ask_any {S:Nat} {d e n k:Int} {p:Value} {v:Sp.V×Sp.Inv} {w:World} {F:Nat→Prop} (s t:Sp.By) (hcfg:Sp.cfg d e n=true) (hk0:¬ k<1) (hk9:¬ 9<k) (hk1:k≠1) (hF:∀k,F k→NG≤k∧k≠S) (hf:Fine (k,s,t)) (h:SB w S d e n p) (hd:DocF w F p d e (some v)) (hT:Laid w) :
  Calls Tryz.prog 44 #[.pointer (some ⟨S,0,none⟩),.agg #[.int .i64 k,.string ⟨s.toArray⟩,.string ⟨t.toArray⟩]] w (AmEnd F p d e (Sp.askR d e n v (k,s,t)) w):=by
 have hlt:=h.lt
 have hba:=askW_below w k s t
 have hTa:=hT.below (hba.mono hT.ng)
 have h0:=h.low hba
 have hd0:DocF (askW w k s t) (fun k=>F k∧k<w.heap.size) p d e (some v):=hd.move fun k h1 h2=>⟨hba.block k h2,h1,h2⟩
 have a0:=askW_ab w k s t
 have o0:=askW_op w k s t
 have hsz:=askW_size w k s t
 have hF0:∀j,(F j∧j<w.heap.size)→NG≤j∧j≠S:=fun j hj=>hF j hj.1
 have c3:=h0.c3
 have q0:(askW w k s t).cell? ⟨w.heap.size,0,none⟩=some (.int .i64 k):=by simp[World.cell?,o0]
 have q1:(askW w k s t).cell? ⟨w.heap.size,1,none⟩=some (.string ⟨s.toArray⟩):=by simp[World.cell?,o0]
 have q2:(askW w k s t).cell? ⟨w.heap.size,2,none⟩=some (.string ⟨t.toArray⟩):=by simp[World.cell?,o0]
 have eW:(w.alloc (.cells #[.int .i64 k,.string ⟨s.toArray⟩,.string ⟨t.toArray⟩] 49)).alloc (.cells #[.int .i64 0,.int .i64 0,.string ⟨#[]⟩] 46)=askW w k s t:=rfl
 have HA:=hide a0
 have HT:=hide hTa
 have H0:=hide h0
 have HD:=hide hd0
 have HDD:=hide hd
 have HF:=hide hf
 have HF0:=hide hF0
 have HBA:=hide hba
 have HCF:=hide hcfg
 clear h hd hT h0 hTa a0 hf o0 hF hF0 hba hcfg
 by_cases hk:k=2
 ·have HE:=hide (show Sp.askR d e n v (k,s,t)=((0,0,Sp.can top v.1),v) by unfold Sp.askR;rw[if_pos (show k<5 by omega)];unfold Sp.ask;rw[if_pos hk])
  have HDW:=HD
  obtain⟨D,R,wp,rfl,hdw⟩:=unhide HD
  have HDW:=hide hdw
  obtain⟨A,hA⟩:∃A:Sp.Ans,A=(0,0,Sp.can top v.1):=⟨_,rfl⟩
  clear hdw
  subst hk
  go_enter Tryz.func44,Tryz.ntmps44
  go_wp2_with (fail)
  refine (Whole_any (unhide HDW)).mono ?_
  rintro x w0 ⟨rfl,hb0⟩
  have hr1:=((unhide HDW).bel hb0).rep
  have HCAN:=hide (Canonical_any hr1 ((unhide HT).below (hb0.mono (unhide HT).ng)) (Nat.le_trans (unhide HDW).len (by omega)))
  have HB0:=hide hb0
  clear hb0 hr1
  go_wp2_with (fail)
  refine (unhide HCAN).mono ?_
  rintro x w1 ⟨rfl,hb1⟩
  replace hb1:=(unhide HB0).trans (hb1.mono (unhide HB0).size)
  have a1:=(unhide HA).low hb1
  have g0:=a1.c0
  have g1:=a1.c1
  have g2:=a1.c2
  have z:=a1.fz
  have HB:=hide (show Below w.heap.size w w1 from (unhide HBA).trans (hb1.mono (by omega)))
  clear a1 hb1
  go_wp2_with (fail)
  refine bodyPost_ret (v:=ansA (0,0,Sp.can top v.1)) (by simp[results,Tryz.results44,go_sem,ansA,g0,g1,g2]) rfl ?_
  rw[unhide HE]
  exact AmEnd.low (unhide HDD) ((SameBut.of3 (w.heap.size+1) w1 _ _ _).below (unhide HB) (by omega))
 by_cases hk:k=3
 ·have HE:=hide (show Sp.askR d e n v (k,s,t)=(Sp.gotA v.1 s,v) by unfold Sp.askR;rw[if_pos (show k<5 by omega)];unfold Sp.ask;rw[if_neg (show ¬ k=2 by omega),if_pos hk])
  have hfine:GetOk∧TestOk∧s.length≤1048576:=(by
   rcases unhide HF with h|⟨h,hh⟩|⟨h,hh⟩|⟨h,hh⟩|⟨h,hh⟩|⟨h,hh⟩|⟨h,hh⟩
   all_goals (simp only at h;first|exact hh|omega))
  have HCALL:=hide (hfine.1 S d e n _ v _ s _ hfine.2.2 (unhide H0) (unhide HD) (unhide HT))
  obtain⟨A,hA⟩:∃A,A=Sp.gotA v.1 s:=⟨_,rfl⟩
  rw[← hA] at HE HCALL
  clear hA hfine
  subst hk
  go_enter Tryz.func44,Tryz.ntmps44
  go_wp2_with (fail)
  refine (unhide HCALL).mono ?_
  rintro x w1 ⟨rfl,hb1⟩
  have a1:=(unhide HA).low hb1
  have g0:=a1.c0
  have g1:=a1.c1
  have g2:=a1.c2
  have z:=a1.fz
  have HB:=hide (show Below w.heap.size w w1 from (unhide HBA).trans (hb1.mono (by omega)))
  clear a1 hb1
  unfold ansA
  go_wp2_with (fail)
  refine bodyPost_ret (v:=ansA A) (by simp[results,Tryz.results44,go_sem,ansA,g0,g1,g2]) rfl ?_
  rw[unhide HE]
  exact AmEnd.low (unhide HDD) ((SameBut.of3 (w.heap.size+1) w1 _ _ _).below (unhide HB) (by omega))
 by_cases hk:k=4
 ·have HE:=hide (show Sp.askR d e n v (k,s,t)=((Sp.tst d e v.1 s t,0,[]),v) by unfold Sp.askR;rw[if_pos (show k<5 by omega)];unfold Sp.ask;rw[if_neg (show ¬ k=2 by omega),if_neg (show ¬ k=3 by omega),if_pos hk])
  have hfine:GetOk∧TestOk∧s.length≤1048576:=(by
   rcases unhide HF with h|⟨h,hh⟩|⟨h,hh⟩|⟨h,hh⟩|⟨h,hh⟩|⟨h,hh⟩|⟨h,hh⟩
   all_goals (simp only at h;first|exact hh|omega))
  have HCALL:=hide (hfine.2.1 S d e n _ v _ s t _ hfine.2.2 (unhide H0) (unhide HD) (unhide HT))
  obtain⟨A,hA⟩:∃A:Sp.Ans,A=(Sp.tst d e v.1 s t,0,[]):=⟨_,rfl⟩
  rw[← hA] at HE HCALL
  clear hA hfine
  subst hk
  go_enter Tryz.func44,Tryz.ntmps44
  go_wp2_with (fail)
  refine (unhide HCALL).mono ?_
  rintro x w1 ⟨rfl,hb1⟩
  have a1:=(unhide HA).low hb1
  have g0:=a1.c0
  have g1:=a1.c1
  have g2:=a1.c2
  have z:=a1.fz
  have HB:=hide (show Below w.heap.size w w1 from (unhide HBA).trans (hb1.mono (by omega)))
  clear a1 hb1
  unfold ansA
  go_wp2_with (fail)
  refine bodyPost_ret (v:=ansA A) (by simp[results,Tryz.results44,go_sem,ansA,g0,g1,g2]) rfl ?_
  rw[unhide HE]
  exact AmEnd.low (unhide HDD) ((SameBut.of3 (w.heap.size+1) w1 _ _ _).below (unhide HB) (by omega))
 by_cases hk:k=5
 ·have HE:=hide (show Sp.askR d e n v (k,s,t)=Sp.stPatch d e v s by unfold Sp.askR;rw[if_neg (show ¬ k<5 by omega)];unfold Sp.amend;rw[if_pos hk])
  have hfine:PatchOk:=(by
   rcases unhide HF with h|⟨h,hh⟩|⟨h,hh⟩|⟨h,hh⟩|⟨h,hh⟩|⟨h,hh⟩|⟨h,hh⟩
   all_goals (simp only at h;first|exact hh|omega))
  have HCALL:=hide (hfine S d e n _ v _ s _ (unhide HCF) (unhide HF0) (unhide H0) (unhide HD) (unhide HT))
  obtain⟨A,hA⟩:∃A,A=Sp.stPatch d e v s:=⟨_,rfl⟩
  rw[← hA] at HE HCALL
  clear hA hfine
  subst hk
  go_enter Tryz.func44,Tryz.ntmps44
  go_wp2_with (fail)
  refine (unhide HCALL).mono ?_
  rintro x w1 hx
  have hx1:=hx.1
  subst hx1
  have a1:AB w1 (w.heap.size+1):=(hx.2.1.block _ (by omega) (fun h=>by omega)).trans (unhide HA)
  have g0:=a1.c0
  have g1:=a1.c1
  have g2:=a1.c2
  have z:=a1.fz
  have HX:=hide hx
  clear a1 hx
  unfold ansA
  go_wp2_with (fail)
  refine bodyPost_ret (v:=ansA A.1) (by simp[results,Tryz.results44,go_sem,ansA,g0,g1,g2]) rfl ?_
  rw[unhide HE]
  exact am_lift (unhide HBA) (unhide HX) ((SameBut.of3 (w.heap.size+1) w1 _ _ _).isIn (by omega) (by omega))
 by_cases hk:k=7
 ·have HE:=hide (show Sp.askR d e n v (k,s,t)=(Sp.stInvert v,v) by unfold Sp.askR;rw[if_neg (show ¬ k<5 by omega)];unfold Sp.amend;rw[if_neg (show ¬ k=5 by omega),if_neg (show ¬ k=6 by omega),if_pos hk])
  have hfine:InvertOk:=(by
   rcases unhide HF with h|⟨h,hh⟩|⟨h,hh⟩|⟨h,hh⟩|⟨h,hh⟩|⟨h,hh⟩|⟨h,hh⟩
   all_goals (simp only at h;first|exact hh|omega))
  have HCALL:=hide (hfine S d e n _ v _ _ (unhide H0) (unhide HD) (unhide HT))
  obtain⟨A,hA⟩:∃A,A=Sp.stInvert v:=⟨_,rfl⟩
  rw[← hA] at HE HCALL
  clear hA hfine
  subst hk
  go_enter Tryz.func44,Tryz.ntmps44
  go_wp2_with (fail)
  refine (unhide HCALL).mono ?_
  rintro x w1 ⟨rfl,hb1⟩
  have a1:=(unhide HA).low hb1
  have g0:=a1.c0
  have g1:=a1.c1
  have g2:=a1.c2
  have z:=a1.fz
  have HB:=hide (show Below w.heap.size w w1 from (unhide HBA).trans (hb1.mono (by omega)))
  clear a1 hb1
  unfold ansA
  go_wp2_with (fail)
  refine bodyPost_ret (v:=ansA A) (by simp[results,Tryz.results44,go_sem,ansA,g0,g1,g2]) rfl ?_
  rw[unhide HE]
  exact AmEnd.low (unhide HDD) ((SameBut.of3 (w.heap.size+1) w1 _ _ _).below (unhide HB) (by omega))
 by_cases hk:k=6
 ·have HE:=hide (show Sp.askR d e n v (k,s,t)=Sp.stMerge d e v s by unfold Sp.askR;rw[if_neg (show ¬ k<5 by omega)];unfold Sp.amend;rw[if_neg (show ¬ k=5 by omega),if_pos hk])
  have hfine:MergeOk:=(by
   rcases unhide HF with h|⟨h,hh⟩|⟨h,hh⟩|⟨h,hh⟩|⟨h,hh⟩|⟨h,hh⟩|⟨h,hh⟩
   all_goals (simp only at h;first|exact hh|omega))
  have HCALL:=hide (reading_any (f:=60) (s:=s) (hin:=run_enter Tryz.func60 (by kernel_rfl) rfl) (Q:=fun q p2 w1 A w2=>A=(Sp.mergeA v q).1∧AmEnd (fun k=>F k∧k<w.heap.size) p d e (Sp.mergeA v q) w1 (.returned (ansA A)) w2) (unhide H0) (unhide HT) (fun q p2 w1 hb1 hab hrd htr=>by
   refine (hfine S (w.heap.size+3) d e n p v _ s q p2 w1 (unhide HCF) (fun j hj=>⟨(unhide HF0 j hj).1,(unhide HF0 j hj).2,by omega⟩) ((unhide H0).low hb1) ((unhide HD).bel hb1) ((unhide HT).below (hb1.mono (unhide HT).ng)) hrd (by rw[hsz] at htr;exact htr)).mono ?_
   rintro x w2 hx
   have hx1:=hx.1
   subst hx1
   exact⟨_,rfl,(hx.2.1.block _ hab.lt (fun h=>by rw[hsz] at h;omega)).trans hab,rfl,hx⟩))
  clear hfine
  subst hk
  go_enter Tryz.func44,Tryz.ntmps44
  go_wp2_with (fail)
  refine (unhide HCALL).mono ?_
  rintro x w1 (⟨c,hpos,hrd,rfl,hb1⟩|⟨q,p2,w2,A,w3,hrd,hb2,hs2,⟨rfl,hx⟩,rfl,hsb⟩)
  ·obtain⟨A,hA⟩:∃A:Sp.Ans,A=(c,0,[]):=⟨_,rfl⟩
   have HE2:=hide (show Sp.stMerge d e v s=(A,v) by unfold Sp.stMerge;rw[hrd,hA])
   rw[← hA]
   clear hrd hA
   have a1:=(unhide HA).low hb1
   have g0:=a1.c0
   have g1:=a1.c1
   have g2:=a1.c2
   have z:=a1.fz
   have HB:=hide (show Below w.heap.size w w1 from (unhide HBA).trans (hb1.mono (by omega)))
   clear a1 hb1 HCALL
   unfold ansA
   go_wp2_with (fail)
   refine bodyPost_ret (v:=ansA A) (by simp[results,Tryz.results44,go_sem,ansA,g0,g1,g2]) rfl ?_
   rw[unhide HE,unhide HE2]
   exact AmEnd.low (unhide HDD) ((SameBut.of3 (w.heap.size+1) w1 _ _ _).below (unhide HB) (by omega))
  ·have HE2:=hide (show Sp.stMerge d e v s=Sp.mergeA v q by unfold Sp.stMerge;rw[hrd])
   obtain⟨M,hM⟩:∃M,M=Sp.mergeA v q:=⟨_,rfl⟩
   rw[← hM] at hx HE2 ⊢
   have a1:AB w1 (w.heap.size+1):=(hsb.block _ (by omega)).trans ((hx.2.1.block _ (by omega) (fun h=>by omega)).trans ((hb2.block _ (by omega)).trans (unhide HA)))
   have g0:=a1.c0
   have g1:=a1.c1
   have g2:=a1.c2
   have z:=a1.fz
   have HX:=hide hx
   have HS:=hide (hsb.isIn (a:=w.heap.size) (b:=w2.heap.size) (by omega) (by omega))
   have HB2:=hide ((unhide HBA).trans (hb2.mono (by omega)))
   clear a1 hx hrd hM hsb hb2 HCALL
   unfold ansA
   go_wp2_with (fail)
   refine bodyPost_ret (v:=ansA M.1) (by simp[results,Tryz.results44,go_sem,ansA,g0,g1,g2]) rfl ?_
   rw[unhide HE,unhide HE2]
   exact am_lift (unhide HB2) (unhide HX) ((unhide HS).trans ((SameBut.of3 (w.heap.size+1) w1 _ _ _).isIn (by omega) (by omega)))
 by_cases hk:k=8
 ·have HE:=hide (show Sp.askR d e n v (k,s,t)=(Sp.stDiff d e n v s,v) by unfold Sp.askR;rw[if_neg (show ¬ k<5 by omega)];unfold Sp.amend;rw[if_neg (show ¬ k=5 by omega),if_neg (show ¬ k=6 by omega),if_neg (show ¬ k=7 by omega),if_pos hk])
  have hfine:DiffOk:=(by
   rcases unhide HF with h|⟨h,hh⟩|⟨h,hh⟩|⟨h,hh⟩|⟨h,hh⟩|⟨h,hh⟩|⟨h,hh⟩
   all_goals (simp only at h;first|exact hh|omega))
  have HCALL:=hide (reading_any (f:=62) (s:=s) (hin:=run_enter Tryz.func62 (by kernel_rfl) rfl) (Q:=fun q p2 w1 A w2=>A=Sp.diffAns n v.1 q∧Below w1.heap.size w1 w2) (unhide H0) (unhide HT) (fun q p2 w1 hb1 hab hrd htr=>by
   refine (hfine S _ d e n p v _ s q p2 w1 (unhide HCF) ((unhide H0).low hb1) ((unhide HD).bel hb1) ((unhide HT).below (hb1.mono (unhide HT).ng)) hrd htr).mono ?_
   rintro x w2 ⟨rfl,hb2⟩
   exact⟨_,rfl,hab.low hb2,rfl,hb2⟩))
  clear hfine
  subst hk
  go_enter Tryz.func44,Tryz.ntmps44
  go_wp2_with (fail)
  refine (unhide HCALL).mono ?_
  rintro x w1 hx
  obtain⟨A,rfl,hA,hb1,a1⟩:∃A:Sp.Ans,x = .returned (ansA A)∧A=Sp.stDiff d e n v s∧Below w.heap.size w w1∧AB w1 (w.heap.size+1):=by
   rcases hx with⟨c,hpos,hrd,rfl,hb1⟩|⟨q,p2,w2,A,w3,hrd,hb2,hs2,⟨rfl,hx⟩,rfl,hsb⟩
   ·exact⟨_,rfl,by unfold Sp.stDiff;rw[hrd],(unhide HBA).trans (hb1.mono (by omega)),(unhide HA).low hb1⟩
   ·exact⟨_,rfl,by unfold Sp.stDiff;rw[hrd],((unhide HBA).trans (hb2.mono (by omega))).trans (hsb.below (hx.mono (by omega)) (by omega)),(hsb.block _ (by omega)).trans ((hx.block _ (by omega)).trans ((hb2.block _ (by omega)).trans (unhide HA)))⟩
  have g0:=a1.c0
  have g1:=a1.c1
  have g2:=a1.c2
  have z:=a1.fz
  have HB:=hide hb1
  rw[← hA] at HE
  clear a1 hb1 HCALL hx hA
  unfold ansA
  go_wp2_with (fail)
  refine bodyPost_ret (v:=ansA A) (by simp[results,Tryz.results44,go_sem,ansA,g0,g1,g2]) rfl ?_
  rw[unhide HE]
  exact AmEnd.low (unhide HDD) ((SameBut.of3 (w.heap.size+1) w1 _ _ _).below (unhide HB) (by omega))
 obtain rfl:k=9:=by omega
 ·have hk:(9:Int)=9:=rfl
  have HE:=hide (show Sp.askR d e n v (9,s,t)=(Sp.stMergeDiff d e v s,v) by unfold Sp.askR;rw[if_neg (show ¬ (9:Int)<5 by omega)];unfold Sp.amend;rw[if_neg (show ¬ (9:Int)=5 by omega),if_neg (show ¬ (9:Int)=6 by omega),if_neg (show ¬ (9:Int)=7 by omega),if_neg (show ¬ (9:Int)=8 by omega)])
  have hfine:MergeDiffOk:=(by
   rcases unhide HF with h|⟨h,hh⟩|⟨h,hh⟩|⟨h,hh⟩|⟨h,hh⟩|⟨h,hh⟩|⟨h,hh⟩
   all_goals (simp only at h;first|exact hh|omega))
  have HCALL:=hide (reading_any (f:=63) (s:=s) (hin:=run_enter Tryz.func63 (by kernel_rfl) rfl) (Q:=fun q p2 w1 A w2=>A=Sp.mdiffAns v.1 q∧Below w1.heap.size w1 w2) (unhide H0) (unhide HT) (fun q p2 w1 hb1 hab hrd htr=>by
   refine (hfine S _ d e n p v _ s q p2 w1 (unhide HCF) ((unhide H0).low hb1) ((unhide HD).bel hb1) ((unhide HT).below (hb1.mono (unhide HT).ng)) hrd htr).mono ?_
   rintro x w2 ⟨rfl,hb2⟩
   exact⟨_,rfl,hab.low hb2,rfl,hb2⟩))
  clear hfine
  go_enter Tryz.func44,Tryz.ntmps44
  go_wp2_with (fail)
  refine (unhide HCALL).mono ?_
  rintro x w1 hx
  obtain⟨A,rfl,hA,hb1,a1⟩:∃A:Sp.Ans,x = .returned (ansA A)∧A=Sp.stMergeDiff d e v s∧Below w.heap.size w w1∧AB w1 (w.heap.size+1):=by
   rcases hx with⟨c,hpos,hrd,rfl,hb1⟩|⟨q,p2,w2,A,w3,hrd,hb2,hs2,⟨rfl,hx⟩,rfl,hsb⟩
   ·exact⟨_,rfl,by unfold Sp.stMergeDiff;rw[hrd],(unhide HBA).trans (hb1.mono (by omega)),(unhide HA).low hb1⟩
   ·exact⟨_,rfl,by unfold Sp.stMergeDiff;rw[hrd],((unhide HBA).trans (hb2.mono (by omega))).trans (hsb.below (hx.mono (by omega)) (by omega)),(hsb.block _ (by omega)).trans ((hx.block _ (by omega)).trans ((hb2.block _ (by omega)).trans (unhide HA)))⟩
  have g0:=a1.c0
  have g1:=a1.c1
  have g2:=a1.c2
  have z:=a1.fz
  have HB:=hide hb1
  rw[← hA] at HE
  clear a1 hb1 HCALL hx hA
  unfold ansA
  go_wp2_with (fail)
  refine bodyPost_ret (v:=ansA A) (by simp[results,Tryz.results44,go_sem,ansA,g0,g1,g2]) rfl ?_
  rw[unhide HE]
  exact AmEnd.low (unhide HDD) ((SameBut.of3 (w.heap.size+1) w1 _ _ _).below (unhide HB) (by omega))
def StepEnd (S:Nat) (d e n:Int) (doc:Sp.Doc) (o:Sp.St) (F:Nat→Prop) (w:World) (x:Ending) (w':World):Prop :=
 x = .returned (ansA (Sp.step d e n doc o).1)∧KeptF (fun k=>F k∨k=S) w w' ∧ ∃p',SB w' S d e n p'∧DocF w' (fun k=>(F k∧k<w.heap.size)∨w.heap.size≤k) p' d e (Sp.step d e n doc o).2
theorem StepEnd.low {S:Nat} {d e n:Int} {doc:Sp.Doc} {o:Sp.St} {F:Nat→Prop} {w w':World} {a:Sp.Ans} {p:Value} (he:Sp.step d e n doc o=(a,doc)) (h:SB w S d e n p) (hd:DocF w F p d e doc) (hb:Below w.heap.size w w') :
  StepEnd S d e n doc o F w (.returned (ansA a)) w':=by
 unfold StepEnd
 rw[he]
 exact⟨rfl,KeptF.of_below hb,p,h.low hb,hd.move fun k h1 h2=>⟨hb.block k h2,Or.inl ⟨h1,h2⟩⟩⟩
theorem step_any {S:Nat} {d e n:Int} {p:Value} {doc:Sp.Doc} {w:World} {F:Nat→Prop} (k:Int) (s t:Sp.By) (hF:∀k,F k→NG≤k∧k≠S) (hf:Fine (k,s,t)) (h:SB w S d e n p) (hd:DocF w F p d e doc) (hT:Laid w) :
  Calls Tryz.prog 36 #[.pointer (some ⟨S,0,none⟩),.agg #[.int .i64 k,.string ⟨s.toArray⟩,.string ⟨t.toArray⟩]] w fun x w'=>StepEnd S d e n doc (k,s,t) F w x w':=by
 have HFN:=hide hf
 have HFF:=hide hF
 have hlt:=h.lt
 have hba:=askW_below w k s t
 have hTa:=hT.below (hba.mono hT.ng)
 have h0:=h.low hba
 have hd0:DocF (askW w k s t) (fun k=>F k∧k<w.heap.size) p d e doc:=hd.move fun k h1 h2=>⟨hba.block k h2,h1,h2⟩
 have a0:=askW_ab w k s t
 have o0:=askW_op w k s t
 have hsz:=askW_size w k s t
 have eW:(w.alloc (.cells #[.int .i64 k,.string ⟨s.toArray⟩,.string ⟨t.toArray⟩] 49)).alloc (.cells #[.int .i64 0,.int .i64 0,.string ⟨#[]⟩] 46)=askW w k s t:=rfl
 have c0:=h0.c0
 have c1:=h0.c1
 have c2:=h0.c2
 have HA:=hide a0
 have H0:=hide h0
 have HD:=hide hd0
 have HT:=hide hTa
 have HH:=hide h
 have HDD:=hide hd
 have HO:=hide o0
 have HBA:=hide hba
 clear h hd hT h0 hd0 hTa a0 o0 hf hF hba
 go_enter Tryz.func36,Tryz.ntmps36
 go_wp2_with (fail)
 refine (isConfig_any d e n _).mono ?_
 rintro x w1 ⟨rfl,hb1⟩
 replace hb1:Below (askW w k s t).heap.size (askW w k s t) w1:=hb1
 have h1:=(unhide H0).low hb1
 have d1:DocF w1 (fun k=>F k∧k<w.heap.size) p d e doc:=(unhide HD).bel hb1
 have a1:=(unhide HA).low hb1
 have T1:=(unhide HT).below (hb1.mono (unhide HT).ng)
 have o1:w1.heap[w.heap.size]? = _:=(hb1.block w.heap.size (by omega)).trans (unhide HO)
 have hb01:Below w.heap.size w w1:=(unhide HBA).trans (hb1.mono (by omega))
 have hs1:w.heap.size+2≤w1.heap.size:=by have:=hb1.size;omega
 have q0:w1.cell? ⟨w.heap.size,0,none⟩=some (.int .i64 k):=by simp[World.cell?,o1]
 have q1:w1.cell? ⟨w.heap.size,1,none⟩=some (.string ⟨s.toArray⟩):=by simp[World.cell?,o1]
 have q2:w1.cell? ⟨w.heap.size,2,none⟩=some (.string ⟨t.toArray⟩):=by simp[World.cell?,o1]
 have g0:=a1.c0
 have g1:=a1.c1
 have g2:=a1.c2
 have z:=a1.fz
 have c3:=h1.c3
 have H1:=hide h1
 have D1:=hide d1
 have A1:=hide a1
 have TT1:=hide T1
 have HB1:=hide hb01
 clear h1 d1 a1 T1 o1 hb1 hb01 H0 HD HA HT HO c0 c1 c2 hsz eW HBA
 cases hcfg:Sp.cfg d e n with
 | false =>
  have HE:=hide (show Sp.step d e n doc (k,s,t)=((2,0,[]),doc) by unfold Sp.step;rw[hcfg];rfl)
  clear hcfg
  simp only
  go_wp2_with (fail)
  refine (failed_any 2 _).mono ?_
  rintro x w2 ⟨rfl,hb2⟩
  have a2:=(unhide A1).low hb2
  clear g0 g1 g2 z q0 q1 q2
  have g0:=a2.c0
  have g1:=a2.c1
  have g2:=a2.c2
  have z:=a2.fz
  have HB2:=hide (show Below w.heap.size w w2 from (unhide HB1).trans (hb2.mono (by omega)))
  clear a2 hb2
  unfold ansV
  go_wp2_with (fail)
  refine bodyPost_ret (v:=ansV 2 []) (by simp[results,Tryz.results36,go_sem,ansV,g0,g1,g2]) rfl ?_
  exact StepEnd.low (unhide HE) (unhide HH) (unhide HDD) ((SameBut.of3 (w.heap.size+1) w2 _ _ _).below (unhide HB2) (by omega))
 | true =>
  by_cases k1:k<1
  ·have HE:=hide (show Sp.step d e n doc (k,s,t)=((1,0,[]),doc) by unfold Sp.step;rw[hcfg,if_pos rfl,if_pos (Or.inl k1)])
   have e1:decide (k<1)=true:=by simpa using k1
   clear hcfg k1 c3
   simp only
   go_wp2_with (fail)
   refine (failed_any 1 _).mono ?_
   rintro x w2 ⟨rfl,hb2⟩
   have a2:=(unhide A1).low hb2
   clear g0 g1 g2 z q0 q1 q2
   have g0:=a2.c0
   have g1:=a2.c1
   have g2:=a2.c2
   have z:=a2.fz
   have HB2:=hide (show Below w.heap.size w w2 from (unhide HB1).trans (hb2.mono (by omega)))
   clear a2 hb2
   unfold ansV
   go_wp2_with (fail)
   refine bodyPost_ret (v:=ansV 1 []) (by simp[results,Tryz.results36,go_sem,ansV,g0,g1,g2]) rfl ?_
   exact StepEnd.low (unhide HE) (unhide HH) (unhide HDD) ((SameBut.of3 (w.heap.size+1) w2 _ _ _).below (unhide HB2) (by omega))
  by_cases k9:9<k
  ·have HE:=hide (show Sp.step d e n doc (k,s,t)=((1,0,[]),doc) by unfold Sp.step;rw[hcfg,if_pos rfl,if_pos (Or.inr k9)])
   have e1:decide (k<1)=false:=by simpa using k1
   have e9:decide (9<k)=true:=by simpa using k9
   clear hcfg k1 k9 c3
   simp only
   go_wp2_with (fail)
   refine (failed_any 1 _).mono ?_
   rintro x w2 ⟨rfl,hb2⟩
   have a2:=(unhide A1).low hb2
   clear g0 g1 g2 z q0 q1 q2
   have g0:=a2.c0
   have g1:=a2.c1
   have g2:=a2.c2
   have z:=a2.fz
   have HB2:=hide (show Below w.heap.size w w2 from (unhide HB1).trans (hb2.mono (by omega)))
   clear a2 hb2
   unfold ansV
   go_wp2_with (fail)
   refine bodyPost_ret (v:=ansV 1 []) (by simp[results,Tryz.results36,go_sem,ansV,g0,g1,g2]) rfl ?_
   exact StepEnd.low (unhide HE) (unhide HH) (unhide HDD) ((SameBut.of3 (w.heap.size+1) w2 _ _ _).below (unhide HB2) (by omega))
  by_cases kl:k=1
  ·subst kl
   have HE:=hide (show Sp.step d e n doc (1,s,t)=Sp.ldd (Sp.readTo s d e) doc by unfold Sp.step;rw[hcfg,if_pos rfl,if_neg (by simp),if_pos rfl])
   clear hcfg k1 k9 c3
   simp only
   have HCALL:=hide (reading_any (f:=43) (s:=s) (hin:=run_enter Tryz.func43 (by kernel_rfl) rfl) (Q:=fun q p2 w1' A w2=>A=(0,0,[])∧KeptF (fun k=>k=S) w1' w2 ∧ ∃p',SB w2 S d e n p'∧DocF w2 (fun k=>w1.heap.size+1≤k) p' d e (some (q,none))) (unhide H1) (unhide TT1) (fun q p2 w1' hb1 hab hrd htr=>by
    refine (load_any ((unhide H1).low hb1) (show S<w1.heap.size+1 by omega) hab.lt htr hrd).mono ?_
    rintro x w2 ⟨rfl,hk,p',hsb,hdf⟩
    exact⟨_,rfl,(hk.block _ hab.lt (by omega)).trans hab,rfl,hk,p',hsb,hdf⟩))
   go_wp2_with (fail)
   refine (unhide HCALL).mono ?_
   rintro x w2 (⟨c,hpos,hrd,rfl,hb2⟩|⟨q,p2,w3,A,w4,hrd,hb2,hs2,⟨rfl,hk,p',hsb4,hdf⟩,rfl,hsb⟩)
   ·obtain⟨A,hA⟩:∃A:Sp.Ans,A=(c,0,[]):=⟨_,rfl⟩
    have HE2:=hide (show Sp.ldd (Sp.readTo s d e) doc=(A,doc) by rw[hrd,hA];rfl)
    rw[← hA]
    have a2:=(unhide A1).low hb2
    clear g0 g1 g2 z q0 q1 q2 hA hrd
    have g0:=a2.c0
    have g1:=a2.c1
    have g2:=a2.c2
    have z:=a2.fz
    have HB2:=hide (show Below w.heap.size w w2 from (unhide HB1).trans (hb2.mono (by omega)))
    clear a2 hb2 HCALL
    unfold ansA
    go_wp2_with (fail)
    refine bodyPost_ret (v:=ansA A) (by simp[results,Tryz.results36,go_sem,ansA,g0,g1,g2]) rfl ?_
    exact StepEnd.low ((unhide HE).trans (unhide HE2)) (unhide HH) (unhide HDD) ((SameBut.of3 (w.heap.size+1) w2 _ _ _).below (unhide HB2) (by omega))
   ·have HE2:=hide (show Sp.ldd (Sp.readTo s d e) doc=((0,0,[]),some (q,none)) by rw[hrd];rfl)
    have a2:AB w2 (w.heap.size+1):=(hsb.block _ (by omega)).trans ((hk.block _ (by omega) (by omega)).trans ((hb2.block _ (by omega)).trans (unhide A1)))
    clear g0 g1 g2 z q0 q1 q2 hrd
    have g0:=a2.c0
    have g1:=a2.c1
    have g2:=a2.c2
    have z:=a2.fz
    have HK:=hide ((KeptF.of_below (F:=fun k=>F k∨k=S) ((unhide HB1).trans (hb2.mono (by omega)))).trans hk fun j _ hj=>Or.inr hj)
    have HI:=hide (hsb.isIn (a:=w.heap.size) (b:=w1.heap.size+1) (by omega) (by omega))
    have HS4:=hide hsb4
    have HDF:=hide hdf
    clear a2 hb2 hk hsb hsb4 hdf HCALL
    unfold ansA
    go_wp2_with (fail)
    refine bodyPost_ret (v:=ansA (0,0,[])) (by simp[results,Tryz.results36,go_sem,ansA,g0,g1,g2]) rfl ?_
    have hi:=(unhide HI).trans ((SameBut.of3 (w.heap.size+1) w2 (.int .i64 ((0,0,[]):Sp.Ans).1) (.int .i64 ((0,0,[]):Sp.Ans).2.1) (.string ⟨((0,0,[]):Sp.Ans).2.2.toArray⟩)).isIn (a:=w.heap.size) (b:=w1.heap.size+1) (by omega) (by omega))
    unfold StepEnd
    rw[(unhide HE).trans (unhide HE2)]
    exact⟨rfl,hi.kept (unhide HK) (Nat.le_refl _),p',(hi.block S (by omega)).trans (unhide HS4),(unhide HDF).move fun j hj _=>⟨hi.block j (Or.inr hj),Or.inr (by omega)⟩⟩
  have e1:decide (k<1)=false:=by simpa using k1
  have e9:decide (9<k)=false:=by simpa using k9
  have el:(k == 1)=false:=by simpa using kl
  cases hdoc:doc with
  | none =>
   subst hdoc
   have HE:=hide (show Sp.step d e n none (k,s,t)=((3,0,[]),none) by unfold Sp.step;rw[hcfg,if_pos rfl,if_neg (by simp;omega),if_neg kl])
   obtain rfl:p = .pointer none:=unhide HDD
   clear hcfg k1 k9 kl
   simp only
   go_wp2_with (fail)
   refine (failed_any 3 _).mono ?_
   rintro x w2 ⟨rfl,hb2⟩
   have a2:=(unhide A1).low hb2
   clear g0 g1 g2 z q0 q1 q2
   have g0:=a2.c0
   have g1:=a2.c1
   have g2:=a2.c2
   have z:=a2.fz
   have HB2:=hide (show Below w.heap.size w w2 from (unhide HB1).trans (hb2.mono (by omega)))
   clear a2 hb2
   unfold ansV
   go_wp2_with (fail)
   refine bodyPost_ret (v:=ansV 3 []) (by simp[results,Tryz.results36,go_sem,ansV,g0,g1,g2]) rfl ?_
   exact StepEnd.low (unhide HE) (unhide HH) (unhide HDD) ((SameBut.of3 (w.heap.size+1) w2 _ _ _).below (unhide HB2) (by omega))
  | some v =>
   subst hdoc
   have HE:=hide (show Sp.step d e n (some v) (k,s,t)=((Sp.askR d e n v (k,s,t)).1,some (Sp.askR d e n v (k,s,t)).2) by
    unfold Sp.step;rw[hcfg,if_pos rfl,if_neg (by simp;omega),if_neg kl]
    unfold Sp.askR
    by_cases h5:k<5
    ·simp only;rw[if_pos h5,if_pos h5]
    ·simp only;rw[if_neg h5,if_neg h5])
   have HCALL:=hide (ask_any s t hcfg k1 k9 kl (fun j hj=>unhide HFF j hj.1) (unhide HFN) (unhide H1) (unhide D1) (unhide TT1))
   have hD:=unhide HDD
   obtain⟨D,R,wp,rfl,_⟩:=hD
   obtain⟨A,hA⟩:∃A,A=Sp.askR d e n v (k,s,t):=⟨_,rfl⟩
   rw[← hA] at HE HCALL
   clear hcfg k1 k9 kl
   simp only
   go_wp2_with (fail)
   refine (unhide HCALL).mono ?_
   rintro x w2 hx
   have hx1:=hx.1
   subst hx1
   have a2:AB w2 (w.heap.size+1):=(hx.2.1.block _ (by omega) (fun h=>by omega)).trans (unhide A1)
   have s2:SB w2 S d e n (.pointer (some ⟨D,0,none⟩)):=(hx.2.1.block S (by omega) (fun h=>(unhide HFF S h.1).2 rfl)).trans (unhide H1)
   clear g0 g1 g2 z q0 q1 q2 hA
   have g0:=a2.c0
   have g1:=a2.c1
   have g2:=a2.c2
   have z:=a2.fz
   have HX:=hide hx
   have HS2:=hide s2
   clear a2 hx s2 HCALL
   unfold ansA
   go_wp2_with (fail)
   refine bodyPost_ret (v:=ansA A.1) (by simp[results,Tryz.results36,go_sem,ansA,g0,g1,g2]) rfl ?_
   have hi:=(SameBut.of3 (w.heap.size+1) w2 (.int .i64 A.1.1) (.int .i64 A.1.2.1) (.string ⟨A.1.2.2.toArray⟩)).isIn (a:=w.heap.size) (b:=w1.heap.size) (by omega) (by omega)
   obtain⟨_,r1,r2⟩:=am_lift (F:=F) (unhide HB1) (unhide HX) hi
   unfold StepEnd
   rw[unhide HE]
   exact⟨rfl,r1.mono fun j hj=>Or.inl hj,_,(hi.block S (by omega)).trans (unhide HS2),r2⟩
end

section
set_option maxHeartbeats 2000000
open Go.RowKit Go.Maps
section
variable {w:World} {D k:Nat} {pa fa y wp:Option Addr} {pl pc fl fc:Nat}
theorem dIsLong_any {s:Sp.By} (hs:s.length≤8796093022208) (hW:∀w1,Below w.heap.size w w1→Calls Tryz.prog 56 #[.pointer (some ⟨D,0,none⟩)] w1 fun x w'=>x = .returned (.pointer wp)∧Below w1.heap.size w1 w')
  (hC:∀w1,Below w.heap.size w w1→Calls Tryz.prog 55 #[.pointer wp] w1 fun x w'=>x = .returned (.string ⟨s.toArray⟩)∧Below w1.heap.size w1 w') :
  Calls Tryz.prog 121 #[.pointer (some ⟨D,0,none⟩)] w fun e w'=>e = .returned (.bool (decide (20000<s.length)))∧Below w.heap.size w w':=by
 have HW:=hide hW
 have HC:=hide hC
 obtain⟨n,hn⟩:∃n:Nat,n=s.length:=⟨_,rfl⟩
 have h1:decide ((20000:Int)<(n:Int))=decide (20000<n):=decide_eq_decide.2 (by omega)
 clear hW hC
 go_enter Tryz.func121,Tryz.ntmps121
 go_wp2_with (fail)
 refine (unhide HW w (Below.refl _ _)).mono ?_
 rintro e w1 ⟨rfl,hb1⟩
 have HB1:=hide hb1
 clear hb1
 go_wp2_with (fail)
 refine (unhide HC w1 (unhide HB1)).mono ?_
 rintro e w2 ⟨rfl,hb2⟩
 have HB2:=hide ((unhide HB1).trans (hb2.mono (unhide HB1).size))
 clear hb2
 go_wp2_with (fail)
 go_ret
 refine⟨?_,unhide HB2⟩
 simp
 omega
end
section
variable {w:World} {D R:Nat} {wp:Option Addr} {jn iv:Value} {ch:Bool} {Tb T a:Sp.A} {Mb M:Nat→Prop} {wb:World} {v xv:Sp.V} {js:List Sp.Opn} {y:Option Addr} {F:Nat→Prop} {d x:Int} {B:Nat}
 {k:Nat} {pa fa:Option Addr} {pl pc fl fc:Nat} {p q:List Sp.By}
theorem isLong_doc (h:JS w D R wp jn iv ch Tb Mb wb T a v M js) (hT:Laid w) (hv:Sp.Fit d x B v) (hB:B≤900000000) :
  Calls Tryz.prog 121 #[.pointer (some ⟨D,0,none⟩)] w fun e w'=>e = .returned (.bool (decide (20000<(Sp.can top v).length)))∧Below w.heap.size w w':=by
 have hc:=(Sp.can_sz hv.gd).1
 have hsz:=hv.sz
 have hrep:Rep top (fun _=>True) w (.pointer wp) v:=by
  rw[← h.t.str]
  exact h.t.sub.rep fun _ _=>trivial
 exact dIsLong_any (by omega) (fun w1 hb1=>WholeT (h.bel hb1).t) fun w1 hb1=>Canonical_any (hrep.bel hb1) (hT.bel hb1) (by omega)
end
end

section
open Go.RowKit
def Two (B:Nat) (W W':World):Prop:=W'.heap[B]? = W.heap[B]? ∧ W'.heap[B+1]? = W.heap[B+1]?
def Apart2 (B:Nat) (I:World→Prop):Prop:=∀W W':World,I W→W'.os=W.os→W'.tape=W.tape→W'.output=W.output→W.heap.size≤W'.heap.size→(∀j,j<W.heap.size→j≠B→j≠B+1→W'.heap[j]? = W.heap[j]?)→I W'
theorem Apart2.put {B l:Nat} {I:World→Prop} (h:Apart2 B I) {W:World} (hi:I W) (hl:l=B∨l=B+1) (o:Obj):I (W.putObj l o) :=
 h W _ hi rfl rfl rfl (by simp[World.putObj]) fun j _ h1 h2=>World.putObj_heap_other (by omega)
theorem range_turns {P:Program} {g:Operand} {ps:Array Tmp} {assign body:Code} {Q:Exit→Act→World→Prop} {a:Act} {w:World} {gf:Nat} {lb:Array Value}
  (hg:a.eval g = .func (.func gf) #[] lb) (eg:∀args w,(callFunc gf args).run P w = .ok (.enter gf args) w) (N:Nat) (arg:Nat→Array Value) (hps:∀k,(arg k).size=ps.size) (I:Nat→World→Prop) (A:Nat→Act→World→Prop)
  (hI:∀k,Apart2 w.heap.size (I k)) (hA:∀k a',Apart2 w.heap.size (A k a')) (h0:I 0 w)
  (hiter:∀ (l:Nat) (J:Nat→World→Prop) (W:World),(∀k W,J k W→I k W)→(∀k W,k<N→J k W→YieldAt Fence.wide 0 P l (arg k) W fun e W'=>e = .returned (.bool true)∧J (k+1) W')→J 0 W →
   CallsIn Fence.wide 0 P gf (#[.func (.yield l) #[] #[]]++lb) W fun e W'=>(∃v,e = .returned v)∧J N W')
  (hassign:∀l k W,k<N→I k W→w.heap.size+1<W.heap.size→assign.wpIn (Fence.wide.inRound l) 0 P (fun e a' W'=>e = .normal∧Two w.heap.size W W'∧A k a' W') { tmps:=(ps.zip (arg k)).foldl (fun t (p,v)=>t.setIfInBounds p v) a.tmps,defers:=[] } W)
  (hbody:∀l k a' W,k<N→A k a' W→w.heap.size+1<W.heap.size→(l=w.heap.size+1 ∧ ∃r,W.heap[l]? = some (.loop r))→body.wpIn (Fence.wide.inRound l) 0 P (fun e _ W'=>e = .normal∧Two w.heap.size W W'∧I (k+1) W') a' W)
  (hdone:∀W,I N W→W.heap[w.heap.size]? = some (.deferred (some []))→Q .normal { a with defers:={ target:=.collected w.heap.size,args:=#[] }::a.defers } W) :
  (Code.rangeFunc g ps assign body).wpIn Fence.wide 0 P Q a w:=by
 refine wpIn_rangeFunc fun fn hfn=>?_
 obtain⟨B,hB⟩:∃B,B=w.heap.size:=⟨_,rfl⟩
 obtain⟨rc,hrc⟩:∃rc:LoopState→Loop,rc=fun st=>{ state:=st,pending:=none,fn,tmps:=a.tmps,params:=ps,assign,body,defers:=B }:=⟨_,rfl⟩
 have two:∀o o':Obj,((w.alloc o).alloc o').heap[B]? = some o∧((w.alloc o).alloc o').heap[B+1]? = some o' ∧ ∀j,j<B→((w.alloc o).alloc o').heap[j]? = w.heap[j]?:=fun o o'=>by
  have e1:=World.alloc_heap_new w o
  have e2:=World.alloc_heap_new (w.alloc o) o'
  rw[World.size_alloc,← hB] at e2
  rw[← hB] at e1
  refine⟨(Below.heap_alloc (w.alloc o) o' B (by simp;omega)).trans e1,e2,fun j hj=>?_⟩
  exact (Below.heap_alloc (w.alloc o) o' j (by simp;omega)).trans (Below.heap_alloc w o j (by omega))
 obtain⟨W1,hW1⟩:∃W1,W1=(w.alloc (.deferred (some []))).alloc (.loop (rc .ready)):=⟨_,rfl⟩
 have t1:W1.heap[B]? = some (.deferred (some []))∧W1.heap[B+1]? = some (.loop (rc .ready)):=by rw[hW1];exact⟨(two _ _).1,(two _ _).2.1⟩
 have i1:I 0 W1:=by
  refine hI 0 w W1 h0 (by rw[hW1];rfl) (by rw[hW1];rfl) (by rw[hW1];rfl) (by rw[hW1];simp;omega) fun j hj _ _=>?_
  rw[hW1];exact (two _ _).2.2 j (by omega)
 rw[← hB] at hI hA hassign hbody hdone
 refine⟨B+1,[{ target:=.collected B,args:=#[] }],W1,{ target:=.fn (.func gf) lb,args:=#[.func (.yield (B+1)) #[] #[]] },W1,gf,#[.func (.yield (B+1)) #[] #[]]++lb,W1,?_,?_,?_,?_,?_,?_⟩
 ·rw[hW1,hrc,hB];exact run_enterLoop_outer _ _ _ _ _
 ·simp only[resolve,hg]
  simp[go_sem]
 ·intro f' _;exact trivial
 ·simp[invoke,go_sem,eg]
 ·intro h;cases h
 ·refine (hiter (B+1) (fun k W=>I k W∧W.heap[B]? = some (.deferred (some []))∧W.heap[B+1]? = some (.loop (rc .ready))) W1 (fun k W h=>h.1) ?_ ⟨i1,t1⟩).mono ?_
  ·rintro k W hk ⟨hi,hd,hl⟩
   have hy:=run_yield (P:=P) (args:=arg k) hl (by rw[hrc];exact hps k)
   rw[hrc] at hy
   refine⟨fn,_,assign,body,hy,roundIn_of_wpIn hfn (wpIn_mono (hassign (B+1) k W hk hi (Array.getElem?_eq_some_iff.1 hl).1) ?_)⟩
   rintro e a' Wa ⟨rfl,hta,ha⟩
   have hla:=hta.2.trans hl
   have hlt:=(Array.getElem?_eq_some_iff.1 hla).1
   refine⟨_,run_beginRound hla (by rw[hrc]),wpIn_mono (hbody (B+1) k a' _ hk ((hA k a').put ha (Or.inr rfl) _) (by simp[World.putObj];omega) ⟨by omega,_,World.putObj_heap_same hlt⟩) ?_⟩
   rintro e a3 W3 ⟨rfl,ht3,hi3⟩
   have l3:W3.heap[B+1]? = some (.loop { rc .ready with state:=.busy }):=ht3.2.trans (World.putObj_heap_same hlt)
   have d3:W3.heap[B]? = some (.deferred (some [])):=ht3.1.trans ((World.putObj_heap_other (by omega)).trans (hta.1.trans hd))
   have hr:=run_endRound (P:=P) none l3
   refine⟨_,_,hr,rfl,(hI (k+1)).put hi3 (Or.inr rfl) _,(World.putObj_heap_other (by omega)).trans d3,?_⟩
   refine (World.putObj_heap_same (Array.getElem?_eq_some_iff.1 l3).1).trans ?_
   rw[hrc];rfl
  ·rintro e W2 ⟨⟨v,rfl⟩,hi,hd,hl⟩
   have hend:=run_endLoop (P:=P) hl (by rw[hrc];simp)
   refine⟨none,_,by rw[hend,hrc],hdone _ ((hI N).put hi (Or.inr rfl) _) ((World.putObj_heap_other (by omega)).trans hd)⟩
end
end Go.Proofs.YtdpomdelmdofmaaGreatDoor
