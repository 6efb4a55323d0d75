import Derived.Test.YtdpomdelmdofmaaGreatDoorUnd22
import Derived.RangeFuncNested
import Derived.RangeFuncBound
import Derived.RangeFuncCalls
import Derived.RangeFuncLeaves
import Derived.Shelf.Abstract
import Derived.Shelf.RegionOpen
import Derived.OwnWalkIn
import Derived.TacticsInMore
import Derived.LoopNIn
import Derived.LoopIn
namespace Go.Proofs.YtdpomdelmdofmaaGreatDoor
open Go.Proofs.Tryz
section
set_option maxRecDepth 100000
set_option maxHeartbeats 8000000
open Go.RowKit
structure AH(r:Nat)(w w':World):Prop where
 os:w'.os=w.os
 tape:w'.tape=w.tape
 output:w'.output=w.output
 size:w'.heap.size=w.heap.size
 block:∀k,k≠r->w'.heap[k]? = w.heap[k]?
theorem AH.of3(r:Nat)(w:World)(a b c:Value):AH r w (((w.setCell ⟨r,0,none⟩ a).setCell ⟨r,1,none⟩ b).setCell ⟨r,2,none⟩ c) :=
 ⟨rfl,rfl,rfl,by simp[World.setCell],fun k hk=>(Below.heap_setCell _ _ _ _ hk).trans ((Below.heap_setCell _ _ _ _ hk).trans (Below.heap_setCell _ _ _ _ hk))⟩
theorem AH.below{r B:Nat}{a w w':World}(h:AH r w w')(hb:Below B a w)(hr:B<=r):Below B a w' :=
 ⟨h.os.trans hb.os,h.tape.trans hb.tape,h.output.trans hb.output,by rw[h.size];exact hb.size,fun k hk=>(h.block k (by omega)).trans (hb.block k hk)⟩
theorem AH.kept{r:Nat}{F:Nat->Prop}{a w w':World}(h:AH r w w')(hb:As F a w)(hr:a.heap.size<=r):As F a w' :=
 ⟨h.os.trans hb.os,h.tape.trans hb.tape,h.output.trans hb.output,by rw[h.size];exact hb.size,fun k hk hx=>(h.block k (by omega)).trans (hb.block k hk hx)⟩
theorem Cf{f:FuncId}{fn:Func}{c:Code}(hf:Tryz.prog.funcs[f]? = some fn)(hname:(fn.name == "runtime.NumGoroutine")=false)(hb:fn.body=some c)(args:Array Value)(w:World) :
  (callFunc f args).run Tryz.prog w = .ok (.enter f args) w:=by
 have h1:¬ fn.name = "runtime.NumGoroutine" := by simpa using hname
 simp[callFunc,hf,h1,hb]
theorem EI{S f:Nat}{d e n:Int}{p:Value}{w:World}{s:Sp.By}{Q:Sp.V->Option Addr->World->Sp.Ans->World->Prop}(hin:∀args w,(callFunc f args).run Tryz.prog w = .ok (.enter f args) w)(h:SB w S d e n p)(hT:Af w)
  (hcall:∀v p2 w1,Below w.heap.size w w1->AB w1 w.heap.size->Sp.readTo s d e=(0,some v)->Tr top (w.heap.size+1) w1 (.pointer p2) v ->
   Calls Tryz.prog f #[.pointer (some ⟨S,0,none⟩),.pointer p2] w1 fun x w2=>∃A:Sp.Ans,x = .returned (Ap A)/\AB w2 w.heap.size/\Q v p2 w1 A w2) :
  Calls Tryz.prog 42 #[.pointer (some ⟨S,0,none⟩),.string ⟨s.toArray⟩,.func (.func f) #[.pointer (some ⟨S,0,none⟩)] #[]] w fun x w' =>
   (∃c,0<c/\Sp.readTo s d e=(c,none)/\x = .returned (Ap (c,0,[]))/\Below w.heap.size w w') \/
   (∃v p2 w1 A w2,Sp.readTo s d e=(0,some v)/\Below w.heap.size w w1/\w.heap.size<w1.heap.size/\Q v p2 w1 A w2/\x = .returned (Ap A)/\AH w.heap.size w2 w'):=by
 have hba:Below w.heap.size w (w.alloc (.cells #[.int .i64 0,.int .i64 0,.string ⟨#[]⟩] 46)):=(Below.refl _ _).alloc (Nat.le_refl _) _;have hTa:=hT.below (hba.mono hT.ng);have HS:=Ab (h.low hba);have HT:=Ab hTa;have HAB:=Ab (AB.new w);have HBA:=Ab hba;have hsz:(w.alloc (.cells #[.int .i64 0,.int .i64 0,.string ⟨#[]⟩] 46)).heap.size=w.heap.size+1:=by simp
 have HC:=Ab hcall;have HIN:=Ab hin;clear hT h hTa hba hcall hin
 go_enter func42,ntmps42
 go_wp2_with (fail);generalize w.alloc (.cells #[.int .i64 0,.int .i64 0,.string ⟨#[]⟩] 46)=wa at *
 refine (Mw s (Aa HS) (Aa HT)).mono ?_;rintro x w1 ⟨p2,c,rfl,hb1,hc⟩;have a1:=(Aa HAB).low hb1;have HB1:=Ab ((Aa HBA).trans (hb1.mono (by omega)));have hs1:=hb1.size;rcases hc with⟨hpos,hrd⟩|⟨rfl,v,hrd,hrep⟩
 ·have HRD:=Ab hrd;have e0:((c:Int) != 0)=true:=by simp;omega
  have A1:=Ab a1;clear hrd a1 hb1
  go_wp2_with (fail);refine (Bv c w1).mono ?_
  rintro x w3 ⟨rfl,hb3⟩;have a3:=(Aa A1).low hb3;have g0:=a3.c0;have g1:=a3.c1;have g2:=a3.c2;have z:=a3.fz;have HB3:=Ab ((Aa HB1).trans (hb3.mono (by omega)));clear a3 hb3;unfold A8
  go_wp2_with (fail);refine bodyPost_ret (v:=Ap (c,0,[])) (by simp[results,results42,go_sem,Ap,g0,g1,g2]) rfl ?_
  exact Or.inl ⟨c,hpos,Aa HRD,rfl,(AH.of3 w.heap.size w3 _ _ _).below (Aa HB3) (Nat.le_refl _)⟩
 ·have HCC:=Ab (Aa HC v p2 w1 (Aa HB1) a1 hrd (by rw[<- hsz];exact hrep));have HRD:=Ab hrd;clear hrd a1 hb1 hrep HC
  go_wp2_with (fail);rw[Aa HIN,Oper.upon_enter]
  refine (Aa HCC).mono ?_;rintro x w2 ⟨A,rfl,a2,hq⟩;have g0:=a2.c0;have g1:=a2.c1;have g2:=a2.c2;have z:=a2.fz;have HQ:=Ab hq;clear a2 hq HCC;unfold Ap
  go_wp2_with (fail);refine bodyPost_ret (v:=Ap A) (by simp[results,results42,go_sem,Ap,g0,g1,g2]) rfl ?_
  exact Or.inr ⟨v,p2,w1,A,w2,Aa HRD,Aa HB1,by omega,Aa HQ,rfl,AH.of3 _ _ _ _ _⟩
def Mg:Prop:=∀ (S:Nat) (d e n:Int) (p:Value) (v:Sp.V×Sp.Inv) (F:Nat->Prop) (s:Sp.By) (w:World),s.length<=1048576->SB w S d e n p->Bn w F p d e (some v)->Af w ->
 Calls Tryz.prog 57 #[.pointer (some ⟨S,0,none⟩),.string ⟨s.toArray⟩] w fun x w'=>x = .returned (Ap (Sp.gotA v.1 s))/\Below w.heap.size w w'
def Kn:Prop:=∀ (S:Nat) (d e n:Int) (p:Value) (v:Sp.V×Sp.Inv) (F:Nat->Prop) (s t:Sp.By) (w:World),s.length<=1048576->SB w S d e n p->Bn w F p d e (some v)->Af w ->
 Calls Tryz.prog 58 #[.pointer (some ⟨S,0,none⟩),.string ⟨s.toArray⟩,.string ⟨t.toArray⟩] w fun x w'=>x = .returned (Ap (Sp.tst d e v.1 s t,0,[]))/\Below w.heap.size w w'
def Ct(F:Nat->Prop)(p:Value)(d e:Int)(r:Sp.Ans×(Sp.V×Sp.Inv))(w:World)(x:Ending)(w':World):Prop :=
 x = .returned (Ap r.1)/\As F w w'/\Bn w' (fun k=>(F k/\k<w.heap.size)\/w.heap.size<=k) p d e (some r.2)
theorem Ct.low{F:Nat->Prop}{p:Value}{d e:Int}{A:Sp.Ans}{v:Sp.V×Sp.Inv}{w w':World}(hd:Bn w F p d e (some v))(hb:Below w.heap.size w w'):Ct F p d e (A,v) w (.returned (Ap A)) w' :=
 ⟨rfl,As.of_below hb,hd.move fun k h1 h2=>⟨hb.block k h2,Or.inl ⟨h1,h2⟩⟩⟩
def KO:Prop:=∀ (S:Nat) (d e n:Int) (p:Value) (v:Sp.V×Sp.Inv) (F:Nat->Prop) (s:Sp.By) (w:World),Sp.cfg d e n=true->(∀k,F k->NG<=k/\k≠S)->SB w S d e n p->Bn w F p d e (some v)->Af w ->
 Calls Tryz.prog 59 #[.pointer (some ⟨S,0,none⟩),.string ⟨s.toArray⟩] w (Ct F p d e (Sp.stPatch d e v s) w)
def JC:Prop:=∀ (S:Nat) (d e n:Int) (p:Value) (v:Sp.V×Sp.Inv) (F:Nat->Prop) (w:World),SB w S d e n p->Bn w F p d e (some v)->Af w ->
 Calls Tryz.prog 61 #[.pointer (some ⟨S,0,none⟩)] w fun x w'=>x = .returned (Ap (Sp.stInvert v))/\Below w.heap.size w w'
def KR:Prop:=∀ (S lo:Nat) (d e n:Int) (p:Value) (v:Sp.V×Sp.Inv) (F:Nat->Prop) (s:Sp.By) (q:Sp.V) (p2:Option Addr) (w:World),Sp.cfg d e n=true->(∀k,F k->NG<=k/\k≠S/\k<lo)->SB w S d e n p->Bn w F p d e (some v)->Af w ->
 Sp.readTo s d e=(0,some q)->Tr top lo w (.pointer p2) q->Calls Tryz.prog 60 #[.pointer (some ⟨S,0,none⟩),.pointer p2] w (Ct F p d e (Sp.mergeA v q) w)
def SW:Prop:=∀ (S lo:Nat) (d e n:Int) (p:Value) (v:Sp.V×Sp.Inv) (F:Nat->Prop) (s:Sp.By) (q:Sp.V) (p2:Option Addr) (w:World),Sp.cfg d e n=true->SB w S d e n p->Bn w F p d e (some v)->Af w ->
 Sp.readTo s d e=(0,some q)->Tr top lo w (.pointer p2) q->Calls Tryz.prog 62 #[.pointer (some ⟨S,0,none⟩),.pointer p2] w fun x w'=>x = .returned (Ap (Sp.diffAns n v.1 q))/\Below w.heap.size w w'
def IW:Prop:=∀ (S lo:Nat) (d e n:Int) (p:Value) (v:Sp.V×Sp.Inv) (F:Nat->Prop) (s:Sp.By) (q:Sp.V) (p2:Option Addr) (w:World),Sp.cfg d e n=true->SB w S d e n p->Bn w F p d e (some v)->Af w ->
 Sp.readTo s d e=(0,some q)->Tr top lo w (.pointer p2) q->Calls Tryz.prog 63 #[.pointer (some ⟨S,0,none⟩),.pointer p2] w fun x w'=>x = .returned (Ap (Sp.mdiffAns v.1 q))/\Below w.heap.size w w'
def NS(o:Sp.St):Prop:=(o.1<3\/9<o.1)\/((o.1=3\/o.1=4)/\Mg/\Kn/\o.2.1.length<=1048576)\/(o.1=5/\KO)\/(o.1=6/\KR)\/(o.1=7/\JC)\/(o.1=8/\SW)\/(o.1=9/\IW)
noncomputable def Sp.askR(d e n:Int)(v:Sp.V×Sp.Inv)(o:Sp.St):Sp.Ans×(Sp.V×Sp.Inv):=if o.1<5 then (Sp.ask d e v.1 o,v) else Sp.amend d e n v o
theorem Bn.bel{w w':World}{F:Nat->Prop}{p:Value}{d e:Int}{doc:Sp.Doc}(h:Bn w F p d e doc)(hb:Below w.heap.size w w'):Bn w' F p d e doc:=h.move fun k h1 h2=>⟨hb.block k h2,h1⟩
theorem En.bel{w w':World}{F:Nat->Prop}{D R:Nat}{wp:Value}{d e:Int}{v:Sp.V×Sp.Inv}(h:En w F D R wp d e v)(hb:Below w.heap.size w w'):En w' F D R wp d e v:=h.move fun k h1 h2=>⟨hb.block k h2,h1⟩
def Ej(w:World)(k:Int)(s t:Sp.By):World:=(w.alloc (.cells #[.int .i64 k,.string ⟨s.toArray⟩,.string ⟨t.toArray⟩] 49)).alloc (.cells #[.int .i64 0,.int .i64 0,.string ⟨#[]⟩] 46)
theorem Kk(w:World)(k:Int)(s t:Sp.By):Below w.heap.size w (Ej w k s t):=((Below.refl _ _).alloc (Nat.le_refl _) _).alloc (by simp) _
theorem LP(w:World)(k:Int)(s t:Sp.By):(Ej w k s t).heap.size=w.heap.size+2:=by simp[Ej]
theorem Pn(w:World)(k:Int)(s t:Sp.By):AB (Ej w k s t) (w.heap.size+1):=by
 have:=AB.new (w.alloc (.cells #[.int .i64 k,.string ⟨s.toArray⟩,.string ⟨t.toArray⟩] 49));rw[show (w.alloc (.cells #[.int .i64 k,.string ⟨s.toArray⟩,.string ⟨t.toArray⟩] 49)).heap.size=w.heap.size+1 by simp] at this;exact this
theorem Pm(w:World)(k:Int)(s t:Sp.By):(Ej w k s t).heap[w.heap.size]? = some (.cells #[.int .i64 k,.string ⟨s.toArray⟩,.string ⟨t.toArray⟩] 49 (0,0)):=by
 show ((w.heap.push _).push _)[w.heap.size]? = _;simp[Array.getElem?_push]
structure E4(a b:Nat)(w w':World):Prop where
 os:w'.os=w.os
 tape:w'.tape=w.tape
 output:w'.output=w.output
 size:w'.heap.size=w.heap.size
 block:∀k,(k<a\/b<=k)->w'.heap[k]? = w.heap[k]?
theorem AH.isIn{r a b:Nat}{w w':World}(h:AH r w w')(h1:a<=r)(h2:r<b):E4 a b w w':=⟨h.os,h.tape,h.output,h.size,fun k hk=>h.block k (by omega)⟩
theorem E4.trans{a b:Nat}{w w' w'':World}(h:E4 a b w w')(h':E4 a b w' w''):E4 a b w w'' :=
 ⟨h'.os.trans h.os,h'.tape.trans h.tape,h'.output.trans h.output,h'.size.trans h.size,fun k hk=>(h'.block k hk).trans (h.block k hk)⟩
theorem E4.kept{a b:Nat}{F:Nat->Prop}{w0 w w':World}(h:E4 a b w w')(hb:As F w0 w)(hr:w0.heap.size<=a):As F w0 w' :=
 ⟨h.os.trans hb.os,h.tape.trans hb.tape,h.output.trans hb.output,by rw[h.size];exact hb.size,fun k hk hx=>(h.block k (by omega)).trans (hb.block k hk hx)⟩
theorem KL{F:Nat->Prop}{p:Value}{d e:Int}{r:Sp.Ans×(Sp.V×Sp.Inv)}{w w1 w2 w3:World}(hb:Below w.heap.size w w1)(h:Ct (fun k=>F k/\k<w.heap.size) p d e r w1 (.returned (Ap r.1)) w2)(hs:E4 w.heap.size w1.heap.size w2 w3):Ct F p d e r w (.returned (Ap r.1)) w3:=by
 obtain⟨_,h1,h2⟩:=h;refine⟨rfl,?_,h2.move fun k hk _=>⟨hs.block k ?_,?_⟩⟩
 ·exact hs.kept ((As.of_below (F:=F) hb).trans h1 fun k _ h=>h.1) (Nat.le_refl _)
 ·rcases hk with⟨hk,_⟩|hk
  ·omega
  ·omega
 ·rcases hk with⟨hk,_⟩|hk
  ·exact Or.inl hk
  ·exact Or.inr (by have:=hb.size;omega)
theorem WR{S:Nat}{d e n k:Int}{p:Value}{v:Sp.V×Sp.Inv}{w:World}{F:Nat->Prop}(s t:Sp.By)(hcfg:Sp.cfg d e n=true)(hk0:¬ k<1)(hk9:¬ 9<k)(hk1:k≠1)(hF:∀k,F k->NG<=k/\k≠S)(hf:NS (k,s,t))(h:SB w S d e n p)(hd:Bn w F p d e (some v))(hT:Af w) :
  Calls Tryz.prog 44 #[.pointer (some ⟨S,0,none⟩),.agg #[.int .i64 k,.string ⟨s.toArray⟩,.string ⟨t.toArray⟩]] w (Ct F p d e (Sp.askR d e n v (k,s,t)) w):=by
 have hlt:=h.lt;have hba:=Kk w k s t;have hTa:=hT.below (hba.mono hT.ng);have h0:=h.low hba;have hd0:Bn (Ej w k s t) (fun k=>F k/\k<w.heap.size) p d e (some v):=hd.move fun k h1 h2=>⟨hba.block k h2,h1,h2⟩
 have a0:=Pn w k s t;have o0:=Pm w k s t;have hsz:=LP w k s t;have hF0:∀j,(F j/\j<w.heap.size)->NG<=j/\j≠S:=fun j hj=>hF j hj.1;have c3:=h0.c3;have q0:(Ej w k s t).cell? ⟨w.heap.size,0,none⟩=some (.int .i64 k):=by simp[World.cell?,o0]
 have q1:(Ej w k s t).cell? ⟨w.heap.size,1,none⟩=some (.string ⟨s.toArray⟩):=by simp[World.cell?,o0]
 have q2:(Ej w k s t).cell? ⟨w.heap.size,2,none⟩=some (.string ⟨t.toArray⟩):=by simp[World.cell?,o0]
 have eW:(w.alloc (.cells #[.int .i64 k,.string ⟨s.toArray⟩,.string ⟨t.toArray⟩] 49)).alloc (.cells #[.int .i64 0,.int .i64 0,.string ⟨#[]⟩] 46)=Ej w k s t:=rfl;have HA:=Ab a0;have HT:=Ab hTa;have H0:=Ab h0;have HD:=Ab hd0;have HDD:=Ab hd;have HF:=Ab hf;have HF0:=Ab hF0;have HBA:=Ab hba;have HCF:=Ab hcfg;clear h hd hT h0 hTa a0 hf o0 hF hF0 hba hcfg;by_cases hk:k=2
 ·have HE:=Ab (show Sp.askR d e n v (k,s,t)=((0,0,Sp.can top v.1),v) by unfold Sp.askR;rw[if_pos (show k<5 by omega)];unfold Sp.ask;rw[if_pos hk]);have HDW:=HD;obtain⟨D,R,wp,rfl,hdw⟩:=Aa HD;have HDW:=Ab hdw;obtain⟨A,hA⟩:∃A:Sp.Ans,A=(0,0,Sp.can top v.1):=⟨_,rfl⟩
  clear hdw;subst hk
  go_enter func44,ntmps44
  go_wp2_with (fail);refine (Ib (Aa HDW)).mono ?_
  rintro x w0 ⟨rfl,hb0⟩;have hr1:=((Aa HDW).bel hb0).rep;have HCAN:=Ab (DR hr1 ((Aa HT).below (hb0.mono (Aa HT).ng)) (Nat.le_trans (Aa HDW).len (by omega)));have HB0:=Ab hb0;clear hb0 hr1
  go_wp2_with (fail);refine (Aa HCAN).mono ?_
  rintro x w1 ⟨rfl,hb1⟩;replace hb1:=(Aa HB0).trans (hb1.mono (Aa HB0).size);have a1:=(Aa HA).low hb1;have g0:=a1.c0;have g1:=a1.c1;have g2:=a1.c2;have z:=a1.fz;have HB:=Ab (show Below w.heap.size w w1 from (Aa HBA).trans (hb1.mono (by omega)));clear a1 hb1
  go_wp2_with (fail);refine bodyPost_ret (v:=Ap (0,0,Sp.can top v.1)) (by simp[results,results44,go_sem,Ap,g0,g1,g2]) rfl ?_
  rw[Aa HE];exact Ct.low (Aa HDD) ((AH.of3 (w.heap.size+1) w1 _ _ _).below (Aa HB) (by omega))
 by_cases hk:k=3
 ·have HE:=Ab (show Sp.askR d e n v (k,s,t)=(Sp.gotA v.1 s,v) by unfold Sp.askR;rw[if_pos (show k<5 by omega)];unfold Sp.ask;rw[if_neg (show ¬ k=2 by omega),if_pos hk]);have hfine:Mg/\Kn/\s.length<=1048576:=(by
   rcases Aa HF with h|⟨h,hh⟩|⟨h,hh⟩|⟨h,hh⟩|⟨h,hh⟩|⟨h,hh⟩|⟨h,hh⟩
   all_goals (simp only at h;first|exact hh|omega))
  have HCALL:=Ab (hfine.1 S d e n _ v _ s _ hfine.2.2 (Aa H0) (Aa HD) (Aa HT));obtain⟨A,hA⟩:∃A,A=Sp.gotA v.1 s:=⟨_,rfl⟩
  rw[<- hA] at HE HCALL;clear hA hfine;subst hk
  go_enter func44,ntmps44
  go_wp2_with (fail);refine (Aa HCALL).mono ?_
  rintro x w1 ⟨rfl,hb1⟩;have a1:=(Aa HA).low hb1;have g0:=a1.c0;have g1:=a1.c1;have g2:=a1.c2;have z:=a1.fz;have HB:=Ab (show Below w.heap.size w w1 from (Aa HBA).trans (hb1.mono (by omega)));clear a1 hb1;unfold Ap
  go_wp2_with (fail);refine bodyPost_ret (v:=Ap A) (by simp[results,results44,go_sem,Ap,g0,g1,g2]) rfl ?_
  rw[Aa HE];exact Ct.low (Aa HDD) ((AH.of3 (w.heap.size+1) w1 _ _ _).below (Aa HB) (by omega))
 by_cases hk:k=4
 ·have HE:=Ab (show Sp.askR d e n v (k,s,t)=((Sp.tst d e v.1 s t,0,[]),v) by unfold Sp.askR;rw[if_pos (show k<5 by omega)];unfold Sp.ask;rw[if_neg (show ¬ k=2 by omega),if_neg (show ¬ k=3 by omega),if_pos hk]);have hfine:Mg/\Kn/\s.length<=1048576:=(by
   rcases Aa HF with h|⟨h,hh⟩|⟨h,hh⟩|⟨h,hh⟩|⟨h,hh⟩|⟨h,hh⟩|⟨h,hh⟩
   all_goals (simp only at h;first|exact hh|omega))
  have HCALL:=Ab (hfine.2.1 S d e n _ v _ s t _ hfine.2.2 (Aa H0) (Aa HD) (Aa HT));obtain⟨A,hA⟩:∃A:Sp.Ans,A=(Sp.tst d e v.1 s t,0,[]):=⟨_,rfl⟩
  rw[<- hA] at HE HCALL;clear hA hfine;subst hk
  go_enter func44,ntmps44
  go_wp2_with (fail);refine (Aa HCALL).mono ?_
  rintro x w1 ⟨rfl,hb1⟩;have a1:=(Aa HA).low hb1;have g0:=a1.c0;have g1:=a1.c1;have g2:=a1.c2;have z:=a1.fz;have HB:=Ab (show Below w.heap.size w w1 from (Aa HBA).trans (hb1.mono (by omega)));clear a1 hb1;unfold Ap
  go_wp2_with (fail);refine bodyPost_ret (v:=Ap A) (by simp[results,results44,go_sem,Ap,g0,g1,g2]) rfl ?_
  rw[Aa HE];exact Ct.low (Aa HDD) ((AH.of3 (w.heap.size+1) w1 _ _ _).below (Aa HB) (by omega))
 by_cases hk:k=5
 ·have HE:=Ab (show Sp.askR d e n v (k,s,t)=Sp.stPatch d e v s by unfold Sp.askR;rw[if_neg (show ¬ k<5 by omega)];unfold Sp.amend;rw[if_pos hk]);have hfine:KO:=(by
   rcases Aa HF with h|⟨h,hh⟩|⟨h,hh⟩|⟨h,hh⟩|⟨h,hh⟩|⟨h,hh⟩|⟨h,hh⟩
   all_goals (simp only at h;first|exact hh|omega))
  have HCALL:=Ab (hfine S d e n _ v _ s _ (Aa HCF) (Aa HF0) (Aa H0) (Aa HD) (Aa HT));obtain⟨A,hA⟩:∃A,A=Sp.stPatch d e v s:=⟨_,rfl⟩
  rw[<- hA] at HE HCALL;clear hA hfine;subst hk
  go_enter func44,ntmps44
  go_wp2_with (fail);refine (Aa HCALL).mono ?_
  rintro x w1 hx;have hx1:=hx.1;subst hx1;have a1:AB w1 (w.heap.size+1):=(hx.2.1.block _ (by omega) (fun h=>by omega)).trans (Aa HA);have g0:=a1.c0;have g1:=a1.c1;have g2:=a1.c2;have z:=a1.fz;have HX:=Ab hx;clear a1 hx;unfold Ap
  go_wp2_with (fail);refine bodyPost_ret (v:=Ap A.1) (by simp[results,results44,go_sem,Ap,g0,g1,g2]) rfl ?_
  rw[Aa HE];exact KL (Aa HBA) (Aa HX) ((AH.of3 (w.heap.size+1) w1 _ _ _).isIn (by omega) (by omega))
 by_cases hk:k=7
 ·have HE:=Ab (show Sp.askR d e n v (k,s,t)=(Sp.stInvert v,v) by unfold Sp.askR;rw[if_neg (show ¬ k<5 by omega)];unfold Sp.amend;rw[if_neg (show ¬ k=5 by omega),if_neg (show ¬ k=6 by omega),if_pos hk]);have hfine:JC:=(by
   rcases Aa HF with h|⟨h,hh⟩|⟨h,hh⟩|⟨h,hh⟩|⟨h,hh⟩|⟨h,hh⟩|⟨h,hh⟩
   all_goals (simp only at h;first|exact hh|omega))
  have HCALL:=Ab (hfine S d e n _ v _ _ (Aa H0) (Aa HD) (Aa HT));obtain⟨A,hA⟩:∃A,A=Sp.stInvert v:=⟨_,rfl⟩
  rw[<- hA] at HE HCALL;clear hA hfine;subst hk
  go_enter func44,ntmps44
  go_wp2_with (fail);refine (Aa HCALL).mono ?_
  rintro x w1 ⟨rfl,hb1⟩;have a1:=(Aa HA).low hb1;have g0:=a1.c0;have g1:=a1.c1;have g2:=a1.c2;have z:=a1.fz;have HB:=Ab (show Below w.heap.size w w1 from (Aa HBA).trans (hb1.mono (by omega)));clear a1 hb1;unfold Ap
  go_wp2_with (fail);refine bodyPost_ret (v:=Ap A) (by simp[results,results44,go_sem,Ap,g0,g1,g2]) rfl ?_
  rw[Aa HE];exact Ct.low (Aa HDD) ((AH.of3 (w.heap.size+1) w1 _ _ _).below (Aa HB) (by omega))
 by_cases hk:k=6
 ·have HE:=Ab (show Sp.askR d e n v (k,s,t)=Sp.stMerge d e v s by unfold Sp.askR;rw[if_neg (show ¬ k<5 by omega)];unfold Sp.amend;rw[if_neg (show ¬ k=5 by omega),if_pos hk]);have hfine:KR:=(by
   rcases Aa HF with h|⟨h,hh⟩|⟨h,hh⟩|⟨h,hh⟩|⟨h,hh⟩|⟨h,hh⟩|⟨h,hh⟩
   all_goals (simp only at h;first|exact hh|omega))
  have HCALL:=Ab (EI (f:=60) (s:=s) (hin:=Cf func60 (by kernel_rfl) rfl) (Q:=fun q p2 w1 A w2=>A=(Sp.mergeA v q).1/\Ct (fun k=>F k/\k<w.heap.size) p d e (Sp.mergeA v q) w1 (.returned (Ap A)) w2) (Aa H0) (Aa HT) (fun q p2 w1 hb1 hab hrd htr=>by
   refine (hfine S (w.heap.size+3) d e n p v _ s q p2 w1 (Aa HCF) (fun j hj=>⟨(Aa HF0 j hj).1,(Aa HF0 j hj).2,by omega⟩) ((Aa H0).low hb1) ((Aa HD).bel hb1) ((Aa HT).below (hb1.mono (Aa HT).ng)) hrd (by rw[hsz] at htr;exact htr)).mono ?_;rintro x w2 hx;have hx1:=hx.1;subst hx1;exact⟨_,rfl,(hx.2.1.block _ hab.lt (fun h=>by rw[hsz] at h;omega)).trans hab,rfl,hx⟩))
  clear hfine;subst hk
  go_enter func44,ntmps44
  go_wp2_with (fail);refine (Aa HCALL).mono ?_
  rintro x w1 (⟨c,hpos,hrd,rfl,hb1⟩|⟨q,p2,w2,A,w3,hrd,hb2,hs2,⟨rfl,hx⟩,rfl,hsb⟩)
  ·obtain⟨A,hA⟩:∃A:Sp.Ans,A=(c,0,[]):=⟨_,rfl⟩
   have HE2:=Ab (show Sp.stMerge d e v s=(A,v) by unfold Sp.stMerge;rw[hrd,hA]);rw[<- hA];clear hrd hA;have a1:=(Aa HA).low hb1;have g0:=a1.c0;have g1:=a1.c1;have g2:=a1.c2;have z:=a1.fz;have HB:=Ab (show Below w.heap.size w w1 from (Aa HBA).trans (hb1.mono (by omega)));clear a1 hb1 HCALL;unfold Ap
   go_wp2_with (fail);refine bodyPost_ret (v:=Ap A) (by simp[results,results44,go_sem,Ap,g0,g1,g2]) rfl ?_
   rw[Aa HE,Aa HE2];exact Ct.low (Aa HDD) ((AH.of3 (w.heap.size+1) w1 _ _ _).below (Aa HB) (by omega))
  ·have HE2:=Ab (show Sp.stMerge d e v s=Sp.mergeA v q by unfold Sp.stMerge;rw[hrd]);obtain⟨M,hM⟩:∃M,M=Sp.mergeA v q:=⟨_,rfl⟩
   rw[<- hM] at hx HE2 |-;have a1:AB w1 (w.heap.size+1):=(hsb.block _ (by omega)).trans ((hx.2.1.block _ (by omega) (fun h=>by omega)).trans ((hb2.block _ (by omega)).trans (Aa HA)));have g0:=a1.c0;have g1:=a1.c1;have g2:=a1.c2;have z:=a1.fz;have HX:=Ab hx;have HS:=Ab (hsb.isIn (a:=w.heap.size) (b:=w2.heap.size) (by omega) (by omega));have HB2:=Ab ((Aa HBA).trans (hb2.mono (by omega)));clear a1 hx hrd hM hsb hb2 HCALL;unfold Ap
   go_wp2_with (fail);refine bodyPost_ret (v:=Ap M.1) (by simp[results,results44,go_sem,Ap,g0,g1,g2]) rfl ?_
   rw[Aa HE,Aa HE2];exact KL (Aa HB2) (Aa HX) ((Aa HS).trans ((AH.of3 (w.heap.size+1) w1 _ _ _).isIn (by omega) (by omega)))
 by_cases hk:k=8
 ·have HE:=Ab (show Sp.askR d e n v (k,s,t)=(Sp.stDiff d e n v s,v) by unfold Sp.askR;rw[if_neg (show ¬ k<5 by omega)];unfold Sp.amend;rw[if_neg (show ¬ k=5 by omega),if_neg (show ¬ k=6 by omega),if_neg (show ¬ k=7 by omega),if_pos hk]);have hfine:SW:=(by
   rcases Aa HF with h|⟨h,hh⟩|⟨h,hh⟩|⟨h,hh⟩|⟨h,hh⟩|⟨h,hh⟩|⟨h,hh⟩
   all_goals (simp only at h;first|exact hh|omega))
  have HCALL:=Ab (EI (f:=62) (s:=s) (hin:=Cf func62 (by kernel_rfl) rfl) (Q:=fun q p2 w1 A w2=>A=Sp.diffAns n v.1 q/\Below w1.heap.size w1 w2) (Aa H0) (Aa HT) (fun q p2 w1 hb1 hab hrd htr=>by
   refine (hfine S _ d e n p v _ s q p2 w1 (Aa HCF) ((Aa H0).low hb1) ((Aa HD).bel hb1) ((Aa HT).below (hb1.mono (Aa HT).ng)) hrd htr).mono ?_;rintro x w2 ⟨rfl,hb2⟩;exact⟨_,rfl,hab.low hb2,rfl,hb2⟩))
  clear hfine;subst hk
  go_enter func44,ntmps44
  go_wp2_with (fail);refine (Aa HCALL).mono ?_
  rintro x w1 hx;obtain⟨A,rfl,hA,hb1,a1⟩:∃A:Sp.Ans,x = .returned (Ap A)/\A=Sp.stDiff d e n v s/\Below w.heap.size w w1/\AB w1 (w.heap.size+1):=by
   rcases hx with⟨c,hpos,hrd,rfl,hb1⟩|⟨q,p2,w2,A,w3,hrd,hb2,hs2,⟨rfl,hx⟩,rfl,hsb⟩
   ·exact⟨_,rfl,by unfold Sp.stDiff;rw[hrd],(Aa HBA).trans (hb1.mono (by omega)),(Aa HA).low hb1⟩
   ·exact⟨_,rfl,by unfold Sp.stDiff;rw[hrd],((Aa HBA).trans (hb2.mono (by omega))).trans (hsb.below (hx.mono (by omega)) (by omega)),(hsb.block _ (by omega)).trans ((hx.block _ (by omega)).trans ((hb2.block _ (by omega)).trans (Aa HA)))⟩
  have g0:=a1.c0;have g1:=a1.c1;have g2:=a1.c2;have z:=a1.fz;have HB:=Ab hb1;rw[<- hA] at HE;clear a1 hb1 HCALL hx hA;unfold Ap
  go_wp2_with (fail);refine bodyPost_ret (v:=Ap A) (by simp[results,results44,go_sem,Ap,g0,g1,g2]) rfl ?_
  rw[Aa HE];exact Ct.low (Aa HDD) ((AH.of3 (w.heap.size+1) w1 _ _ _).below (Aa HB) (by omega))
 obtain rfl:k=9:=by omega
 ·have hk:(9:Int)=9:=rfl;have HE:=Ab (show Sp.askR d e n v (9,s,t)=(Sp.stMergeDiff d e v s,v) by unfold Sp.askR;rw[if_neg (show ¬ (9:Int)<5 by omega)];unfold Sp.amend;rw[if_neg (show ¬ (9:Int)=5 by omega),if_neg (show ¬ (9:Int)=6 by omega),if_neg (show ¬ (9:Int)=7 by omega),if_neg (show ¬ (9:Int)=8 by omega)]);have hfine:IW:=(by
   rcases Aa HF with h|⟨h,hh⟩|⟨h,hh⟩|⟨h,hh⟩|⟨h,hh⟩|⟨h,hh⟩|⟨h,hh⟩
   all_goals (simp only at h;first|exact hh|omega))
  have HCALL:=Ab (EI (f:=63) (s:=s) (hin:=Cf func63 (by kernel_rfl) rfl) (Q:=fun q p2 w1 A w2=>A=Sp.mdiffAns v.1 q/\Below w1.heap.size w1 w2) (Aa H0) (Aa HT) (fun q p2 w1 hb1 hab hrd htr=>by
   refine (hfine S _ d e n p v _ s q p2 w1 (Aa HCF) ((Aa H0).low hb1) ((Aa HD).bel hb1) ((Aa HT).below (hb1.mono (Aa HT).ng)) hrd htr).mono ?_;rintro x w2 ⟨rfl,hb2⟩;exact⟨_,rfl,hab.low hb2,rfl,hb2⟩))
  clear hfine
  go_enter func44,ntmps44
  go_wp2_with (fail);refine (Aa HCALL).mono ?_
  rintro x w1 hx;obtain⟨A,rfl,hA,hb1,a1⟩:∃A:Sp.Ans,x = .returned (Ap A)/\A=Sp.stMergeDiff d e v s/\Below w.heap.size w w1/\AB w1 (w.heap.size+1):=by
   rcases hx with⟨c,hpos,hrd,rfl,hb1⟩|⟨q,p2,w2,A,w3,hrd,hb2,hs2,⟨rfl,hx⟩,rfl,hsb⟩
   ·exact⟨_,rfl,by unfold Sp.stMergeDiff;rw[hrd],(Aa HBA).trans (hb1.mono (by omega)),(Aa HA).low hb1⟩
   ·exact⟨_,rfl,by unfold Sp.stMergeDiff;rw[hrd],((Aa HBA).trans (hb2.mono (by omega))).trans (hsb.below (hx.mono (by omega)) (by omega)),(hsb.block _ (by omega)).trans ((hx.block _ (by omega)).trans ((hb2.block _ (by omega)).trans (Aa HA)))⟩
  have g0:=a1.c0;have g1:=a1.c1;have g2:=a1.c2;have z:=a1.fz;have HB:=Ab hb1;rw[<- hA] at HE;clear a1 hb1 HCALL hx hA;unfold Ap
  go_wp2_with (fail);refine bodyPost_ret (v:=Ap A) (by simp[results,results44,go_sem,Ap,g0,g1,g2]) rfl ?_
  rw[Aa HE];exact Ct.low (Aa HDD) ((AH.of3 (w.heap.size+1) w1 _ _ _).below (Aa HB) (by omega))
def Cu(S:Nat)(d e n:Int)(doc:Sp.Doc)(o:Sp.St)(F:Nat->Prop)(w:World)(x:Ending)(w':World):Prop :=
 x = .returned (Ap (Sp.step d e n doc o).1)/\As (fun k=>F k\/k=S) w w' /\ ∃p',SB w' S d e n p'/\Bn w' (fun k=>(F k/\k<w.heap.size)\/w.heap.size<=k) p' d e (Sp.step d e n doc o).2
theorem Cu.low{S:Nat}{d e n:Int}{doc:Sp.Doc}{o:Sp.St}{F:Nat->Prop}{w w':World}{a:Sp.Ans}{p:Value}(he:Sp.step d e n doc o=(a,doc))(h:SB w S d e n p)(hd:Bn w F p d e doc)(hb:Below w.heap.size w w') :
  Cu S d e n doc o F w (.returned (Ap a)) w':=by
 unfold Cu;rw[he];exact⟨rfl,As.of_below hb,p,h.low hb,hd.move fun k h1 h2=>⟨hb.block k h2,Or.inl ⟨h1,h2⟩⟩⟩
theorem Tp{S:Nat}{d e n:Int}{p:Value}{doc:Sp.Doc}{w:World}{F:Nat->Prop}(k:Int)(s t:Sp.By)(hF:∀k,F k->NG<=k/\k≠S)(hf:NS (k,s,t))(h:SB w S d e n p)(hd:Bn w F p d e doc)(hT:Af w) :
  Calls Tryz.prog 36 #[.pointer (some ⟨S,0,none⟩),.agg #[.int .i64 k,.string ⟨s.toArray⟩,.string ⟨t.toArray⟩]] w fun x w'=>Cu S d e n doc (k,s,t) F w x w':=by
 have HFN:=Ab hf;have HFF:=Ab hF;have hlt:=h.lt;have hba:=Kk w k s t;have hTa:=hT.below (hba.mono hT.ng);have h0:=h.low hba;have hd0:Bn (Ej w k s t) (fun k=>F k/\k<w.heap.size) p d e doc:=hd.move fun k h1 h2=>⟨hba.block k h2,h1,h2⟩
 have a0:=Pn w k s t;have o0:=Pm w k s t;have hsz:=LP w k s t;have eW:(w.alloc (.cells #[.int .i64 k,.string ⟨s.toArray⟩,.string ⟨t.toArray⟩] 49)).alloc (.cells #[.int .i64 0,.int .i64 0,.string ⟨#[]⟩] 46)=Ej w k s t:=rfl;have c0:=h0.c0;have c1:=h0.c1;have c2:=h0.c2;have HA:=Ab a0;have H0:=Ab h0;have HD:=Ab hd0;have HT:=Ab hTa;have HH:=Ab h;have HDD:=Ab hd;have HO:=Ab o0;have HBA:=Ab hba;clear h hd hT h0 hd0 hTa a0 o0 hf hF hba
 go_enter func36,ntmps36
 go_wp2_with (fail);refine (Na d e n _).mono ?_
 rintro x w1 ⟨rfl,hb1⟩;replace hb1:Below (Ej w k s t).heap.size (Ej w k s t) w1:=hb1;have h1:=(Aa H0).low hb1;have d1:Bn w1 (fun k=>F k/\k<w.heap.size) p d e doc:=(Aa HD).bel hb1;have a1:=(Aa HA).low hb1;have T1:=(Aa HT).below (hb1.mono (Aa HT).ng);have o1:w1.heap[w.heap.size]? = _:=(hb1.block w.heap.size (by omega)).trans (Aa HO);have hb01:Below w.heap.size w w1:=(Aa HBA).trans (hb1.mono (by omega));have hs1:w.heap.size+2<=w1.heap.size:=by have:=hb1.size;omega
 have q0:w1.cell? ⟨w.heap.size,0,none⟩=some (.int .i64 k):=by simp[World.cell?,o1]
 have q1:w1.cell? ⟨w.heap.size,1,none⟩=some (.string ⟨s.toArray⟩):=by simp[World.cell?,o1]
 have q2:w1.cell? ⟨w.heap.size,2,none⟩=some (.string ⟨t.toArray⟩):=by simp[World.cell?,o1]
 have g0:=a1.c0;have g1:=a1.c1;have g2:=a1.c2;have z:=a1.fz;have c3:=h1.c3;have H1:=Ab h1;have D1:=Ab d1;have A1:=Ab a1;have TT1:=Ab T1;have HB1:=Ab hb01;clear h1 d1 a1 T1 o1 hb1 hb01 H0 HD HA HT HO c0 c1 c2 hsz eW HBA;cases hcfg:Sp.cfg d e n with
 | false =>
  have HE:=Ab (show Sp.step d e n doc (k,s,t)=((2,0,[]),doc) by unfold Sp.step;rw[hcfg];rfl);clear hcfg;simp only
  go_wp2_with (fail);refine (Bv 2 _).mono ?_
  rintro x w2 ⟨rfl,hb2⟩;have a2:=(Aa A1).low hb2;clear g0 g1 g2 z q0 q1 q2;have g0:=a2.c0;have g1:=a2.c1;have g2:=a2.c2;have z:=a2.fz;have HB2:=Ab (show Below w.heap.size w w2 from (Aa HB1).trans (hb2.mono (by omega)));clear a2 hb2;unfold A8
  go_wp2_with (fail);refine bodyPost_ret (v:=A8 2 []) (by simp[results,results36,go_sem,A8,g0,g1,g2]) rfl ?_
  exact Cu.low (Aa HE) (Aa HH) (Aa HDD) ((AH.of3 (w.heap.size+1) w2 _ _ _).below (Aa HB2) (by omega))
 | true =>
  by_cases k1:k<1
  ·have HE:=Ab (show Sp.step d e n doc (k,s,t)=((1,0,[]),doc) by unfold Sp.step;rw[hcfg,if_pos rfl,if_pos (Or.inl k1)]);have e1:decide (k<1)=true:=by simpa using k1
   clear hcfg k1 c3;simp only
   go_wp2_with (fail);refine (Bv 1 _).mono ?_
   rintro x w2 ⟨rfl,hb2⟩;have a2:=(Aa A1).low hb2;clear g0 g1 g2 z q0 q1 q2;have g0:=a2.c0;have g1:=a2.c1;have g2:=a2.c2;have z:=a2.fz;have HB2:=Ab (show Below w.heap.size w w2 from (Aa HB1).trans (hb2.mono (by omega)));clear a2 hb2;unfold A8
   go_wp2_with (fail);refine bodyPost_ret (v:=A8 1 []) (by simp[results,results36,go_sem,A8,g0,g1,g2]) rfl ?_
   exact Cu.low (Aa HE) (Aa HH) (Aa HDD) ((AH.of3 (w.heap.size+1) w2 _ _ _).below (Aa HB2) (by omega))
  by_cases k9:9<k
  ·have HE:=Ab (show Sp.step d e n doc (k,s,t)=((1,0,[]),doc) by unfold Sp.step;rw[hcfg,if_pos rfl,if_pos (Or.inr k9)]);have e1:decide (k<1)=false:=by simpa using k1
   have e9:decide (9<k)=true:=by simpa using k9
   clear hcfg k1 k9 c3;simp only
   go_wp2_with (fail);refine (Bv 1 _).mono ?_
   rintro x w2 ⟨rfl,hb2⟩;have a2:=(Aa A1).low hb2;clear g0 g1 g2 z q0 q1 q2;have g0:=a2.c0;have g1:=a2.c1;have g2:=a2.c2;have z:=a2.fz;have HB2:=Ab (show Below w.heap.size w w2 from (Aa HB1).trans (hb2.mono (by omega)));clear a2 hb2;unfold A8
   go_wp2_with (fail);refine bodyPost_ret (v:=A8 1 []) (by simp[results,results36,go_sem,A8,g0,g1,g2]) rfl ?_
   exact Cu.low (Aa HE) (Aa HH) (Aa HDD) ((AH.of3 (w.heap.size+1) w2 _ _ _).below (Aa HB2) (by omega))
  by_cases kl:k=1
  ·subst kl;have HE:=Ab (show Sp.step d e n doc (1,s,t)=Sp.ldd (Sp.readTo s d e) doc by unfold Sp.step;rw[hcfg,if_pos rfl,if_neg (by simp),if_pos rfl]);clear hcfg k1 k9 c3;simp only;have HCALL:=Ab (EI (f:=43) (s:=s) (hin:=Cf func43 (by kernel_rfl) rfl) (Q:=fun q p2 w1' A w2=>A=(0,0,[])/\As (fun k=>k=S) w1' w2 /\ ∃p',SB w2 S d e n p'/\Bn w2 (fun k=>w1.heap.size+1<=k) p' d e (some (q,none))) (Aa H1) (Aa TT1) (fun q p2 w1' hb1 hab hrd htr=>by
    refine (TZ ((Aa H1).low hb1) (show S<w1.heap.size+1 by omega) hab.lt htr hrd).mono ?_;rintro x w2 ⟨rfl,hk,p',hsb,hdf⟩;exact⟨_,rfl,(hk.block _ hab.lt (by omega)).trans hab,rfl,hk,p',hsb,hdf⟩))
   go_wp2_with (fail);refine (Aa HCALL).mono ?_
   rintro x w2 (⟨c,hpos,hrd,rfl,hb2⟩|⟨q,p2,w3,A,w4,hrd,hb2,hs2,⟨rfl,hk,p',hsb4,hdf⟩,rfl,hsb⟩)
   ·obtain⟨A,hA⟩:∃A:Sp.Ans,A=(c,0,[]):=⟨_,rfl⟩
    have HE2:=Ab (show Sp.ldd (Sp.readTo s d e) doc=(A,doc) by rw[hrd,hA];rfl);rw[<- hA];have a2:=(Aa A1).low hb2;clear g0 g1 g2 z q0 q1 q2 hA hrd;have g0:=a2.c0;have g1:=a2.c1;have g2:=a2.c2;have z:=a2.fz;have HB2:=Ab (show Below w.heap.size w w2 from (Aa HB1).trans (hb2.mono (by omega)));clear a2 hb2 HCALL;unfold Ap
    go_wp2_with (fail);refine bodyPost_ret (v:=Ap A) (by simp[results,results36,go_sem,Ap,g0,g1,g2]) rfl ?_
    exact Cu.low ((Aa HE).trans (Aa HE2)) (Aa HH) (Aa HDD) ((AH.of3 (w.heap.size+1) w2 _ _ _).below (Aa HB2) (by omega))
   ·have HE2:=Ab (show Sp.ldd (Sp.readTo s d e) doc=((0,0,[]),some (q,none)) by rw[hrd];rfl);have a2:AB w2 (w.heap.size+1):=(hsb.block _ (by omega)).trans ((hk.block _ (by omega) (by omega)).trans ((hb2.block _ (by omega)).trans (Aa A1)));clear g0 g1 g2 z q0 q1 q2 hrd;have g0:=a2.c0;have g1:=a2.c1;have g2:=a2.c2;have z:=a2.fz;have HK:=Ab ((As.of_below (F:=fun k=>F k\/k=S) ((Aa HB1).trans (hb2.mono (by omega)))).trans hk fun j _ hj=>Or.inr hj);have HI:=Ab (hsb.isIn (a:=w.heap.size) (b:=w1.heap.size+1) (by omega) (by omega));have HS4:=Ab hsb4;have HDF:=Ab hdf;clear a2 hb2 hk hsb hsb4 hdf HCALL;unfold Ap
    go_wp2_with (fail);refine bodyPost_ret (v:=Ap (0,0,[])) (by simp[results,results36,go_sem,Ap,g0,g1,g2]) rfl ?_
    have hi:=(Aa HI).trans ((AH.of3 (w.heap.size+1) w2 (.int .i64 ((0,0,[]):Sp.Ans).1) (.int .i64 ((0,0,[]):Sp.Ans).2.1) (.string ⟨((0,0,[]):Sp.Ans).2.2.toArray⟩)).isIn (a:=w.heap.size) (b:=w1.heap.size+1) (by omega) (by omega));unfold Cu;rw[(Aa HE).trans (Aa HE2)];exact⟨rfl,hi.kept (Aa HK) (Nat.le_refl _),p',(hi.block S (by omega)).trans (Aa HS4),(Aa HDF).move fun j hj _=>⟨hi.block j (Or.inr hj),Or.inr (by omega)⟩⟩
  have e1:decide (k<1)=false:=by simpa using k1
  have e9:decide (9<k)=false:=by simpa using k9
  have el:(k == 1)=false:=by simpa using kl
  cases hdoc:doc with
  | none =>
   subst hdoc;have HE:=Ab (show Sp.step d e n none (k,s,t)=((3,0,[]),none) by unfold Sp.step;rw[hcfg,if_pos rfl,if_neg (by simp;omega),if_neg kl]);obtain rfl:p = .pointer none:=Aa HDD;clear hcfg k1 k9 kl;simp only
   go_wp2_with (fail);refine (Bv 3 _).mono ?_
   rintro x w2 ⟨rfl,hb2⟩;have a2:=(Aa A1).low hb2;clear g0 g1 g2 z q0 q1 q2;have g0:=a2.c0;have g1:=a2.c1;have g2:=a2.c2;have z:=a2.fz;have HB2:=Ab (show Below w.heap.size w w2 from (Aa HB1).trans (hb2.mono (by omega)));clear a2 hb2;unfold A8
   go_wp2_with (fail);refine bodyPost_ret (v:=A8 3 []) (by simp[results,results36,go_sem,A8,g0,g1,g2]) rfl ?_
   exact Cu.low (Aa HE) (Aa HH) (Aa HDD) ((AH.of3 (w.heap.size+1) w2 _ _ _).below (Aa HB2) (by omega))
  | some v =>
   subst hdoc;have HE:=Ab (show Sp.step d e n (some v) (k,s,t)=((Sp.askR d e n v (k,s,t)).1,some (Sp.askR d e n v (k,s,t)).2) by
    unfold Sp.step;rw[hcfg,if_pos rfl,if_neg (by simp;omega),if_neg kl];unfold Sp.askR;by_cases h5:k<5
    ·simp only;rw[if_pos h5,if_pos h5]
    ·simp only;rw[if_neg h5,if_neg h5])
   have HCALL:=Ab (WR s t hcfg k1 k9 kl (fun j hj=>Aa HFF j hj.1) (Aa HFN) (Aa H1) (Aa D1) (Aa TT1));have hD:=Aa HDD;obtain⟨D,R,wp,rfl,_⟩:=hD;obtain⟨A,hA⟩:∃A,A=Sp.askR d e n v (k,s,t):=⟨_,rfl⟩
   rw[<- hA] at HE HCALL;clear hcfg k1 k9 kl;simp only
   go_wp2_with (fail);refine (Aa HCALL).mono ?_
   rintro x w2 hx;have hx1:=hx.1;subst hx1;have a2:AB w2 (w.heap.size+1):=(hx.2.1.block _ (by omega) (fun h=>by omega)).trans (Aa A1);have s2:SB w2 S d e n (.pointer (some ⟨D,0,none⟩)):=(hx.2.1.block S (by omega) (fun h=>(Aa HFF S h.1).2 rfl)).trans (Aa H1);clear g0 g1 g2 z q0 q1 q2 hA;have g0:=a2.c0;have g1:=a2.c1;have g2:=a2.c2;have z:=a2.fz;have HX:=Ab hx;have HS2:=Ab s2;clear a2 hx s2 HCALL;unfold Ap
   go_wp2_with (fail);refine bodyPost_ret (v:=Ap A.1) (by simp[results,results36,go_sem,Ap,g0,g1,g2]) rfl ?_
   have hi:=(AH.of3 (w.heap.size+1) w2 (.int .i64 A.1.1) (.int .i64 A.1.2.1) (.string ⟨A.1.2.2.toArray⟩)).isIn (a:=w.heap.size) (b:=w1.heap.size) (by omega) (by omega);obtain⟨_,r1,r2⟩:=KL (F:=F) (Aa HB1) (Aa HX) hi;unfold Cu;rw[Aa HE];exact⟨rfl,r1.mono fun j hj=>Or.inl hj,_,(hi.block S (by omega)).trans (Aa HS2),r2⟩
end

section
set_option maxHeartbeats 2000000
open Go.RowKit Go.Maps
section
variable{w:World}{D k:Nat}{pa fa y wp:Option Addr}{pl pc fl fc:Nat}
theorem Oj{s:Sp.By}(hs:s.length<=8796093022208)(hW:∀w1,Below w.heap.size w w1->Calls Tryz.prog 56 #[.pointer (some ⟨D,0,none⟩)] w1 fun x w'=>x = .returned (.pointer wp)/\Below w1.heap.size w1 w')
  (hC:∀w1,Below w.heap.size w w1->Calls Tryz.prog 55 #[.pointer wp] w1 fun x w'=>x = .returned (.string ⟨s.toArray⟩)/\Below w1.heap.size w1 w') :
  Calls Tryz.prog 121 #[.pointer (some ⟨D,0,none⟩)] w fun e w'=>e = .returned (.bool (decide (20000<s.length)))/\Below w.heap.size w w':=by
 have HW:=Ab hW;have HC:=Ab hC;obtain⟨n,hn⟩:∃n:Nat,n=s.length:=⟨_,rfl⟩
 have h1:decide ((20000:Int)<(n:Int))=decide (20000<n):=decide_eq_decide.2 (by omega);clear hW hC
 go_enter func121,ntmps121
 go_wp2_with (fail);refine (Aa HW w (Below.refl _ _)).mono ?_
 rintro e w1 ⟨rfl,hb1⟩;have HB1:=Ab hb1;clear hb1
 go_wp2_with (fail);refine (Aa HC w1 (Aa HB1)).mono ?_
 rintro e w2 ⟨rfl,hb2⟩;have HB2:=Ab ((Aa HB1).trans (hb2.mono (Aa HB1).size));clear hb2
 go_wp2_with (fail)
 go_ret;refine⟨?_,Aa HB2⟩
 simp;omega
theorem ND{dp m:Int}{lo:Bool}(hW:∀w1,Below w.heap.size w w1->Calls Tryz.prog 56 #[.pointer (some ⟨D,0,none⟩)] w1 fun x w'=>x = .returned (.pointer wp)/\Below w1.heap.size w1 w')
  (hD:∀w1,Below w.heap.size w w1->Calls Tryz.prog 157 #[.pointer wp] w1 fun x w'=>x = .returned (.int .i64 m)/\Below w1.heap.size w1 w')
  (hL:∀w1,Below w.heap.size w w1->Calls Tryz.prog 121 #[.pointer (some ⟨D,0,none⟩)] w1 fun e w'=>e = .returned (.bool lo)/\Below w1.heap.size w1 w') :
  Calls Tryz.prog 117 #[.pointer (some ⟨D,0,none⟩),.int .i64 dp] w fun e w'=>e = .returned (.int .i64 (if dp<m then 7 else if lo=true then 4 else 0))/\Below w.heap.size w w':=by
 have HW:=Ab hW;have HD:=Ab hD;have HL:=Ab hL;clear hW hD hL;by_cases hdm:dp<m
 ·go_enter func117,ntmps117
  go_wp2_with (fail);refine (Aa HW w (Below.refl _ _)).mono ?_
  rintro e w1 ⟨rfl,hb1⟩;have HB1:=Ab hb1;clear hb1
  go_wp2_with (fail);refine (Aa HD w1 (Aa HB1)).mono ?_
  rintro e w2 ⟨rfl,hb2⟩;have HB2:=Ab ((Aa HB1).trans (hb2.mono (Aa HB1).size));clear hb2
  go_wp2_with (fail)
  go_ret;exact⟨by simp,Aa HB2⟩
 ·go_enter func117,ntmps117
  go_wp2_with (fail);refine (Aa HW w (Below.refl _ _)).mono ?_
  rintro e w1 ⟨rfl,hb1⟩;have HB1:=Ab hb1;clear hb1
  go_wp2_with (fail);refine (Aa HD w1 (Aa HB1)).mono ?_
  rintro e w2 ⟨rfl,hb2⟩;have HB2:=Ab ((Aa HB1).trans (hb2.mono (Aa HB1).size));clear hb2
  go_wp2_with (fail);refine (Aa HL w2 (Aa HB2)).mono ?_
  rintro e w3 ⟨rfl,hb3⟩;have HB3:=Ab ((Aa HB2).trans (hb3.mono (Aa HB2).size));clear hb3;cases lo;all_goals (
   go_wp2_with (fail)
   go_ret;exact⟨by simp,Aa HB3⟩)
end
section
variable{w:World}{D R:Nat}{wp:Option Addr}{jn iv:Value}{ch:Bool}{Tb T a:Sp.A}{Mb M:Nat->Prop}{wb:World}{v xv:Sp.V}{js:List Sp.Opn}{y:Option Addr}{F:Nat->Prop}{d x:Int}{B:Nat}
 {k:Nat} {pa fa:Option Addr} {pl pc fl fc:Nat} {p q:List Sp.By}
theorem J9(h:JS w D R wp jn iv ch Tb Mb wb T a v M js)(hT:Af w)(hv:Sp.Fit d x B v)(hB:B<=900000000) :
  Calls Tryz.prog 121 #[.pointer (some ⟨D,0,none⟩)] w fun e w'=>e = .returned (.bool (decide (20000<(Sp.can top v).length)))/\Below w.heap.size w w':=by
 have hc:=(Sp.CO hv.gd).1;have hsz:=hv.sz;have hrep:Rep top (fun _=>True) w (.pointer wp) v:=by
  rw[<- h.t.str];exact h.t.sub.rep fun _ _=>trivial
 exact Oj (by omega) (fun w1 hb1=>Ek (h.bel hb1).t) fun w1 hb1=>DR (hrep.bel hb1) (hT.bel hb1) (by omega)
theorem N8{dp:Int}(h:JS w D R wp jn iv ch Tb Mb wb T a v M js)(hT:Af w)(hv:Sp.Fit d x B v)(hB:B<=900000000) :
  Calls Tryz.prog 117 #[.pointer (some ⟨D,0,none⟩),.int .i64 dp] w fun e w'=>e = .returned (.int .i64 (Sp.Ex dp v))/\Below w.heap.size w w':=by
 have hrep:Rep top (fun _=>True) w (.pointer wp) v:=by
  rw[<- h.t.str];exact h.t.sub.rep fun _ _=>trivial
 refine (ND (wp:=wp) (m:=Sp.dep top v) (lo:=decide (20000<(Sp.can top v).length)) (fun w1 hb1=>Ek (h.bel hb1).t) (fun w1 hb1=>LT top (by have:=EO;omega) _ w1 _ v (hrep.bel hb1)) (fun w1 hb1=>J9 (h.bel hb1) (hT.bel hb1) hv hB)).mono ?_;rintro e w' ⟨rfl,hb⟩;refine⟨?_,hb⟩;unfold Sp.Ex;by_cases h1:dp<Sp.dep top v
 ·rw[if_pos h1,if_pos h1];rfl
 ·rw[if_neg h1,if_neg h1];by_cases h2:20000<(Sp.can top v).length
  ·rw[if_pos h2,if_pos (decide_eq_true h2)];rfl
  ·rw[if_neg h2,if_neg (by rw[decide_eq_false h2];decide)];rfl
end
end

section
open Go.RowKit
def Two(B:Nat)(W W':World):Prop:=W'.heap[B]? = W.heap[B]? /\ W'.heap[B+1]? = W.heap[B+1]?
def E6(B:Nat)(I:World->Prop):Prop:=∀W W':World,I W->W'.os=W.os->W'.tape=W.tape->W'.output=W.output->W.heap.size<=W'.heap.size->(∀j,j<W.heap.size->j≠B->j≠B+1->W'.heap[j]? = W.heap[j]?)->I W'
theorem E6.put{B l:Nat}{I:World->Prop}(h:E6 B I){W:World}(hi:I W)(hl:l=B\/l=B+1)(o:Obj):I (W.putObj l o) :=
 h W _ hi rfl rfl rfl (by simp[World.putObj]) fun j _ h1 h2=>World.putObj_heap_other (by omega)
theorem II{P:Program}{g:Operand}{ps:Array Tmp}{assign body:Code}{Q:Exit->Act->World->Prop}{a:Act}{w:World}{gf:Nat}{lb:Array Value}
  (hg:a.eval g = .func (.func gf) #[] lb) (eg:∀args w,(callFunc gf args).run P w = .ok (.enter gf args) w) (N:Nat) (arg:Nat->Array Value) (hps:∀k,(arg k).size=ps.size) (I:Nat->World->Prop) (A:Nat->Act->World->Prop)
  (hI:∀k,E6 w.heap.size (I k)) (hA:∀k a',E6 w.heap.size (A k a')) (h0:I 0 w)
  (hiter:∀ (l:Nat) (J:Nat->World->Prop) (W:World),(∀k W,J k W->I k W)->(∀k W,k<N->J k W->YieldAt Fence.wide 0 P l (arg k) W fun e W'=>e = .returned (.bool true)/\J (k+1) W')->J 0 W ->
   CallsIn Fence.wide 0 P gf (#[.func (.yield l) #[] #[]]++lb) W fun e W'=>(∃v,e = .returned v)/\J N W')
  (hassign:∀l k W,k<N->I k W->w.heap.size+1<W.heap.size->assign.wpIn (Fence.wide.inRound l) 0 P (fun e a' W'=>e = .normal/\Two w.heap.size W W'/\A k a' W') { tmps:=(ps.zip (arg k)).foldl (fun t (p,v)=>t.setIfInBounds p v) a.tmps,defers:=[] } W)
  (hbody:∀l k a' W,k<N->A k a' W->w.heap.size+1<W.heap.size->(l=w.heap.size+1 /\ ∃r,W.heap[l]? = some (.loop r))->body.wpIn (Fence.wide.inRound l) 0 P (fun e _ W'=>e = .normal/\Two w.heap.size W W'/\I (k+1) W') a' W)
  (hdone:∀W,I N W->W.heap[w.heap.size]? = some (.deferred (some []))->Q .normal { a with defers:={ target:=.collected w.heap.size,args:=#[] }::a.defers } W) :
  (Code.rangeFunc g ps assign body).wpIn Fence.wide 0 P Q a w:=by
 refine wpIn_rangeFunc fun fn hfn=>?_;obtain⟨B,hB⟩:∃B,B=w.heap.size:=⟨_,rfl⟩
 obtain⟨rc,hrc⟩:∃rc:LoopState->Loop,rc=fun st=>{ state:=st,pending:=none,fn,tmps:=a.tmps,params:=ps,assign,body,defers:=B }:=⟨_,rfl⟩
 have two:∀o o':Obj,((w.alloc o).alloc o').heap[B]? = some o/\((w.alloc o).alloc o').heap[B+1]? = some o' /\ ∀j,j<B->((w.alloc o).alloc o').heap[j]? = w.heap[j]?:=fun o o'=>by
  have e1:=World.alloc_heap_new w o;have e2:=World.alloc_heap_new (w.alloc o) o';rw[World.size_alloc,<- hB] at e2;rw[<- hB] at e1;refine⟨(Below.heap_alloc (w.alloc o) o' B (by simp;omega)).trans e1,e2,fun j hj=>?_⟩;exact (Below.heap_alloc (w.alloc o) o' j (by simp;omega)).trans (Below.heap_alloc w o j (by omega))
 obtain⟨W1,hW1⟩:∃W1,W1=(w.alloc (.deferred (some []))).alloc (.loop (rc .ready)):=⟨_,rfl⟩
 have t1:W1.heap[B]? = some (.deferred (some []))/\W1.heap[B+1]? = some (.loop (rc .ready)):=by rw[hW1];exact⟨(two _ _).1,(two _ _).2.1⟩
 have i1:I 0 W1:=by
  refine hI 0 w W1 h0 (by rw[hW1];rfl) (by rw[hW1];rfl) (by rw[hW1];rfl) (by rw[hW1];simp;omega) fun j hj _ _=>?_;rw[hW1];exact (two _ _).2.2 j (by omega)
 rw[<- hB] at hI hA hassign hbody hdone;refine⟨B+1,[{ target:=.collected B,args:=#[] }],W1,{ target:=.fn (.func gf) lb,args:=#[.func (.yield (B+1)) #[] #[]] },W1,gf,#[.func (.yield (B+1)) #[] #[]]++lb,W1,?_,?_,?_,?_,?_,?_⟩
 ·rw[hW1,hrc,hB];exact run_enterLoop_outer _ _ _ _ _
 ·simp only[resolve,hg];simp[go_sem]
 ·intro f' _;exact trivial
 ·simp[invoke,go_sem,eg]
 ·intro h;cases h
 ·refine (hiter (B+1) (fun k W=>I k W/\W.heap[B]? = some (.deferred (some []))/\W.heap[B+1]? = some (.loop (rc .ready))) W1 (fun k W h=>h.1) ?_ ⟨i1,t1⟩).mono ?_
  ·rintro k W hk ⟨hi,hd,hl⟩;have hy:=run_yield (P:=P) (args:=arg k) hl (by rw[hrc];exact hps k);rw[hrc] at hy;refine⟨fn,_,assign,body,hy,roundIn_of_wpIn hfn (wpIn_mono (hassign (B+1) k W hk hi (Array.getElem?_eq_some_iff.1 hl).1) ?_)⟩;rintro e a' Wa ⟨rfl,hta,ha⟩;have hla:=hta.2.trans hl;have hlt:=(Array.getElem?_eq_some_iff.1 hla).1;refine⟨_,run_beginRound hla (by rw[hrc]),wpIn_mono (hbody (B+1) k a' _ hk ((hA k a').put ha (Or.inr rfl) _) (by simp[World.putObj];omega) ⟨by omega,_,World.putObj_heap_same hlt⟩) ?_⟩;rintro e a3 W3 ⟨rfl,ht3,hi3⟩;have l3:W3.heap[B+1]? = some (.loop { rc .ready with state:=.busy }):=ht3.2.trans (World.putObj_heap_same hlt);have d3:W3.heap[B]? = some (.deferred (some [])):=ht3.1.trans ((World.putObj_heap_other (by omega)).trans (hta.1.trans hd));have hr:=run_endRound (P:=P) none l3;refine⟨_,_,hr,rfl,(hI (k+1)).put hi3 (Or.inr rfl) _,(World.putObj_heap_other (by omega)).trans d3,?_⟩;refine (World.putObj_heap_same (Array.getElem?_eq_some_iff.1 l3).1).trans ?_;rw[hrc];rfl
  ·rintro e W2 ⟨⟨v,rfl⟩,hi,hd,hl⟩;have hend:=run_endLoop (P:=P) hl (by rw[hrc];simp);refine⟨none,_,by rw[hend,hrc],hdone _ ((hI N).put hi (Or.inr rfl) _) ((World.putObj_heap_other (by omega)).trans hd)⟩
end

section
set_option maxRecDepth 100000
set_option maxHeartbeats 4000000
open Go.RowKit Go.Maps
attribute [local go_sem] Oper.semAt_some
def GP(c:Nat->Value)(i:Nat):Value:=.agg #[c (i*5),c (i*5+1),c (i*5+2),c (i*5+3),c (i*5+4)]
theorem NM{l Bs g N cap:Nat}{ao:Option Addr}{c:Nat->Value}{J:Nat->World->Prop}{W:World}(hN:N<=maxLen)(hao:0<N->ao=some ⟨g,0,none⟩)
  (hJ:∀k W,J k W->W.cell? ⟨Bs,0,none⟩=some (.slice ao N cap) /\ ∀j,j<N*5->W.cell? ⟨g,j,none⟩=some (c j))
  (hY:∀k W,k<N->J k W->YieldAt Fence.wide 0 Tryz.prog l #[.int .i64 ((N-1-k:Nat):Int),GP c (N-1-k)] W fun e W'=>e = .returned (.bool true)/\J (k+1) W') (h0:J 0 W) :
  CallsIn Fence.wide 0 Tryz.prog 204 (#[.func (.yield l) #[] #[]] ++ #[.pointer (some ⟨Bs,0,none⟩)]) W fun e W'=>(∃v,e = .returned v)/\J N W':=by
 have HJ:=Ab hJ;have HY:=Ab hY;have HAO:=Ab hao;have hb0:=(hJ 0 W h0).1;have H0:=Ab h0;unfold maxLen at hN;have w1:IntKind.i64.wrap ((N:Int)-1)=(N:Int)-1:=by rw[IntKind.wrap_i64];omega
 clear hJ hY h0 hao;refine callsIn_of_wp func204 rfl trivial ?_ rfl;simp only[ntmps204,List.size_toArray,List.length_cons,List.length_nil,Nat.reduceAdd,Nat.reduceSub,Array.replicate_succ,Array.replicate_zero,List.push_toArray,List.append_toArray,List.nil_append,List.cons_append]
 gi_wp2
 gi_loopw [3] (fun i wr=>∃r:Nat,r<=N/\i = .int .i64 ((r:Int)-1)/\J (N-r) wr) (fun i _=>((intOf i)+1).toNat)
 case atStart=>exact⟨N,Nat.le_refl _,rfl,by rw[Nat.sub_self];exact Aa H0⟩
 case round =>
  obtain⟨r,hr,rfl,hj⟩:=hrel;cases r with
  | zero =>
   have HJ2:=Ab hj;clear hj
   gi_wp2
   go_end0
   exact⟨⟨_,rfl⟩,Aa HJ2⟩
  | succ i =>
   obtain⟨hb,hc⟩:=Aa HJ _ _ hj;obtain rfl:=Aa HAO (by omega);have e1:(((i+1:Nat):Int)-1)=(i:Int):=by omega
   have hk:N-(i+1)<N:=by omega
   have e2:N-1-(N-(i+1))=i:=by omega
   have e3:N-(i+1)+1=N-i:=by omega
   have c0:=hc (i*5) (by omega);have c1:=hc (i*5+1) (by omega);have c2:=hc (i*5+2) (by omega);have c3:=hc (i*5+3) (by omega);have c4:=hc (i*5+4) (by omega);obtain⟨fn,tmps,assign,body,hy,hR⟩:=Aa HY _ _ hk hj;rw[e2,GP] at hy;rw[e3] at hR;have HR:=Ab hR;have hlt:(i:Int)<(N:Int):=by omega
   have hge:(0:Int)<=(i:Int):=by omega
   have w2:IntKind.i64.wrap ((i:Int)-1)=(i:Int)-1:=by rw[IntKind.wrap_i64];omega
   rw[e1];clear hj hc hR e1 e2 e3
   gi_wp2
   refine⟨rfl,(Aa HR).mono ?_⟩;rintro e W3 ⟨rfl,hJ3⟩;have HJ3:=Ab hJ3;clear hJ3
   gi_wp2
   go_roundw
   case rel=>exact⟨i,by omega,rfl,Aa HJ3⟩
   case measure=>simp[intOf]
theorem LO{a:Option Addr}{n cap:Nat}{w:World}:Calls Tryz.prog 158 #[.slice a n cap] w fun e w'=>e = .returned (.func (.func 204) #[] #[.pointer (some ⟨w.heap.size,0,none⟩)])/\w'=w.alloc (.cells #[.slice a n cap] 112):=by
 go_enter func158,ntmps158
 go_wp2_with (fail)
 go_ret;exact⟨rfl,rfl⟩
end

section
set_option maxRecDepth 100000
set_option maxHeartbeats 8000000
open Go.RowKit Go.Maps
theorem CG(w:World)(a:Addr)(m:Mode)(f:Fn)(b c:Array Value):(store a (.func f b c) m).run Tryz.prog w=stored Tryz.prog w a (.func f b c) m:=run_store Tryz.prog w a _ m rfl
attribute [local go_sem] Oper.semAt_some CG
theorem JU{w:World}{B e n:Nat}{v:Value}{xs:List Value}(h:w.ownsRow B e 5 v n xs):xs.length=n*5/\n<=maxLen /\ ∃ao cap g,v = .slice ao n cap/\(0<n->ao=some ⟨g,0,none⟩/\v.ownBlock=some g/\g<w.heap.size /\ ∀k (hk:k<xs.length),w.cell? ⟨g,k,none⟩=some xs[k]):=by
 obtain⟨hlen,h⟩:=h;rcases h with⟨h1,h0⟩|⟨g,cap,cur,h1,_,h3,h4,h5,h6,h7⟩
 ·subst h0;exact⟨hlen,Nat.zero_le _,none,0,0,h1,fun h=>by omega⟩
 ·refine⟨hlen,by omega,some ⟨g,0,none⟩,cap,g,h1,fun _=>⟨rfl,by rw[h1];rfl,(Array.getElem?_eq_some_iff.1 h3).1,fun k hk=>?_⟩⟩;have hkc:k<cur.size:=by rw[h6];omega
  have e:w.cell? ⟨g,k,none⟩=cur[k]?:=by simp[World.cell?,h3]
  rw[e,Array.getElem?_eq_getElem hkc];congr 1;have h8:xs[k]? = some cur[k]:=by
   rw[<- h7,List.getElem?_take,if_pos (by omega)];simp
  rw[List.getElem?_eq_getElem hk] at h8;exact (Option.some.inj h8).symm
theorem Jrn.at{w:World}{G:Nat->Prop}:∀ {xs:List Value} {cs:List Clo} {js:List Sp.Opn},Jrn w G xs cs js->cs.length=js.length /\ ∀i (h:i<js.length) (h2:i<cs.length),∃kv pv fv vv,xs[i*5]? = some (FC cs[i])/\xs[i*5+1]? = some kv/\xs[i*5+2]? = some pv/\xs[i*5+3]? = some fv/\xs[i*5+4]? = some vv/\F3 w G kv pv fv vv js[i]
 | [],[],[],_=>⟨rfl,fun i h=>by cases h⟩
 | cv::kv::pv::fv::vv::r,c::s,o::t,⟨e,a,b⟩=>by
  obtain⟨h1,h2⟩:=Jrn.at b;refine⟨by simp[h1],fun i h h'=>?_⟩;cases i with
  | zero=>exact⟨kv,pv,fv,vv,by rw[e];rfl,rfl,rfl,rfl,rfl,a⟩
  | succ i =>
   obtain⟨kv',pv',fv',vv',q0,q1,q2,q3,q4,q5⟩:=h2 i (by simpa using h) (by simpa using h');refine⟨kv',pv',fv',vv',?_,?_,?_,?_,?_,q5⟩
   ·rw[show (i+1)*5=i*5+5 by omega];exact q0
   ·rw[show (i+1)*5+1=i*5+1+5 by omega];exact q1
   ·rw[show (i+1)*5+2=i*5+2+5 by omega];exact q2
   ·rw[show (i+1)*5+3=i*5+3+5 by omega];exact q3
   ·rw[show (i+1)*5+4=i*5+4+5 by omega];exact q4
structure DF(L:Nat)(w wB:World)(D Bs g N B:Nat)(rv:Value)(Tb:Sp.A)(Mb M:Nat->Prop)(wb:World)(cs:List Clo)(k:Nat)(W:World):Prop where
 box:W.heap[Bs]? = wB.heap[Bs]?
 row:0<N->W.heap[g]? = w.heap[g]?
 doc:W.heap[D]? = w.heap[D]?
 os:W.os=w.os
 tape:W.tape=w.tape
 output:W.output=w.output
 size:B<=W.heap.size
 back:∃Tk Mk wk,Und L w.heap.size rv Tb Mb wb (cs.reverse.drop k) Tk Mk wk/\(∀j,Mk j->M j)/\BR L rv Tk Mk (fun j=>j=D\/j=Bs\/(0<N/\j=g)\/j=B\/j=B+1) wk W
structure Md(L:Nat)(w wB:World)(D Bs g N B:Nat)(rv:Value)(Tb:Sp.A)(Mb M:Nat->Prop)(wb:World)(cs:List Clo)(E:Array Value)(k X:Nat)(W:World):Prop where
 inv:DF L w wB D Bs g N B rv Tb Mb M wb cs k W
 ne:X≠B/\X≠B+1
 blk:W.heap[X]? = some (.cells E 230 (0,0))
section
variable{L:Nat}{w wB:World}{D Bs g N B:Nat}{rv:Value}{Tb:Sp.A}{Mb M:Nat->Prop}{wb:World}{cs:List Clo}
theorem DF.apart(hM:∀j,M j->j<w.heap.size)(hB:B=w.heap.size+1)(hBs:Bs=w.heap.size)(hD:D<w.heap.size)(hg:0<N->g<w.heap.size)(k:Nat):E6 B (DF L w wB D Bs g N B rv Tb Mb M wb cs k):=by
 intro W W' h e1 e2 e3 e4 e5;have hs:=h.size;obtain⟨Tk,Mk,wk,h1,h2,h3⟩:=h.back;refine⟨(e5 Bs (by omega) (by omega) (by omega)).trans h.box,fun hN=>(e5 g (by have:=hg hN;omega) (by have:=hg hN;omega) (by have:=hg hN;omega)).trans (h.row hN),(e5 D (by omega) (by omega) (by omega)).trans h.doc,e1.trans h.os,e2.trans h.tape,e3.trans h.output,Nat.le_trans hs e4,Tk,Mk,wk,h1,h2,?_⟩;obtain⟨T',r1,r2,r3,r4⟩:=h3.tree;refine⟨⟨T',r1,r2.move fun j hj=>e5 j (r2.lt j hj) (fun e=>(r4 j hj).2 (by rw[e];simp)) (fun e=>(r4 j hj).2 (by rw[e];simp)),r3,r4⟩,fun j hj=>(e5 j (h3.low j hj) (by have:=hM j (h2 j hj);omega) (by have:=hM j (h2 j hj);omega)).trans (h3.held j hj),fun j hj=>Nat.lt_of_lt_of_le (h3.low j hj) e4⟩
theorem Md.apart{E:Array Value}(hM:∀j,M j->j<w.heap.size)(hB:B=w.heap.size+1)(hBs:Bs=w.heap.size)(hD:D<w.heap.size)(hg:0<N->g<w.heap.size)(k X:Nat):E6 B (Md L w wB D Bs g N B rv Tb Mb M wb cs E k X):=by
 intro W W' h e1 e2 e3 e4 e5;exact⟨DF.apart hM hB hBs hD hg k W W' h.inv e1 e2 e3 e4 e5,h.ne,(e5 X (Array.getElem?_eq_some_iff.1 h.blk).1 h.ne.1 h.ne.2).trans h.blk⟩
theorem DF.turn{k:Nat}{c:Clo}{W:World}(hM:∀j,M j->j<w.heap.size)(hMD:¬ M D)(hMg:0<N -> ¬ M g)(hB:B=w.heap.size+1)(hBs:Bs=w.heap.size)(hD:D<w.heap.size)(hg:0<N->g<w.heap.size)(hl:B+1<W.heap.size)
  (h:DF L w wB D Bs g N B rv Tb Mb M wb cs k W) (hc:cs.reverse[k]? = some c) :
  Ent c.1/\Calls Tryz.prog c.1 c.2 W fun e W'=>e = .returned (.tuple #[])/\Two B W W'/\DF L w wB D Bs g N B rv Tb Mb M wb cs (k+1) W':=by
 obtain⟨Tk,Mk,wk,h1,h2,h3⟩:=h.back;obtain⟨hk,hck⟩:=List.getElem?_eq_some_iff.1 hc;rw[List.drop_eq_getElem_cons hk,hck] at h1;obtain⟨T0,M0,wk0,u1,u2,u3,u4,u5⟩:=h1;refine⟨u5,(u2 _ W (fun j hj=>?_) h3).mono ?_⟩
 ·have hs:=h.size;refine⟨fun hm=>?_,?_⟩
  ·have:=hM j (h2 j hm);rcases hj with rfl|rfl|⟨hN,rfl⟩|rfl|rfl
   ·exact hMD (h2 _ hm)
   ·omega
   ·exact hMg hN (h2 _ hm)
   ·omega
   ·omega
  ·rcases hj with rfl|rfl|⟨hN,rfl⟩|rfl|rfl
   ·omega
   ·omega
   ·have:=hg hN;omega
   ·omega
   ·omega
 ·rintro e W' ⟨rfl,t1,k1,k2,k3,k4,k5⟩;refine⟨rfl,⟨k5 _ (by simp),k5 _ (by simp)⟩,(k5 _ (by simp)).trans h.box,fun hN=>(k5 _ (Or.inr (Or.inr (Or.inl ⟨hN,rfl⟩)))).trans (h.row hN),(k5 _ (by simp)).trans h.doc,k1.trans h.os,k2.trans h.tape,k3.trans h.output,Nat.le_trans h.size k4,T0,M0,wk0,u1,fun j hj=>h2 j (u3 j hj),t1⟩
end
theorem Mp{L:Nat}{w:World}{D:Nat}{rv jn iv:Value}{ch:Bool}{Tb T:Sp.A}{Mb M:Nat->Prop}{wb:World}{js:List Sp.Opn}(h:Bm L w D rv jn iv ch Tb Mb wb T M js)(hMb:∀k,Mb k->k≠D/\k<w.heap.size) :
  Calls Tryz.prog 118 #[.pointer (some ⟨D,0,none⟩)] w fun e w'=>e = .returned (.tuple #[])/\DB w' D rv (.slice none 0 0) ch iv/\BR L rv Tb Mb (fun k=>k=D) wb w'/\w'.os=w.os/\w'.tape=w.tape/\w'.output=w.output/\w.heap.size<=w'.heap.size:=by
 obtain⟨xs,cs,hDB,hown,hjr,hund⟩:=h.ex;obtain⟨hxl,hl,ao,cap,g,hjn,hg⟩:=JU hown;obtain⟨hcl,hent⟩:=hjr.at
 obtain⟨N,hN⟩:∃N,N=js.length:=⟨_,rfl⟩
 rw[<- hN] at hxl hg hcl hjn hl;subst hjn;have hDl:=hDB.lt;have hM:∀j,M j->j<w.heap.size:=fun j hj=>(h.low j hj).1;obtain⟨c,hc⟩:∃c:Nat->Value,c=fun j=>xs[j]?.getD .nilFunc:=⟨_,rfl⟩
 obtain⟨wB,hwB⟩:∃wB,wB=w.alloc (.cells #[.slice ao N cap] 112):=⟨_,rfl⟩
 have hbx:wB.heap[w.heap.size]? = some (.cells #[.slice ao N cap] 112 (0,0)):=by rw[hwB];exact heap_alloc_new w _
 have hbs:wB.heap.size=w.heap.size+1:=by rw[hwB];simp
 have hbb:Below w.heap.size w wB:=by rw[hwB];exact (Below.refl _ _).alloc (Nat.le_refl _) _
 obtain⟨B,hB⟩:∃B,B=w.heap.size+1:=⟨_,rfl⟩
 have hgl:0<N->g<w.heap.size:=fun hp=>(hg hp).2.2.1;have hgM:0<N -> ¬ M g:=fun hp=>(h.jM g (hg hp).2.1).1;have h0:DF L w wB D w.heap.size g N B rv Tb Mb M wb cs 0 wB:=by
  refine⟨rfl,fun hp=>hbb.block g (hgl hp),hbb.block D hDl,hbb.os,hbb.tape,hbb.output,by omega,T,M,w,hund,fun _ hj=>hj,⟨T,rfl,h.tr.bel hbb,h.nd,fun k hk=>⟨fun hm=>(h.low k hm).2 hk,fun hn=>?_⟩⟩,fun k hk=>hbb.block k (hM k hk),fun k hk=>by have:=hM k hk;omega⟩;have hkl:=h.tr.lt k hk;rcases hn with rfl|rfl|⟨hp,rfl⟩|rfl|rfl
  ·exact h.dD.1 hk
  ·omega
  ·exact (h.jM _ (hg hp).2.1).2 hk
  ·omega
  ·omega
 have HTURN:=Ab (fun (k:Nat) (cc:Clo) (W:World) (hl2:B+1<W.heap.size) (hI:DF L w wB D w.heap.size g N B rv Tb Mb M wb cs k W) (hcc:cs.reverse[k]? = some cc)=>DF.turn hM h.dD.2 hgM hB rfl hDl hgl hl2 hI hcc);have HI:=Ab (fun k=>DF.apart (L:=L) (w:=w) (wB:=wB) (D:=D) (Bs:=w.heap.size) (g:=g) (N:=N) (B:=B) (rv:=rv) (Tb:=Tb) (Mb:=Mb) (M:=M) (wb:=wb) (cs:=cs) hM hB rfl hDl hgl k);have HA:=Ab (fun (E:Array Value) (k X:Nat)=>Md.apart (L:=L) (w:=w) (wB:=wB) (D:=D) (Bs:=w.heap.size) (g:=g) (N:=N) (B:=B) (rv:=rv) (Tb:=Tb) (Mb:=Mb) (M:=M) (wb:=wb) (cs:=cs) (E:=E) hM hB rfl hDl hgl k X);have HCLO:=Ab (fun (k:Nat) (hk:k<N)=>(show ∃ (fn:Nat) (caps:Array Value) (kk:Int) (pa:Option Addr) (pl pc:Nat) (x:Option Addr),cs.reverse[k]? = some (fn,caps)/\c ((N-1-k)*5) = .func (.func fn) #[] caps/\c ((N-1-k)*5+1) = .int .i64 kk/\c ((N-1-k)*5+2) = .slice pa pl pc/\c ((N-1-k)*5+3) = .slice none 0 0/\c ((N-1-k)*5+4) = .pointer x from by
  have h1:N-1-k<cs.length:=by omega
  obtain⟨kv,pv,fv,vv,q0,q1,q2,q3,q4,o1,_,o2,o3,o4⟩:=hent (N-1-k) (by omega) h1;obtain⟨pa,pl,pc,rfl⟩:∃pa pl pc,pv = .slice pa pl pc:=by
   rcases o2 with⟨_,a,c,e,_⟩|⟨g,o,cap,e,_⟩
   ·exact⟨_,_,_,e⟩
   ·exact⟨_,_,_,e⟩
  obtain⟨x,rfl⟩:∃x,vv = .pointer x:=by
   rcases o4 with⟨_,e⟩|⟨_,hr⟩
   ·exact⟨_,e⟩
   ·obtain⟨b,e,_⟩:=hr;exact⟨_,e⟩
  subst o1;subst o3;refine⟨cs[N-1-k].1,cs[N-1-k].2,(((js[N-1-k]'(by omega)).1:Nat):Int),pa,pl,pc,x,?_,?_,?_,?_,?_,?_⟩
  ·rw[List.getElem?_reverse (by omega),List.getElem?_eq_getElem (by omega)];congr 2;omega
  ·rw[hc];simp only[q0];rfl
  ·rw[hc];simp only[q1];rfl
  ·rw[hc];simp only[q2];rfl
  ·rw[hc];simp only[q3];rfl
  ·rw[hc];simp only[q4];rfl))
 have HCELL:=Ab (fun (hp:0<N)=>(show ∀j,j<N*5->w.cell? ⟨g,j,none⟩=some (c j) from fun j hj=>by
  rw[(hg hp).2.2.2 j (by omega),hc];simp[List.getElem?_eq_getElem (show j<xs.length by omega)]))
 have HAO:=Ab (fun (hp:0<N)=>(hg hp).1);have H0:=Ab h0;have HEND:=Ab (fun (W:World) (hI:DF L w wB D w.heap.size g N B rv Tb Mb M wb cs N W)=>(show BR L rv Tb Mb (fun j=>j=D\/j=w.heap.size\/(0<N/\j=g)\/j=B\/j=B+1) wb W from by
  obtain⟨Tk,Mk,wk,u1,_,u3⟩:=hI.back;rw[List.drop_eq_nil_of_le (by simp;omega)] at u1;exact u1 _ W u3))
 have HMB:=Ab hMb;have HDB:=Ab hDB;have c1:=hDB.c1;have HBX:=Ab hbx;have HBS:=Ab hbs;have hNl:N<=maxLen:=hl;clear h hown hjr hund hxl hg hcl hent hM hgM h0 hDB hbx hbb hMb hl hN hc;have HBe:=Ab hB;have HWB:=Ab hwB;clear hB hwB;refine (callsIn_wide (n:=0)).1 (callsIn_of_wp_marks func118 rfl trivial ?_ rfl);simp only[ntmps118,List.size_toArray,List.length_cons,List.length_nil,Nat.reduceAdd,Nat.reduceSub,Array.replicate_succ,Array.replicate_zero,List.push_toArray,List.append_toArray,List.nil_append,List.cons_append]
 gi_wp2_with (refine⟨trivial,rfl,?_⟩;gi_at_call 158;refine (callsIn_wide.2 LO).mono ?_;rintro e w' ⟨rfl,rfl⟩)
 rw[<- Aa HWB];refine II (gf:=204) (lb:=#[.pointer (some ⟨w.heap.size,0,none⟩)]) rfl (Hv func204 (by kernel_rfl) rfl) N (fun k=>#[.int .i64 ((N-1-k:Nat):Int),GP c (N-1-k)]) (fun _=>rfl) (DF L w wB D w.heap.size g N B rv Tb Mb M wb cs)
  (fun k a' W=>∃X,Md L w wB D w.heap.size g N B rv Tb Mb M wb cs #[c ((N-1-k)*5),c ((N-1-k)*5+1),c ((N-1-k)*5+2),c ((N-1-k)*5+3),c ((N-1-k)*5+4)] k X W/\a'={ tmps:=#[.pointer (some ⟨D,0,none⟩),undef,undef,.pointer (some ⟨X,0,none⟩),.pointer (some ⟨D,0,none⟩),.pointer (some ⟨D,0,none⟩),.pointer (some ⟨D,1,none⟩),.slice ao N cap,.func (.func 204) #[] #[.pointer (some ⟨w.heap.size,0,none⟩)],.int .i64 ((N-1-k:Nat):Int),GP c (N-1-k),undef,undef,undef,undef,undef,undef],defers:=[] })
  ?hI ?hA (Aa H0) ?hiter ?hassign ?hbody ?hdone
 case hI =>
  rw[Aa HBS,<- Aa HBe];exact Aa HI
 case hA =>
  rw[Aa HBS,<- Aa HBe];rintro k a' W W' ⟨X,hX,e⟩ e1 e2 e3 e4 e5;exact⟨X,Aa HA _ k X W W' hX e1 e2 e3 e4 e5,e⟩
 case hiter =>
  intro l J W hJI hY hJ0;refine NM (cap:=cap) hNl (Aa HAO) (fun k W hj=>?_) hY hJ0;have hi:=hJI k W hj;refine⟨?_,fun j hj2=>?_⟩
  ·have:=hi.box.trans (Aa HBX);simp[World.cell?,this]
  ·have hp:0<N:=by omega
   rw[World.cell?_of_block (w:=w) (hi.row hp)];exact Aa HCELL hp j hj2
 case hassign =>
  intro l k W hk hi hsz;rw[Aa HBS,<- Aa HBe] at hsz |-;have HII:=Ab hi;obtain⟨fn,caps,kk,pa,pl,pc,x,_,e0,e1,e2,e3,e4⟩:=Aa HCLO k hk;clear hi;unfold GP;rw[e0,e1,e2,e3,e4];clear e0 e1 e2 e3 e4
  gi_wp2
  have hb:=(Below.refl W.heap.size W).alloc (Nat.le_refl _) (.cells #[.func (.func fn) #[] caps,.int .i64 kk,.slice pa pl pc,.slice none 0 0,.pointer x] 230);exact⟨⟨hb.block B (by omega),hb.block (B+1) (by omega)⟩,⟨Aa HI k W _ (Aa HII) hb.os hb.tape hb.output hb.size fun j hj _ _=>hb.block j hj,⟨by omega,by omega⟩,heap_alloc_new W _⟩⟩
 case hbody =>
  rintro l k a' W hk ⟨X,hX,rfl⟩ hsz -;rw[Aa HBS,<- Aa HBe] at hsz |-;obtain⟨fn,caps,kk,pa,pl,pc,x,hc1,hc2,e1,e2,e3,e4⟩:=Aa HCLO k hk;obtain⟨hent,hcall⟩:=Aa HTURN k (fn,caps) W hsz hX.inv hc1;have x0:W.cell? ⟨X,0,none⟩=some (.func (.func fn) #[] caps):=by
   have:=hX.blk;rw[hc2] at this;simp[World.cell?,this]
  have HENT:=Ab hent;have HCALL:=Ab hcall;clear hent hcall hc1 hc2 hX e1 e2 e3 e4
  gi_wp2
  rw[Aa HENT,Oper.uponIn_enter];refine⟨trivial,fun hh=>(by cases hh),((callsIn_wide (n:=0)).2 (Aa HCALL)).mono ?_⟩;rintro e W' ⟨rfl,ht,hI2⟩
  gi_wp2
 case hdone =>
  intro W hI hK;rw[Aa HBS,<- Aa HBe] at hK |-;have hW:=Aa HEND W hI;have hBe:=Aa HBe;have hd:=(Aa HDB).kept hI.doc;have d1:=hd.c1;have dz:W.frozen? ⟨D,1,none⟩=false:=by simp[World.frozen?,show W.heap[D]? = _ from hd]
  have HW:=Ab hW;have HD2:=Ab hd;have HII:=Ab hI;clear hW hd hI hBe
  gi_wp2
  have hBe:=Aa HBe;have hK2:(W.setCell ⟨D,1,none⟩ (.slice none 0 0)).heap[B]? = some (.deferred (some [])):=(Below.heap_setCell _ _ _ _ (by have:=Aa HBe;show B≠D;omega)).trans hK;refine⟨by simp,.inl ⟨_,_,rfl,run_takeDeferred hK2,?_⟩⟩;refine⟨_,results_none rfl _ _ _,rfl,?_⟩;have hD0:DB (W.setCell ⟨D,1,none⟩ (.slice none 0 0)) D rv (.slice none 0 0) ch iv:=(Aa HD2).set1 _;have hne:∀j,j≠D->j≠B->((W.setCell ⟨D,1,none⟩ (.slice none 0 0)).putObj B (.deferred none)).heap[j]? = W.heap[j]?:=fun j h1 h2=>(World.putObj_heap_other (by omega)).trans (Below.heap_setCell _ _ _ _ h1);obtain⟨T',r1,r2,r3,r4⟩:=(Aa HW).tree;refine⟨(World.putObj_heap_other (by omega)).trans hD0,⟨⟨T',r1,r2.move fun j hj=>hne j (fun e=>(r4 j hj).2 (Or.inl e)) (fun e=>(r4 j hj).2 (by rw[e];simp)),r3,fun j hj=>⟨(r4 j hj).1,fun e=>(r4 j hj).2 (Or.inl e)⟩⟩,fun j hj=>?_,fun j hj=>?_⟩,(Aa HII).os,(Aa HII).tape,(Aa HII).output,?_⟩
  ·obtain⟨m1,m2⟩:=Aa HMB j hj;exact (hne j m1 (by omega)).trans ((Aa HW).held j hj)
  ·have:=(Aa HW).low j hj;simpa[World.putObj,World.setCell] using this
  ·have:=(Aa HII).size;simp[World.putObj,World.setCell];omega
end

section
set_option maxRecDepth 100000
set_option maxHeartbeats 8000000
open Go.RowKit Go.Maps
attribute [local go_sem] CG
section
variable{w:World}{D k:Nat}{pa fa y wp:Option Addr}{pl pc fl fc:Nat}
def opF(k:Nat):Nat:=[151,152,153,154,155,156].getD k 0
theorem Xp{k:Nat}(hk:k<6):∀args w,(callFunc (opF k) args).run Tryz.prog w = .ok (.enter (opF k) args) w:=by
 intro args w
 match k,hk with
 | 0,_=>exact Cf func151 (by kernel_rfl) rfl args w
 | 1,_=>exact Cf func152 (by kernel_rfl) rfl args w
 | 2,_=>exact Cf func153 (by kernel_rfl) rfl args w
 | 3,_=>exact Cf func154 (by kernel_rfl) rfl args w
 | 4,_=>exact Cf func155 (by kernel_rfl) rfl args w
 | 5,_=>exact Cf func156 (by kernel_rfl) rfl args w
theorem WK{Q:Nat->World->Prop}(hk:k<6)(hC:∀w1,Below w.heap.size w w1->Calls Tryz.prog (opF k) #[.pointer (some ⟨D,0,none⟩),opV k pa pl pc fa fl fc y] w1 fun e w'=>∃c:Nat,e = .returned (.int .i64 c)/\Hid (Q c w')) :
  Calls Tryz.prog 116 #[.pointer (some ⟨D,0,none⟩),opV k pa pl pc fa fl fc y] w fun e w'=>∃c:Nat,e = .returned (.int .i64 c)/\Q c w':=by
 have HC:=Ab hC;have HIN:=Ab (Xp hk);obtain⟨w6,hw6⟩:∃w6,w6=(w.alloc (.cells #[.int .i64 k,.slice pa pl pc,.slice fa fl fc,.pointer y] 178)).alloc (.cells #[.func (.func 151) #[.pointer (some ⟨D,0,none⟩)] #[],.func (.func 152) #[.pointer (some ⟨D,0,none⟩)] #[],.func (.func 153) #[.pointer (some ⟨D,0,none⟩)] #[],.func (.func 154) #[.pointer (some ⟨D,0,none⟩)] #[],.func (.func 155) #[.pointer (some ⟨D,0,none⟩)] #[],.func (.func 156) #[.pointer (some ⟨D,0,none⟩)] #[]] 225):=⟨_,rfl⟩
 have hob:OpB (w.alloc (.cells #[.int .i64 k,.slice pa pl pc,.slice fa fl fc,.pointer y] 178)) w.heap.size k pa pl pc fa fl fc y:=heap_alloc_new w _;have hba:=(Below.refl w.heap.size w).alloc (Nat.le_refl _) (.cells #[.int .i64 k,.slice pa pl pc,.slice fa fl fc,.pointer y] 178);have hob6:OpB w6 w.heap.size k pa pl pc fa fl fc y:=by rw[hw6];exact hob.low ((Below.refl _ _).alloc (Nat.le_refl _) _)
 have hrow6:w6.heap[w.heap.size+1]? = some (.cells #[.func (.func 151) #[.pointer (some ⟨D,0,none⟩)] #[],.func (.func 152) #[.pointer (some ⟨D,0,none⟩)] #[],.func (.func 153) #[.pointer (some ⟨D,0,none⟩)] #[],.func (.func 154) #[.pointer (some ⟨D,0,none⟩)] #[],.func (.func 155) #[.pointer (some ⟨D,0,none⟩)] #[],.func (.func 156) #[.pointer (some ⟨D,0,none⟩)] #[]] 225 (0,0)):=by
  have:=heap_alloc_new (w.alloc (.cells #[.int .i64 k,.slice pa pl pc,.slice fa fl fc,.pointer y] 178)) (.cells #[.func (.func 151) #[.pointer (some ⟨D,0,none⟩)] #[],.func (.func 152) #[.pointer (some ⟨D,0,none⟩)] #[],.func (.func 153) #[.pointer (some ⟨D,0,none⟩)] #[],.func (.func 154) #[.pointer (some ⟨D,0,none⟩)] #[],.func (.func 155) #[.pointer (some ⟨D,0,none⟩)] #[],.func (.func 156) #[.pointer (some ⟨D,0,none⟩)] #[]] 225);rw[World.size_alloc] at this;rw[hw6];exact this
 have hb6:Below w.heap.size w w6:=by rw[hw6];exact hba.alloc hba.size _
 have c0:=hob6.c0;have c1:=hob6.c1;have c2:=hob6.c2;have c3:=hob6.c3;have cf:w6.cell? ⟨w.heap.size+1,k,none⟩=some (.func (.func (opF k)) #[.pointer (some ⟨D,0,none⟩)] #[]):=by
  match k,hk with
  | 0,_=>simp[World.cell?,hrow6];rfl
  | 1,_=>simp[World.cell?,hrow6];rfl
  | 2,_=>simp[World.cell?,hrow6];rfl
  | 3,_=>simp[World.cell?,hrow6];rfl
  | 4,_=>simp[World.cell?,hrow6];rfl
  | 5,_=>simp[World.cell?,hrow6];rfl
 have HB:=Ab hb6;have HW6:=Ab hw6;have hk1:(k:Int)<6:=by omega
 have hk2:(0:Int)<=(k:Int):=by omega
 generalize opF k=fk at *;clear hC hob hba hob6 hrow6 hb6 hw6
 go_enter func116,ntmps116
 go_wp2_with (fail);rw[<- Aa HW6]
 clear HW6
 go_region_with (first
  | (rw[Aa HIN,Oper.upon_enter];refine (Aa HC _ ?_).mono ?_;exact⟨(Aa HB).os,(Aa HB).tape,(Aa HB).output,(Aa HB).size,(Aa HB).block⟩;rintro e w2 ⟨c,rfl,hq⟩))
 all_goals (
  go_wp2_with (fail)
  go_ret;exact⟨c,rfl,Aa hq⟩)
end
end
end Go.Proofs.YtdpomdelmdofmaaGreatDoor
