import Derived.Test.YtdpomdelmdofmaaGreatDoorUnd27
namespace Go.Proofs.YtdpomdelmdofmaaGreatDoor
open Go.Proofs.Tryz
section
open Go.RowKit
def Sp.cnt:Nat->Nat->Sp.By->Option Nat
 | 0,v,_=>some v
 | _+1,_,[]=>none
 | k+1,v,c::r=>if 128<=c.toNat/\c.toNat<192 then Sp.cnt k (64*v+c.toNat-128) r else none
def Sp.lead(c:Nat):Nat×Nat :=
 if 240<=c/\c<248 then (4,c-240) else if 224<=c/\c<240 then (3,c-224) else if 192<=c/\c<224 then (2,c-192) else if 128<=c then (0,0) else (1,c)
def Sp.least(n:Nat):Nat:=if n=2 then 128 else if n=3 then 2048 else if n=4 then 65536 else 0
def Sp.sca(l:Sp.By):Nat×Nat:=match l with
 | []=>(0,0)
 | c::r=>if (Sp.lead c.toNat).1=0\/r.length+1<(Sp.lead c.toNat).1 then (0,0) else match Sp.cnt ((Sp.lead c.toNat).1-1) (Sp.lead c.toNat).2 r with
  | none=>(0,0)
  | some v=>if v<Sp.least (Sp.lead c.toNat).1\/1114111<v\/(55296<=v/\v<57344) then (0,0) else (v,(Sp.lead c.toNat).1)
end

section
set_option maxRecDepth 100000
set_option maxHeartbeats 4000000
open Go.RowKit
def Plain(l:List Sp.St):Prop:=∀o∈l,NS o
def Scr(w:World)(sb so:Nat)(l:List Sp.St):Prop:=∀i (h:i<l.length),w.cell? ⟨sb,so+i*3,none⟩=some (.int .i64 l[i].1)/\w.cell? ⟨sb,so+i*3+1,none⟩=some (.string ⟨l[i].2.1.toArray⟩)/\w.cell? ⟨sb,so+i*3+2,none⟩=some (.string ⟨l[i].2.2.toArray⟩)
def G4(cs:Array Value)(n:Nat)(a:List Sp.Ans):Prop:=cs.size=n*3 /\ ∀i (h:i<a.length),cs[i*3]? = some (.int .i64 a[i].1)/\cs[i*3+1]? = some (.int .i64 a[i].2.1)/\cs[i*3+2]? = some (.string ⟨a[i].2.2.toArray⟩)
theorem U1:(Tryz.prog.info? 46).map (fun i=>(i.zero,i.size,i.bytes))=some (some (.agg #[.int .i64 0,.int .i64 0,.string ⟨#[]⟩]),3,32):=by kernel_rfl
theorem U0(n:Nat)(hn:n*32<=281474976710656)(w:World):(Instr.makeSlice 43 (.int .i64 n) (.int .i64 n)).run Tryz.prog w = .ok (.slice (some ⟨w.heap.size,0,none⟩) n n) (w.alloc (.cells (madeCells #[.int .i64 0,.int .i64 0,.string ⟨#[]⟩] (n*3)) 46)):=by
 obtain⟨i,hi,h⟩:=Option.map_eq_some_iff.1 U1;injection h with h1 h2;injection h2 with h2 h3;have:=run_make (P:=Tryz.prog) w 43 46 i _ underlying43 hi h1 .i64 .i64 n n (by omega) (by omega) (by rw[h3];omega) (by omega);rw[h2] at this;simpa[Value.cells] using this
theorem Kt{w:World}{A t:Nat}{cs:Array Value}{fr:Nat×Nat}(h:w.heap[A]? = some (.cells cs t fr))(o:Nat)(u:Value):(w.setCell ⟨A,o,none⟩ u).heap[A]? = some (.cells (cs.setIfInBounds o u) t fr):=by
 simp only[World.setCell,Array.getElem?_modify];rw[if_pos trivial,h];rfl
theorem G4.snoc{cs:Array Value}{n:Nat}{a:List Sp.Ans}(h:G4 cs n a)(x:Sp.Ans)(hl:a.length<n) :
  G4 (((cs.setIfInBounds (a.length*3) (.int .i64 x.1)).setIfInBounds (a.length*3+1) (.int .i64 x.2.1)).setIfInBounds (a.length*3+2) (.string ⟨x.2.2.toArray⟩)) n (a++[x]):=by
 obtain⟨h1,h2⟩:=h;refine⟨by simpa using h1,fun i hi=>?_⟩;simp only[Array.getElem?_setIfInBounds,Array.size_setIfInBounds];rw[List.length_append,List.length_singleton] at hi;by_cases hx:i=a.length
 ·subst hx;simp only[List.getElem_concat_length];refine⟨?_,?_,?_⟩;all_goals repeat' split
  all_goals first|rfl|omega|exact absurd trivial ‹¬True›
 ·have hia:i<a.length:=by omega
  rw[List.getElem_append_left hia];obtain⟨e1,e2,e3⟩:=h2 i hia;refine⟨?_,?_,?_⟩
  ·rw[if_neg (by omega),if_neg (by omega),if_neg (by omega)];exact e1
  ·rw[if_neg (by omega),if_neg (by omega),if_neg (by omega)];exact e2
  ·rw[if_neg (by omega),if_neg (by omega),if_neg (by omega)];exact e3
def NQ(d e n:Int)(l:List Sp.St)(S A m:Nat)(w0:World)(k:Nat)(w:World):Prop :=
 ∃p cs,SB w S d e n p/\Bn w (fun j=>w0.heap.size<=j/\j≠S/\j≠A) p d e (Sp.docAfter d e n none (l.take k))/\w.heap[A]? = some (.cells cs 46 (0,0))/\G4 cs m (Sp.run d e n none (l.take k))/\Below w0.heap.size w0 w
theorem NQ.next{d e n:Int}{l:List Sp.St}{S A m k:Nat}{w0 w:World}{cs:Array Value}(hk:k<l.length)(hm:m=l.length)(hSA:S≠A)(hA0:w0.heap.size<=A)(hS0:w0.heap.size<=S)(hA:w.heap[A]? = some (.cells cs 46 (0,0)))(hans:G4 cs m (Sp.run d e n none (l.take k)))(hb:Below w0.heap.size w0 w)
  {w1 w3:World} {o:Obj} (hw1:w1=w.alloc o) (hSw:S<w.heap.size) {F:Nat->Prop} (hF:∀j,F j->w0.heap.size<=j/\j≠S/\j≠A) (hst:Cu S d e n (Sp.docAfter d e n none (l.take k)) l[k] F w1 (.returned (Ap (Sp.step d e n (Sp.docAfter d e n none (l.take k)) l[k]).1)) w3) :
  NQ d e n l S A m w0 (k+1) (((w3.setCell ⟨A,k*3,none⟩ (.int .i64 (Sp.step d e n (Sp.docAfter d e n none (l.take k)) l[k]).1.1)).setCell ⟨A,k*3+1,none⟩ (.int .i64 (Sp.step d e n (Sp.docAfter d e n none (l.take k)) l[k]).1.2.1)).setCell ⟨A,k*3+2,none⟩ (.string ⟨(Sp.step d e n (Sp.docAfter d e n none (l.take k)) l[k]).1.2.2.toArray⟩)):=by
 obtain⟨_,hk3,p',hsb,hdoc⟩:=hst;have hAl:A<w.heap.size:=(Array.getElem?_eq_some_iff.1 hA).1;have hA1:w1.heap[A]? = some (.cells cs 46 (0,0)):=by rw[hw1];exact (Below.heap_alloc _ _ _ hAl).trans hA
 have hs1:w1.heap.size=w.heap.size+1:=by rw[hw1];simp
 have hA3:w3.heap[A]? = some (.cells cs 46 (0,0)):=(hk3.block A (by omega) (fun h=>by
  rcases h with h|h
  ·exact (hF A h).2.2 rfl
  ·omega)).trans hA1
 have hlen:(Sp.run d e n none (l.take k)).length=k:=by rw[Sp.run_len,List.length_take];omega
 have htk:l.take (k+1)=l.take k++[l[k]]:=List.take_succ_eq_append_getElem hk;have hrow:=Kt (Kt (Kt hA3 (k*3) (.int .i64 (Sp.step d e n (Sp.docAfter d e n none (l.take k)) l[k]).1.1)) (k*3+1) (.int .i64 (Sp.step d e n (Sp.docAfter d e n none (l.take k)) l[k]).1.2.1)) (k*3+2) (.string ⟨(Sp.step d e n (Sp.docAfter d e n none (l.take k)) l[k]).1.2.2.toArray⟩);have hans':=hans.snoc (Sp.step d e n (Sp.docAfter d e n none (l.take k)) l[k]).1 (by omega);rw[hlen,<- Sp.run_snoc,<- htk] at hans';have ho:∀j,j≠A->(((w3.setCell ⟨A,k*3,none⟩ (.int .i64 (Sp.step d e n (Sp.docAfter d e n none (l.take k)) l[k]).1.1)).setCell ⟨A,k*3+1,none⟩ (.int .i64 (Sp.step d e n (Sp.docAfter d e n none (l.take k)) l[k]).1.2.1)).setCell ⟨A,k*3+2,none⟩ (.string ⟨(Sp.step d e n (Sp.docAfter d e n none (l.take k)) l[k]).1.2.2.toArray⟩)).heap[j]? = w3.heap[j]?:=fun j hj =>
  (Below.heap_setCell _ _ _ _ hj).trans ((Below.heap_setCell _ _ _ _ hj).trans (Below.heap_setCell _ _ _ _ hj))
 refine⟨p',_,(ho S hSA).trans hsb,?_,hrow,hans',?_⟩
 ·rw[htk,Sp.after_snoc];refine hdoc.move fun j h1 _=>?_;have hj:w0.heap.size<=j/\j≠S/\j≠A:=by
   rcases h1 with h1|h1
   ·exact hF j h1.1
   ·exact⟨by have:=hb.size;omega,by omega,by omega⟩
  exact⟨ho j hj.2.2,hj⟩
 ·have hb1:Below w0.heap.size w0 w1:=by rw[hw1];exact hb.alloc (by omega) _
  have hb3:Below w0.heap.size w0 w3:=hb1.trans (hk3.below (fun j hj h=>by
   rcases h with h|h
   ·have:=(hF j h).1;omega
   ·omega) hb1.size)
  exact Aq (Aq (Aq hb3 A _ hA0 _) A _ hA0 _) A _ hA0 _
theorem G4.cell{cs:Array Value}{n:Nat}{a:List Sp.Ans}(h:G4 cs n a)(j:Nat)(hj:j<n*3):∃u,cs[j]? = some u:=by
 have:=h.1;exact⟨cs[j],by rw[Array.getElem?_eq_getElem (by omega)]⟩
theorem NP{d e n:Int}{sb so m cap:Nat}{l:List Sp.St}{w:World}(hs:Scr w sb so l)(hpl:Plain l)(hm:m=l.length)(hpos:0<m)(hcap:m<=cap)(hb:m*32<=281474976710656)(hsb:sb<w.heap.size)(hT:Af w) :
  Calls Tryz.prog 24 #[.agg #[.int .i64 d,.int .i64 e,.int .i64 n],.slice (some ⟨sb,so,none⟩) m cap] w fun x w'=>∃A cs,x = .returned (.slice (some ⟨A,0,none⟩) m m)/\w.heap.size<=A/\w'.heap[A]? = some (.cells cs 46 (0,0))/\G4 cs m (Sp.run d e n none l)/\Below w.heap.size w w':=by
 have hmk:=U0 m hb;have hnb:(m:Int)<=9223372036854775807:=by omega
 have HM:=Ab hm;have HS:=Ab hs;have HT:=Ab hT;have hng:=hT.ng;have HI0:Hid (NQ d e n l (w.heap.size+1+1) (w.heap.size+1) m w 0 (((w.alloc (.cells #[.int .i64 d,.int .i64 e,.int .i64 n] 23)).alloc (.cells (madeCells #[.int .i64 0,.int .i64 0,.string ⟨#[]⟩] (m*3)) 46)).alloc (.cells #[.int .i64 d,.int .i64 e,.int .i64 n,.pointer none] 62))):=by
  refine⟨.pointer none,madeCells #[.int .i64 0,.int .i64 0,.string ⟨#[]⟩] (m*3),?_,rfl,?_,⟨size_madeCells _ _,fun i hi=>absurd hi (by simp[Sp.run])⟩,(((Below.refl _ w).alloc (Nat.le_refl _) _).alloc (by simp) _).alloc (by simp;omega) _⟩
  ·show (((w.heap.push _).push _).push _)[w.heap.size+1+1]? = _;simp only[Array.getElem?_push,Array.size_push];rw[if_pos trivial]
  ·show (((w.heap.push _).push _).push _)[w.heap.size+1]? = _;simp only[Array.getElem?_push,Array.size_push];rw[if_neg (by omega),if_pos trivial]
 have HPL:=Ab hpl;clear hm hs hT hpl
 go_enter func24,ntmps24
 go_wp2_with (fail)
 go_loopw [16] (fun i wr=>∃k:Nat,k<=m/\i = .int .i64 k/\NQ d e n l (w.heap.size+1+1) (w.heap.size+1) m w k wr) (fun i _=>m-(intOf i).toNat)
 case atStart=>exact⟨0,by omega,rfl,Aa HI0⟩
 case round =>
  obtain⟨k,hk,rfl,p,cs,hsbk,hdoc,hrow,hans,hbel⟩:=hrel;by_cases hlt:k<m
  ·have hkl:k<l.length:=by have:=Aa HM;omega
   obtain⟨q0,q1,q2⟩:=Aa HS k hkl;have cc0:wr.cell? ⟨sb,so+k*3,none⟩=some (.int .i64 l[k].1):=(hbel.cell (p:=⟨sb,so+k*3,none⟩) hsb).trans q0;have cc1:wr.cell? ⟨sb,so+k*3+1,none⟩=some (.string ⟨l[k].2.1.toArray⟩):=(hbel.cell (p:=⟨sb,so+k*3+1,none⟩) hsb).trans q1;have cc2:wr.cell? ⟨sb,so+k*3+2,none⟩=some (.string ⟨l[k].2.2.toArray⟩):=(hbel.cell (p:=⟨sb,so+k*3+2,none⟩) hsb).trans q2;have HSB:=Ab hsbk;have HDOC:=Ab hdoc;have HROW:=Ab hrow;have HANS:=Ab hans;have HBEL:=Ab hbel;have hSlt:=hsbk.lt;have hle:=hbel.size;clear q0 q1 q2 hsbk hdoc hrow hans hbel HI0;have hA1:w.heap.size+1<wr.heap.size:=(Array.getElem?_eq_some_iff.1 (Aa HROW)).1
   go_wp2_with (fail);have hba:Below wr.heap.size wr (wr.alloc (.cells #[.int .i64 l[k].1,.string ⟨l[k].2.1.toArray⟩,.string ⟨l[k].2.2.toArray⟩] 49)):=(Below.refl _ _).alloc (Nat.le_refl _) _
   have hd1:Bn (wr.alloc (.cells #[.int .i64 l[k].1,.string ⟨l[k].2.1.toArray⟩,.string ⟨l[k].2.2.toArray⟩] 49)) (fun j=>w.heap.size<=j/\j≠w.heap.size+1+1/\j≠w.heap.size+1) p d e (Sp.docAfter d e n none (l.take k)):=(Aa HDOC).move fun j h1 h2=>⟨hba.block j h2,h1⟩
   refine (Tp l[k].1 l[k].2.1 l[k].2.2 (fun j hj=>⟨Nat.le_trans hng hj.1,hj.2.1⟩) ((Aa HPL) _ (List.getElem_mem hkl)) ((Aa HSB).low hba) hd1 (((Aa HT).below ((Aa HBEL).mono hng)).below (hba.mono (by omega)))).mono ?_;rintro x w3 hst;have hx:=hst.1;subst hx;have hst2:=hst;have hk3:=hst2.2.1;have hA3:w3.heap[w.heap.size+1]? = some (.cells cs 46 (0,0)):=(hk3.block _ (by simp;omega) (by omega)).trans ((Below.heap_alloc _ _ _ hA1).trans (Aa HROW));obtain⟨u0,hu0⟩:=(Aa HANS).cell (k*3) (by omega);obtain⟨u1,hu1⟩:=(Aa HANS).cell (k*3+1) (by omega);obtain⟨u2,hu2⟩:=(Aa HANS).cell (k*3+2) (by omega);have g0:w3.cell? ⟨w.heap.size+1,k*3,none⟩=some u0:=by simp[World.cell?,hA3,hu0]
   have g1:w3.cell? ⟨w.heap.size+1,k*3+1,none⟩=some u1:=by simp[World.cell?,hA3,hu1]
   have g2:w3.cell? ⟨w.heap.size+1,k*3+2,none⟩=some u2:=by simp[World.cell?,hA3,hu2]
   have z:∀o,w3.frozen? ⟨w.heap.size+1,o,none⟩=false:=fun o=>by simp[World.frozen?,hA3]
   have HST:=Ab hst;clear hst hst2 hk3 hA3 hba hd1 hu0 hu1 hu2;unfold Ap
   go_wp2_with (fail);exact⟨⟨k+1,by omega,by go_num,NQ.next hkl (Aa HM) (by omega) (by omega) (by omega) (Aa HROW) (Aa HANS) (Aa HBEL) rfl hSlt (fun j hj=>hj) (Aa HST)⟩,by simp[intOf];omega⟩
  ·go_wp2_with (fail)
   go_ret;have hkm:k=m:=by omega
   subst hkm;rw[List.take_of_length_le (by have:=Aa HM;omega)] at hans;exact⟨_,cs,rfl,by omega,hrow,hans,hbel⟩
end

section
set_option maxHeartbeats 1000000
open Go.RowKit
theorem Jf(c:Int)(m:Nat)(h0:-9223372036854775808<=c)(h1:c<=9223372036854775807)(hm:0<m)(hm2:m<=4611686018427387904)(w:World) :
  Calls Tryz.prog 23 #[.int .i64 c,.int .i64 m] w fun x w'=>(∃k:Nat,k<m/\x = .returned (.int .i64 k))/\w'=w:=by
 by_cases hc:c<0
 ·have e1:decide (c<0)=true:=by simpa using hc
  go_enter func23,ntmps23
  go_wp2_with (fail)
  go_ret;have e2:-(c+1).tmod (m:Int)=(-(c+1)) % (m:Int):=by
   rw[<- Int.neg_tmod,Int.tmod_eq_emod_of_nonneg (by omega)]
  have e3:=Int.emod_nonneg (-(c+1)) (show (m:Int)≠0 by omega);have e4:=Int.emod_lt_of_pos (-(c+1)) (show (0:Int)<m by omega);refine⟨⟨((-(c+1)) % (m:Int)).toNat,by omega,?_⟩,rfl⟩;rw[e2,Int.toNat_of_nonneg e3];rfl
 ·have e1:decide (c<0)=false:=by simpa using hc
  go_enter func23,ntmps23
  go_wp2_with (fail)
  go_ret;have e3:=Int.emod_nonneg c (show (m:Int)≠0 by omega)
  have e4:=Int.emod_lt_of_pos c (show (0:Int)<m by omega);refine⟨⟨(c % (m:Int)).toNat,by omega,?_⟩,rfl⟩;rw[Int.toNat_of_nonneg e3];rfl
theorem Br(k:Int)(s t:ByteArray)(w:World):Calls Tryz.prog 26 #[.int .i64 k,.string s,.string t] w fun x w'=>x = .returned (.agg #[.int .i64 k,.string s,.string t])/\Below w.heap.size w w':=by
 go_enter func26,ntmps26
 go_wp2_with (fail);refine bodyPost_ret (v:=.agg #[.int .i64 k,.string s,.string t]) (by simp[results,results26,go_sem]) rfl ⟨rfl,?_⟩
 exact (Below.refl _ w).alloc (Nat.le_refl _) _
theorem IY(t:Sp.By)(w:World):Calls Tryz.prog 30 #[A8 0 t,.string ⟨t.toArray⟩] w fun x w'=>x = .returned (.bool true)/\Below w.heap.size w w':=by
 unfold A8
 go_enter func30,ntmps30
 go_wp2_with (fail)
 go_ret;exact⟨rfl,(Below.refl _ w).alloc (Nat.le_refl _) _⟩
end

section
def Sp.t1:Sp.By:=[32,91,49,46,48,44,32,50,93]
def Sp.t2:Sp.By:=[91,49,44,50,93]
def Sp.t3:Sp.By:=[91]
end

section
open Go.RowKit
def Ye(m:Nat)(a:List Sp.Ans)(w:World)(x:Ending)(w':World):Prop:=∃A cs,x = .returned (.slice (some ⟨A,0,none⟩) m m)/\w.heap.size<=A/\w'.heap[A]? = some (.cells cs 46 (0,0))/\G4 cs m a/\Below w.heap.size w w'
end

section
open Go.RowKit
def Sp.u8(l:Sp.By):Bool:=if _h:l=[] then true else if _h2:(Sp.sca l).2=0 then false else Sp.u8 (l.drop (Sp.sca l).2)
termination_by l.length
decreasing_by
 have:0<l.length:=List.length_pos_iff.2 _h;rw[List.length_drop];omega
end
end Go.Proofs.YtdpomdelmdofmaaGreatDoor
