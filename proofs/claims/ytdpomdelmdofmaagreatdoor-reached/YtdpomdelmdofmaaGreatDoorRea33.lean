import Derived.Test.YtdpomdelmdofmaaGreatDoorRea32
open Nat renaming le_of_lt->AI,lt_of_lt_of_le->AT
open Go.World renaming cell?->AS
open Go.RowKit renaming Below->A1
open Go renaming World->A2
set_option maxRecDepth 100000
set_option maxHeartbeats 8000000
namespace Go.Proofs.YtdpomdelmdofmaaGreatDoor
open Go.Proofs.Tryz Go.RowKit Go.Maps
variable{w:A2}{B:Nat}
def kN:By:=[32,91,49,46,48,44,32,50,93]
def lE:By:=[91,49,44,50,93]
def lK:By:=[91]
theorem Scr.low{w':A2}{sb so:Nat}{l:List St}(h:Scr w sb so l)(hb:A1 B w w')(hs:sb<B):Scr w' sb so l:=by
 intro i hi;obtain⟨h1,h2,h3⟩:=h i hi;exact⟨(hb.cell (p:=⟨sb,_,none⟩) hs).trans h1,(hb.cell (p:=⟨sb,_,none⟩) hs).trans h2,(hb.cell (p:=⟨sb,_,none⟩) hs).trans h3⟩
def Vn(m:Nat)(a:List fE)(w:A2)(x:Ending)(w':A2):Prop:=∃A cs,x=.returned (.slice (some ⟨A,0,none⟩) m m)/\w.heap.size<=A/\w'.heap[A]? = some (.cells cs 46 (0,0))/\Id cs m a/\A1 w.heap.size w w'
def gY(d e:Int)(t:By):Nat×By:=match eH t d e with
 | (c,some v)=>(c,dZ top v)
 | (c,none)=>(c,[])
theorem Yq{d e n:Int}(hc:fH d e n=true)(t:By):∃k,fU d e n none [(1,t,[]),(2,[],[])]=[((gY d e t).1,0,[]),(k,0,(gY d e t).2)]:=by
 have s1:eM d e n none (1,t,[])=gX (eH t d e) none:=by
  grind [eM,gX,gY]
 have s2:∀v,eM d e n (some v) (2,[],[])=((0,0,dZ top v.1),some v):=fun v=>by
  unfold eM;rw[hc,if_pos rfl,if_neg (by simp),if_neg (by simp)];rfl
 have s3:eM d e n none (2,[],[])=((3,0,[]),none):=by
  grind [eM,gX,gY]
 simp only[fU,s1]
 grind [eM,gX,gY]
theorem TB(t:By):Plain [(1,t,[]),(2,[],[])]:=by
 intro o ho;simp only[List.mem_cons,List.not_mem_nil,or_false] at ho;rcases ho with rfl|rfl
 ·exact Or.inl (by omega)
 ·exact Or.inl (by omega)
def Ht(t:ByteArray):Array Value:=#[.int .i64 1,.string t,.string ⟨#[]⟩,.int .i64 2,.string ⟨#[]⟩,.string ⟨#[]⟩]
theorem Yl{g:Nat}{t:ByteArray}(h:w.heap[g]? = some (.cells (Ht t) 49 (0,0))):Scr w g 0 [(1,t.data.toList,[]),(2,[],[])]:=by
 intro i hi;have hc:∀j,w.cell? ⟨g,j,none⟩=(Ht t)[j]?:=fun j=>by simp[AS,h]
 rw[hc,hc,hc]
 match i,hi with
 | 0,_=>exact⟨rfl,by rfl,rfl⟩
 | 1,_=>grind [Ht]
theorem LN{a w':A2}(h:A1 B a w)(e:w'.heap=w.heap:=by rfl)(e1:w'.os=w.os:=by rfl)(e2:w'.tape=w.tape:=by rfl)(e3:w'.output=w.output:=by rfl):A1 B a w':=
 ⟨e1.trans h.os,e2.trans h.tape,e3.trans h.output,by rw[e];exact h.size,fun k hk=>by rw[e];exact h.block k hk⟩
theorem Hy{a a':A2}(h:A1 B a w)(e:a.heap=a'.heap:=by rfl)(e1:a.os=a'.os:=by rfl)(e2:a.tape=a'.tape:=by rfl)(e3:a.output=a'.output:=by rfl):A1 B a' w:=
 ⟨h.os.trans e1,h.tape.trans e2,h.output.trans e3,by rw[<- e];exact h.size,fun k hk=>by rw[<- e];exact h.block k hk⟩
theorem KY{d e n:Int}(hc:fH d e n=true)(t:ByteArray)(w:A2)(hT:Ai w):
  Calls Tryz.prog 19 #[.agg #[.int .i64 d,.int .i64 e,.int .i64 n],.string t] w fun x w'=>x=.returned (.tuple #[.string ⟨(gY d e t.data.toList).2.toArray⟩,.int .i64 (gY d e t.data.toList).1])/\A1 w.heap.size w w':=by
 have HT:=Ab hT;have qf:=hT.ng;have HC:=Ab hc;have hz:(w.alloc (.cells #[.int .i64 d,.int .i64 e,.int .i64 n] 23)).heap[w.heap.size]? = some (.cells #[.int .i64 d,.int .i64 e,.int .i64 n] 23 (0,0)):=C3 _ _ _ rfl;have qd:A1 w.heap.size w (w.alloc (.cells #[.int .i64 d,.int .i64 e,.int .i64 n] 23)):=(Below.refl _ _).alloc (Nat.le_refl _) _;clear hT hc
 go_enter func19,ntmps19
 go_wp2_with (fail);generalize w.alloc (.cells #[.int .i64 d,.int .i64 e,.int .i64 n] 23)=wa at *
 have hsa:w.heap.size<wa.heap.size:=by grind
 have z0:wa.cell? ⟨w.heap.size,0,none⟩=some (.int .i64 d):=by simp[AS,hz]
 have z1:wa.cell? ⟨w.heap.size,1,none⟩=some (.int .i64 e):=by simp[AS,hz]
 have z2:wa.cell? ⟨w.heap.size,2,none⟩=some (.int .i64 n):=by simp[AS,hz]
 have HZ:=Ab hz;have qb:=Ab qd;have q9:Hid (∀ (w0:A2) (g:Nat),A1 w.heap.size w w0->w0.heap[g]? = some (.cells (Ht t) 49 (0,0))->Calls Tryz.prog 24 #[.agg #[.int .i64 d,.int .i64 e,.int .i64 n],.slice (some ⟨g,0,none⟩) 2 2] w0 fun x w'=>Vn 2 (fU d e n none [(1,t.data.toList,[]),(2,[],[])]) w0 x w'):=by
  intro w0 g h0 h1;exact Hz (d:=d) (e:=e) (n:=n) (l:=[(1,t.data.toList,[]),(2,[],[])]) (m:=2) (cap:=2) (Yl h1) (TB _) rfl (by decide) (by decide) (by decide) (by grind) ((Aa HT).below (h0.mono qf))
 clear hz qd
 go_region_with (first
  | (go_at_call_of 26 t;refine (Bf 1 t _ _).mono ?_;rintro x w1 ⟨rfl,hb1⟩;have y0:=(hb1.cell (p:=⟨w.heap.size,0,none⟩) hsa).trans z0;have y1:=(hb1.cell (p:=⟨w.heap.size,1,none⟩) hsa).trans z1;have y2:=(hb1.cell (p:=⟨w.heap.size,2,none⟩) hsa).trans z2;have q5:=AT hsa hb1.size)
  | (go_at_call 26;refine (Bf 2 _ _ _).mono ?_;rintro x w2 ⟨rfl,hb2⟩;have x0:=(hb2.cell (p:=⟨w.heap.size,0,none⟩) q5).trans y0;have x1:=(hb2.cell (p:=⟨w.heap.size,1,none⟩) q5).trans y1;have x2:=(hb2.cell (p:=⟨w.heap.size,2,none⟩) q5).trans y2;have hs2:=AT q5 hb2.size)
  | (go_at_call 24;refine (Aa q9 _ _ ?_ ?_).mono ?_;exact LN ((((Aa qb).trans (Hy (hb1.mono (AI hsa)))).trans (Hy (hb2.mono (AI q5)))).alloc (AI hs2) _);exact C3 _ _ _ rfl;rintro x w3 ⟨A,cs,rfl,hA,q7,q6,hb3⟩;have q8:=LN ((((Aa qb).trans (Hy (hb1.mono (AI hsa)))).trans (Hy (hb2.mono (AI q5)))).alloc (AI hs2) _) |>.trans (hb3.mono (Nat.le_trans (AI hs2) (by simp)))))
 all_goals (
  replace q8:A1 w.heap.size w w3:=q8
  have qe:=Ab q8;obtain⟨k,hk⟩:=Yq (Aa HC) t.data.toList;rw[hk] at q6;obtain⟨hsz,hc⟩:=q6;have q0:=hc 0 (by simp);have q1:=hc 1 (by simp);simp only[List.getElem_cons_zero,List.getElem_cons_succ] at q0 q1;have q4:∀j,w3.cell? ⟨A,j,none⟩=cs[j]?:=fun j=>by simp[AS,q7]
  have qg:=(q4 0).trans q0.1;have qh:=(q4 5).trans q1.2.2;clear q0 q1 hc q4 q7 hsz q8 hb1 hb2 hb3 hk x0 x1 x2 y0 y1 y2 z0 z1 z2
  go_wp2_with (fail)
  go_quiet (fail)
  go_wp2_with (fail)
  go_ret2
  exact⟨rfl,LN (Aa qe)⟩)
structure kO where
 p:By
 kq:By
 p1:By
 p2:By
 x:By
 q:By
 key:By
 v:To
def kO.core(m:kO):By:=m.kq++(m.p1++58::(m.p2++m.x))
end Go.Proofs.YtdpomdelmdofmaaGreatDoor
