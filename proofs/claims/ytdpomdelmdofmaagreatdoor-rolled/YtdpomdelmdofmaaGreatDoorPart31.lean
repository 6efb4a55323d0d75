/-
  A document that is being changed, and its value; what a path leads to, told ahead; parent.
-/
import Derived.Test.YtdpomdelmdofmaaGreatDoorPart30
namespace Go.Proofs.YtdpomdelmdofmaaGreatDoor
open Go.RowKit Go.Maps
theorem kid_static {f:Nat} {w:World} {u:Value} {n:Sp.A} {t:Sp.By} {d:Sp.V} (h:TRep (f + 1) w u n) (hc:Sp.child (Sp.str (f + 1) n) t = .ok d) :
  ∃ i c x,Sp.pos (Sp.str (f + 1) n) t = some i ∧ (Sp.kids n)[i]? = some c ∧ Sp.str f c = d ∧ TRep f w x c:=by
 have h0:=h
 obtain ⟨b,g,x,rfl,rfl,h⟩:=h
 rcases h with ⟨k,hk,_,rfl,h⟩ | ⟨m,_,rfl,h,hbd⟩ | ⟨s,_,rfl,h⟩ | ⟨al,sl,ps,rfl,h,ho,hs,ha⟩ | ⟨es,m,D,rfl,h,ho,hp⟩
 ·rw [Sp.str_word] at hc; cases hc
 ·rw [Sp.str_num] at hc; cases hc
 ·rw [Sp.str_str] at hc; cases hc
 ·rw [Sp.str_arr] at hc
  obtain ⟨i,h1,h2,h3⟩:=Sp.child_arr_kid hc
  rw [List.getElem?_map] at h2
  obtain ⟨c,hc1,hc2⟩:=Option.map_eq_some_iff.1 h2
  obtain ⟨y,hy⟩:=ha.right (List.mem_of_getElem? hc1)
  exact ⟨i,c,y,h3,hc1,hc2,hy⟩
 ·have hh:Maps.has (.map D:DataW Value) (.string t) = Maps.has (.map (es.map fun p=>(p.1,Sp.str f p.2)):DataW Unit) (.string t) :=
   (Pt.mapR (P:=fun _ _=>True) (q:=Sp.str f) (hp.mono fun _ _ _=>trivial)).has _
  have hc':Sp.child (Sp.str (f + 1) (Sp.nd b g (.map es))) t = (if Maps.has (.map D:DataW Value) (.string t) then .ok ((DataW.map (es.map fun p=>(p.1,Sp.str f p.2))).atKey (.string t) .nil) else .error 11):=by
   rw [hh]; rfl
  rw [hc'] at hc
  by_cases hyes:Maps.has (.map D:DataW Value) (.string t) = true
  ·rw [if_pos hyes] at hc
   injection hc with hc
   obtain ⟨i,key,c,x,e1,e2,e3,e4,e5⟩:=hp.first (.string t) hyes
   refine ⟨i,c,x,?_,?_,?_,e5⟩
   ·rw [Sp.str_obj]
    unfold Sp.pos Sp.vObj
    simp only
    rw [List.findIdx?_map]
    exact e1
   ·rw [Sp.kids_obj,List.getElem?_map,e2]; rfl
   ·rw [← hc,atKey_def,List.find?_map,show ((fun p=>p.1.sameKey (.string t)) ∘ fun p:Lit × Sp.A=>(p.1,Sp.str f p.2)) = fun p=>p.1.sameKey (.string t) from rfl,e3]
    rfl
  ·rw [if_neg hyes] at hc; cases hc
theorem find_snoc (t:Sp.By):∀ (s:List Sp.By) (d:Sp.V),Sp.find d (s ++ [t]) = (match Sp.find d s with | .ok n=>Sp.child n t | .error c=>.error c)
 | [],d=>by
  show (match Sp.child d t with | .ok e=>Except.ok e | .error c=>.error c) = Sp.child d t
  cases Sp.child d t <;> rfl
 | u :: s,d=>by
  rw [List.cons_append,Sp.find,Sp.find]
  cases Sp.child d u with
  | ok e=>exact find_snoc t s e
  | error c=>rfl
theorem find_static {w:World} {v:Value} {d:Sp.V}:∀ {s:List Sp.By} {fa:Nat} {a:Sp.A},TRep fa w v a → Sp.find (Sp.str fa a) s = .ok d →
  ∃ f q n u,f + 1 + q.length = fa ∧ Sp.sub q a = some n ∧ TRep (f + 1) w u n ∧ Sp.str (f + 1) n = d ∧ Sp.posn (Sp.str fa a) s = some q:=by
 intro s fa a h hf
 suffices H:∀ (k:Nat) (s:List Sp.By) (d:Sp.V),s.length = k → Sp.find (Sp.str fa a) s = .ok d → ∃ f q n u,f + 1 + q.length = fa ∧ Sp.sub q a = some n ∧ TRep (f + 1) w u n ∧ Sp.str (f + 1) n = d ∧ Sp.posn (Sp.str fa a) s = some q from H _ s d rfl hf
 intro k
 induction k with
 | zero =>
  intro s d hl hf
  obtain rfl:s = []:=List.length_eq_zero_iff.1 hl
  injection hf with hf
  cases fa with
  | zero=>exact h.elim
  | succ fa=>exact ⟨fa,[],a,v,rfl,rfl,h,hf,rfl⟩
 | succ k ih =>
  intro s d hl hf
  obtain ⟨s0,t,rfl⟩:∃ s0 t,s = s0 ++ [t]:=⟨s.dropLast,s.getLast (fun e=>by rw [e] at hl; cases hl),(List.dropLast_concat_getLast _).symm⟩
  rw [find_snoc] at hf
  cases hs:Sp.find (Sp.str fa a) s0 with
  | error c=>rw [hs] at hf; cases hf
  | ok n' =>
   rw [hs] at hf
   obtain ⟨f,q,n,u,h1,h2,h3,rfl,h5⟩:=ih s0 n' (by simpa using hl) hs
   obtain ⟨i,c,x,e1,e2,e3,e4⟩:=kid_static h3 hf
   cases f with
   | zero=>exact e4.elim
   | succ f =>
    have hvs:Sp.vsub q (Sp.str fa a) = some (Sp.str (f + 1 + 1) n):=by
     rw [← h1]
     exact sub_vsub (f:=f + 1 + 1) (by rw [h1]; exact h) h2
    refine ⟨f,q ++ [i],c,x,by simp; omega,sub_snoc e2 h2,e4,e3,?_⟩
    exact Sp.posn_snoc e1 (show (Sp.vkids (Sp.str (f + 1 + 1) n))[i]? = some (Sp.str (f + 1) c) by rw [kids_str_of h3,List.getElem?_map,e2]; rfl) h5 hvs
theorem Find_ok {fa f:Nat} {a n:Sp.A} {w:World} {v pv u:Value} {l:List Sp.By} {q:List Nat} {d:Sp.V} (hl:∀ t ∈ l,t.length ≤ 1048576) (hn:l.length ≤ 1048576) (hr:Rng w) (h:TRep fa w v a) (hp:Toks w pv l) (hf:Sp.find (Sp.str fa a) l = .ok d)
  (hs:Sp.sub q a = some n) (hu:TRep (f + 1) w u n) (hpos:Sp.posn (Sp.str fa a) l = some q) :
  Calls Tryz.prog 81 #[pv,v] w fun e w'=>e = .returned (.tuple #[u,.int .i64 0]) ∧ Below w.heap.size w w':=by
 refine (FindT hl hn hr h hp).mono ?_
 rintro e w' ⟨ho,hb⟩
 refine ⟨?_,hb⟩
 rw [hf] at ho
 obtain ⟨u2,rfl,_,f2,p2,n2,h1,h2,h3,h4,h5⟩:=ho
 rw [hpos] at h5
 injection h5 with h5
 subst h5
 rw [hs] at h2
 injection h2 with h2
 subst h2
 obtain rfl:=h3.uniq hu
 rfl
theorem Find_err {fa c:Nat} {a:Sp.A} {w:World} {v pv:Value} {l:List Sp.By} (hl:∀ t ∈ l,t.length ≤ 1048576) (hn:l.length ≤ 1048576) (hr:Rng w) (h:TRep fa w v a) (hp:Toks w pv l) (hf:Sp.find (Sp.str fa a) l = .error c) :
  Calls Tryz.prog 81 #[pv,v] w fun e w'=>e = .returned (.tuple #[.pointer none,.int .i64 c]) ∧ Below w.heap.size w w':=by
 refine (FindT hl hn hr h hp).mono ?_
 rintro e w' ⟨ho,hb⟩
 refine ⟨?_,hb⟩
 rw [hf] at ho
 exact ho
theorem DocT.bel {w w':World} {D R:Nat} {wp jn iv:Value} {ch:Bool} {T a:Sp.A} {x:Sp.V} (h:DocT w D R wp jn iv ch T a x) (hb:Below w.heap.size w w'):DocT w' D R wp jn iv ch T a x :=
 h.move (hb.block D h.db.lt) fun k hk=>hb.block k (h.tr.lt k hk)
structure JS (w:World) (D R:Nat) (wp:Option Addr) (jn iv:Value) (ch:Bool) (Tb:Sp.A) (Mb:Nat → Prop) (wb:World) (T a:Sp.A) (v:Sp.V) (M:Nat → Prop) (js:List Sp.Opn):Prop where
 j:JDoc (top + 1) w D (.pointer (some ⟨R,0,none⟩)) jn iv ch Tb Mb wb T M js
 t:DocT w D R (.pointer wp) jn iv ch T a v
section
variable {w w':World} {D R:Nat} {wp:Option Addr} {jn iv:Value} {ch:Bool} {Tb T a:Sp.A} {Mb M:Nat → Prop} {wb:World} {v:Sp.V} {js:List Sp.Opn}
theorem JS.of {g:Nat} {a1:Sp.A} (hJ:JDoc (top + 1) w D (.pointer (some ⟨R,0,none⟩)) jn iv ch Tb Mb wb T M js) (e:Sp.er (top + 1) T = Sp.er (top + 1) (Sp.nd R g (.slice [a1] []))) :
  ∃ wp a,JS w D R wp jn iv ch Tb Mb wb T a (Sp.str top a1) M js:=by
 obtain ⟨g',al',rfl,e2⟩:=hJ.tr.er_arr e
 obtain ⟨a,rfl⟩:∃ a,al' = [a]:=List.length_eq_one_iff.1 (by have:=congrArg List.length e2; simpa using this)
 ·have e3:Sp.er top a = Sp.er top a1:=by
   have:=congrArg (fun l:List Sp.A=>l[0]?) e2
   simpa using this
  obtain ⟨xs,cs,g1,_⟩:=hJ.ex
  obtain ⟨u,hu⟩:∃ u,TRep top w u a:=TRep.at (f:=top) (p:=[0]) hJ.tr rfl
  obtain ⟨b,rfl,_⟩:=hu.ptr
  exact ⟨some ⟨b,0,none⟩,a,hJ,⟨g1,hJ.tr,⟨g',rfl⟩,hu,by rw [← Sp.str_er,e3,Sp.str_er],hJ.nd,hJ.dD.1⟩⟩
theorem JS.bel (h:JS w D R wp jn iv ch Tb Mb wb T a v M js) (hb:Below w.heap.size w w'):JS w' D R wp jn iv ch Tb Mb wb T a v M js:=⟨(h.j.bel hb).1,h.t.bel hb⟩
theorem JS.grow (h:JS w D R wp jn iv ch Tb Mb wb T a v M js) (hb:Below w.heap.size w w') (X:Nat → Prop) (hX:∀ k,X k → w.heap.size ≤ k ∧ k < w'.heap.size) :
  JS w' D R wp jn iv ch Tb Mb wb T a v (fun k=>M k ∨ X k) js ∧ JEx M (fun k=>M k ∨ X k) w w':=⟨⟨(h.j.grow hb X hX).1,h.t.bel hb⟩,(h.j.grow hb X hX).2⟩
theorem parent_ok {g o n cap f:Nat} {t:Sp.By} {s:List Sp.By} {q:List Nat} {m:Sp.A} {u:Option Addr} {d:Sp.V} (h:JS w D R wp jn iv ch Tb Mb wb T a v M js) (hr:Rng w) (hp:TokAt w g o (s ++ [t])) (hn:s.length = n) (hc:n + 1 ≤ cap) (hcm:cap ≤ maxLen) (hl:∀ t ∈ s,t.length ≤ 1048576) (hnl:n ≤ 1048576)
  (hf:Sp.find v s = .ok d) (hs:Sp.sub q a = some m) (hu:TRep (f + 1) w (.pointer u) m) (hpos:Sp.posn v s = some q) :
  Calls Tryz.prog 243 #[.pointer (some ⟨D,0,none⟩),.slice (some ⟨g,o,none⟩) (n + 1) cap] w fun e w'=>e = .returned (.tuple #[.pointer u,.string ⟨t.toArray⟩,.int .i64 0]) ∧ Below w.heap.size w w':=by
 subst hn
 have hv:=h.t.str
 subst hv
 refine (dParent_any (t:=t) (wp:=wp) (R:=fun _ x c=>x = u ∧ c = 0) hc hcm hp.1 ?_ (fun w1 hb1=>WholeT (h.t.bel hb1)) (fun w1 hb1=>?_)).mono ?_
 ·rw [hp.2 s.length (by simp)]; simp
 ·refine (Find_ok hl hnl (hr.kept hb1) (h.t.bel hb1).sub (Or.inr ⟨g,o,cap,rfl,by omega,hcm,Nat.lt_of_lt_of_le hp.1 hb1.size,fun k hk=>?_⟩) hf hs (hu.bel hb1) hpos).mono ?_
  ·have h1:=hp.2 k (by simp; omega)
   rw [(hb1.cell (p:=⟨g,o + k,none⟩) hp.1).trans h1,List.getElem_append_left hk]
  ·rintro e w' ⟨rfl,hb⟩
   exact ⟨u,0,rfl,⟨rfl,rfl⟩,hb⟩
 ·rintro e w' ⟨x,c,rfl,⟨w2,⟨rfl,rfl⟩,_⟩,hb⟩
  exact ⟨rfl,hb⟩
theorem parent_err {g o n cap c:Nat} {t:Sp.By} {s:List Sp.By} (h:JS w D R wp jn iv ch Tb Mb wb T a v M js) (hr:Rng w) (hp:TokAt w g o (s ++ [t])) (hn:s.length = n) (hc:n + 1 ≤ cap) (hcm:cap ≤ maxLen) (hl:∀ t ∈ s,t.length ≤ 1048576) (hnl:n ≤ 1048576) (hf:Sp.find v s = .error c) :
  Calls Tryz.prog 243 #[.pointer (some ⟨D,0,none⟩),.slice (some ⟨g,o,none⟩) (n + 1) cap] w fun e w'=>e = .returned (.tuple #[.pointer none,.string ⟨t.toArray⟩,.int .i64 c]) ∧ Below w.heap.size w w':=by
 subst hn
 have hv:=h.t.str
 subst hv
 refine (dParent_any (t:=t) (wp:=wp) (R:=fun _ x c'=>x = none ∧ c' = c) hc hcm hp.1 ?_ (fun w1 hb1=>WholeT (h.t.bel hb1)) (fun w1 hb1=>?_)).mono ?_
 ·rw [hp.2 s.length (by simp)]; simp
 ·refine (Find_err hl hnl (hr.kept hb1) (h.t.bel hb1).sub (Or.inr ⟨g,o,cap,rfl,by omega,hcm,Nat.lt_of_lt_of_le hp.1 hb1.size,fun k hk=>?_⟩) hf).mono ?_
  ·have h1:=hp.2 k (by simp; omega)
   rw [(hb1.cell (p:=⟨g,o + k,none⟩) hp.1).trans h1,List.getElem_append_left hk]
  ·rintro e w' ⟨rfl,hb⟩
   exact ⟨none,c,rfl,⟨rfl,rfl⟩,hb⟩
 ·rintro e w' ⟨x,c',rfl,⟨w2,⟨rfl,rfl⟩,_⟩,hb⟩
  exact ⟨rfl,hb⟩
end
end Go.Proofs.YtdpomdelmdofmaaGreatDoor

namespace Go.Proofs.YtdpomdelmdofmaaGreatDoor
open Go.RowKit Go.Maps
abbrev plZ:Value:=.agg #[.slice none 0 0,.pointer none,.string ⟨#[]⟩,.int .i64 0]
def ZB (w:World) (g:Nat):Prop:=w.heap[g]? = some (.cells #[.slice none 0 0,.pointer none,.string ⟨#[]⟩,.int .i64 0] 185 (0,0))
section
variable {w:World} {g:Nat}
theorem ZB.lt (h:ZB w g):g < w.heap.size:=(Array.getElem?_eq_some_iff.1 h).1
theorem ZB.c0 (h:ZB w g):w.cell? ⟨g,0,none⟩ = some (.slice none 0 0):=by simp [World.cell?,show w.heap[g]? = _ from h]
theorem ZB.c1 (h:ZB w g):w.cell? ⟨g,1,none⟩ = some (.pointer none):=by simp [World.cell?,show w.heap[g]? = _ from h]
theorem ZB.c2 (h:ZB w g):w.cell? ⟨g,2,none⟩ = some (.string ⟨#[]⟩):=by simp [World.cell?,show w.heap[g]? = _ from h]
theorem ZB.c3 (h:ZB w g):w.cell? ⟨g,3,none⟩ = some (.int .i64 0):=by simp [World.cell?,show w.heap[g]? = _ from h]
theorem ZB.fz (h:ZB w g) (o:Nat):w.frozen? ⟨g,o,none⟩ = false:=by simp [World.frozen?,show w.heap[g]? = _ from h]
theorem ZB.low {w':World} (h:ZB w g) (hb:Below w.heap.size w w'):ZB w' g:=(hb.block g h.lt).trans h
end
theorem below_set4 {B:Nat} {w w':World} (h:Below B w w') (b:Nat) (hb:B ≤ b) (x0 x1 x2 x3:Value):Below B w ((((w'.setCell ⟨b,0,none⟩ x0).setCell ⟨b,1,none⟩ x1).setCell ⟨b,2,none⟩ x2).setCell ⟨b,3,none⟩ x3) :=
 below_set (below_set (below_set (below_set h b _ hb _) b _ hb _) b _ hb _) b _ hb _
section
variable {w:World} {D R g o n cap:Nat} {jn iv:Value} {ch:Bool} {t:Sp.By} {x y:Option Addr} {c c2:Nat}
set_option maxHeartbeats 2000000 in
theorem dTaken_nil {a:Option Addr} (hd:DB w D (.pointer (some ⟨R,0,none⟩)) jn ch iv) :
  Calls Tryz.prog 198 #[.pointer (some ⟨D,0,none⟩),.slice a 0 cap] w fun e w'=>e = .returned (.tuple #[plV (.slice none 0 0) R [] 0,.int .i64 0]) ∧ Below w.heap.size w w':=by
 have hDl:=hd.lt
 have q0:∀ o,(w.alloc o).cell? ⟨D,0,none⟩ = some (.pointer (some ⟨R,0,none⟩)):=fun o=>(World.cell?_of_block (w:=w) (Below.heap_alloc w o D hDl)).trans hd.c0
 have d0:=q0 (.cells #[.slice none 0 0,.pointer none,.string ⟨#[]⟩,.int .i64 0] 185)
 clear hd q0
 go_enter Tryz.func198,Tryz.ntmps198
 go_wp2_with (fail)
 refine bodyPost_ret (v:=.tuple #[plV (.slice none 0 0) R [] 0,.int .i64 0]) (by simp [results,Tryz.results198,go_sem]) rfl ⟨rfl,?_⟩
 exact (Below.refl _ _).alloc (Nat.le_refl _) _
set_option maxHeartbeats 2000000 in
theorem dTaken_par (hc:c ≠ 0) (hP:∀ w1,Below w.heap.size w w1 → Calls Tryz.prog 243 #[.pointer (some ⟨D,0,none⟩),.slice (some ⟨g,o,none⟩) (n + 1) cap] w1 fun e w'=>e = .returned (.tuple #[.pointer x,.string ⟨t.toArray⟩,.int .i64 c]) ∧ Below w1.heap.size w1 w') :
  Calls Tryz.prog 198 #[.pointer (some ⟨D,0,none⟩),.slice (some ⟨g,o,none⟩) (n + 1) cap] w fun e w'=>e = .returned (.tuple #[plZ,.int .i64 c]) ∧ Below w.heap.size w w':=by
 have HP:=hide hP
 have hzb:ZB (w.alloc (.cells #[.slice none 0 0,.pointer none,.string ⟨#[]⟩,.int .i64 0] 185)) w.heap.size:=heap_alloc_new w _
 have HBA:=hide ((Below.refl w.heap.size w).alloc (Nat.le_refl _) (.cells #[.slice none 0 0,.pointer none,.string ⟨#[]⟩,.int .i64 0] 185))
 have HZ:=hide hzb
 have e1:¬ ((n:Int) + 1 = 0):=by omega
 have e2:((c:Int) != 0) = true:=by rw [bne_iff_ne]; omega
 have e3:((c:Int) == 0) = false:=by rw [beq_eq_false_iff_ne]; omega
 have hs:w.heap.size < (w.alloc (.cells #[.slice none 0 0,.pointer none,.string ⟨#[]⟩,.int .i64 0] 185)).heap.size:=hzb.lt
 clear hP hzb
 go_enter Tryz.func198,Tryz.ntmps198
 go_wp2_with (fail)
 generalize w.alloc (.cells #[.slice none 0 0,.pointer none,.string ⟨#[]⟩,.int .i64 0] 185) = wa at *
 refine (unhide HP wa (unhide HBA)).mono ?_
 rintro e w2 ⟨rfl,hb⟩
 have h2:=(unhide HZ).low hb
 have g0:=h2.c0
 have g1:=h2.c1
 have g2:=h2.c2
 have g3:=h2.c3
 have z:=h2.fz
 have HB:=hide ((unhide HBA).trans (hb.mono (by omega)))
 clear h2 hb
 go_wp2_with (fail)
 refine bodyPost_ret (v:=.tuple #[plZ,.int .i64 c]) (by simp [results,Tryz.results198,go_sem,g0,g1,g2,g3]) rfl ⟨rfl,below_set4 (unhide HB) _ (Nat.le_refl _) _ _ _ _⟩
set_option maxHeartbeats 2000000 in
theorem dTaken_kid (hc:c ≠ 0) (hP:∀ w1,Below w.heap.size w w1 → Calls Tryz.prog 243 #[.pointer (some ⟨D,0,none⟩),.slice (some ⟨g,o,none⟩) (n + 1) cap] w1 fun e w'=>e = .returned (.tuple #[.pointer x,.string ⟨t.toArray⟩,.int .i64 0]) ∧ Below w1.heap.size w1 w')
  (hK:∀ w1,Below w.heap.size w w1 → Calls Tryz.prog 111 #[.pointer x,.string ⟨t.toArray⟩] w1 fun e w'=>e = .returned (.tuple #[.pointer y,.int .i64 c]) ∧ Below w1.heap.size w1 w') :
  Calls Tryz.prog 198 #[.pointer (some ⟨D,0,none⟩),.slice (some ⟨g,o,none⟩) (n + 1) cap] w fun e w'=>e = .returned (.tuple #[plZ,.int .i64 c]) ∧ Below w.heap.size w w':=by
 have HP:=hide hP
 have HK:=hide hK
 have hzb:ZB (w.alloc (.cells #[.slice none 0 0,.pointer none,.string ⟨#[]⟩,.int .i64 0] 185)) w.heap.size:=heap_alloc_new w _
 have HBA:=hide ((Below.refl w.heap.size w).alloc (Nat.le_refl _) (.cells #[.slice none 0 0,.pointer none,.string ⟨#[]⟩,.int .i64 0] 185))
 have HZ:=hide hzb
 have e1:¬ ((n:Int) + 1 = 0):=by omega
 have e2:((c:Int) != 0) = true:=by rw [bne_iff_ne]; omega
 have e3:((c:Int) == 0) = false:=by rw [beq_eq_false_iff_ne]; omega
 have hs:w.heap.size < (w.alloc (.cells #[.slice none 0 0,.pointer none,.string ⟨#[]⟩,.int .i64 0] 185)).heap.size:=hzb.lt
 clear hP hK hzb
 go_enter Tryz.func198,Tryz.ntmps198
 go_wp2_with (fail)
 generalize w.alloc (.cells #[.slice none 0 0,.pointer none,.string ⟨#[]⟩,.int .i64 0] 185) = wa at *
 refine (unhide HP wa (unhide HBA)).mono ?_
 rintro e w2 ⟨rfl,hb⟩
 have h2:=(unhide HZ).low hb
 have HZ2:=hide h2
 have hs2:w.heap.size < w2.heap.size:=h2.lt
 have HB:=hide ((unhide HBA).trans (hb.mono (by omega)))
 clear h2 hb
 go_wp2_with (fail)
 refine (unhide HK w2 (unhide HB)).mono ?_
 rintro e w3 ⟨rfl,hb⟩
 have h2:=(unhide HZ2).low hb
 have g0:=h2.c0
 have g1:=h2.c1
 have g2:=h2.c2
 have g3:=h2.c3
 have z:=h2.fz
 have HB3:=hide ((unhide HB).trans (hb.mono (by omega)))
 clear h2 hb
 go_wp2_with (fail)
 refine bodyPost_ret (v:=.tuple #[plZ,.int .i64 c]) (by simp [results,Tryz.results198,go_sem,g0,g1,g2,g3]) rfl ⟨rfl,below_set4 (unhide HB3) _ (Nat.le_refl _) _ _ _ _⟩
set_option maxHeartbeats 2000000 in
theorem dTaken_ok {b:Nat} {io:Option Nat} (hP:∀ w1,Below w.heap.size w w1 → Calls Tryz.prog 243 #[.pointer (some ⟨D,0,none⟩),.slice (some ⟨g,o,none⟩) (n + 1) cap] w1 fun e w'=>e = .returned (.tuple #[.pointer (some ⟨b,0,none⟩),.string ⟨t.toArray⟩,.int .i64 0]) ∧ Below w1.heap.size w1 w')
  (hK:∀ w1,Below w.heap.size w w1 → Calls Tryz.prog 111 #[.pointer (some ⟨b,0,none⟩),.string ⟨t.toArray⟩] w1 fun e w'=>(∃ y,e = .returned (.tuple #[.pointer y,.int .i64 0])) ∧ Below w1.heap.size w1 w')
  (hI:∀ w1,Below w.heap.size w w1 → Calls Tryz.prog 147 #[.string ⟨t.toArray⟩] w1 fun e w'=>e = .returned (idxV io) ∧ Below w1.heap.size w1 w') :
  Calls Tryz.prog 198 #[.pointer (some ⟨D,0,none⟩),.slice (some ⟨g,o,none⟩) (n + 1) cap] w fun e w'=>e = .returned (.tuple #[plV (.slice (some ⟨g,o,none⟩) (n + 1) cap) b t (io.getD 0),.int .i64 0]) ∧ Below w.heap.size w w':=by
 obtain ⟨i,bo,hio⟩:∃ (i:Nat) (bo:Bool),idxV io = .tuple #[.int .i64 i,.bool bo] ∧ io.getD 0 = i:=by
  cases io with
  | none=>exact ⟨0,false,rfl,rfl⟩
  | some i=>exact ⟨i,true,rfl,rfl⟩
 rw [hio.1] at hI
 rw [hio.2]
 clear hio
 have HP:=hide hP
 have HK:=hide hK
 have HI:=hide hI
 have hzb:ZB (w.alloc (.cells #[.slice none 0 0,.pointer none,.string ⟨#[]⟩,.int .i64 0] 185)) w.heap.size:=heap_alloc_new w _
 have HBA:=hide ((Below.refl w.heap.size w).alloc (Nat.le_refl _) (.cells #[.slice none 0 0,.pointer none,.string ⟨#[]⟩,.int .i64 0] 185))
 have HZ:=hide hzb
 have e1:¬ ((n:Int) + 1 = 0):=by omega
 have hs:w.heap.size < (w.alloc (.cells #[.slice none 0 0,.pointer none,.string ⟨#[]⟩,.int .i64 0] 185)).heap.size:=hzb.lt
 clear hP hK hI hzb
 go_enter Tryz.func198,Tryz.ntmps198
 go_wp2_with (fail)
 generalize w.alloc (.cells #[.slice none 0 0,.pointer none,.string ⟨#[]⟩,.int .i64 0] 185) = wa at *
 refine (unhide HP wa (unhide HBA)).mono ?_
 rintro e w2 ⟨rfl,hb⟩
 have h2:=(unhide HZ).low hb
 have HZ2:=hide h2
 have hs2:w.heap.size < w2.heap.size:=h2.lt
 have HB:=hide ((unhide HBA).trans (hb.mono (by omega)))
 clear h2 hb
 go_wp2_with (fail)
 refine (unhide HK w2 (unhide HB)).mono ?_
 rintro e w3 ⟨⟨y,rfl⟩,hb⟩
 have h2:=(unhide HZ2).low hb
 have HZ3:=hide h2
 have hs3:w.heap.size < w3.heap.size:=h2.lt
 have HB3:=hide ((unhide HB).trans (hb.mono (by omega)))
 clear h2 hb
 go_wp2_with (fail)
 refine (unhide HI w3 (unhide HB3)).mono ?_
 rintro e w4 ⟨rfl,hb⟩
 have h2:=(unhide HZ3).low hb
 have g0:=h2.c0
 have g1:=h2.c1
 have g2:=h2.c2
 have g3:=h2.c3
 have z:=h2.fz
 have HB4:=hide ((unhide HB3).trans (hb.mono (by omega)))
 clear h2 hb
 go_wp2_with (fail)
 refine bodyPost_ret (v:=.tuple #[plV (.slice (some ⟨g,o,none⟩) (n + 1) cap) b t i,.int .i64 0]) (by simp [results,Tryz.results198,go_sem,g0,g1,g2,g3]) rfl ⟨rfl,below_set4 (unhide HB4) _ (Nat.le_refl _) _ _ _ _⟩
end
end Go.Proofs.YtdpomdelmdofmaaGreatDoor

namespace Go.Proofs.YtdpomdelmdofmaaGreatDoor
open Go.RowKit Go.Maps
section
variable {w:World} {D R g o n cap b i:Nat} {t:Sp.By} {y:Option Addr} {c:Nat} {Q1 Q2 Q3:Option Addr → World → Prop} {Q4:Option Addr → Nat → Nat → World → Prop} {Q:World → Prop}
set_option maxHeartbeats 2000000 in
theorem dAdd_nil {a:Option Addr} (hC:Calls Tryz.prog 201 #[.pointer y] w fun e w'=>∃ x,e = .returned (.pointer x) ∧ Hid (Q1 x w'))
  (hR:∀ x w1,Q1 x w1 → w1.cell? ⟨D,0,none⟩ = some (.pointer (some ⟨R,0,none⟩)))
  (hP:∀ x w1,Q1 x w1 → Calls Tryz.prog 160 #[.pointer (some ⟨D,0,none⟩),plV (.slice none 0 0) R [] 0,.pointer x] w1 fun e w'=>e = .returned (.tuple #[]) ∧ Q w') :
  Calls Tryz.prog 197 #[.pointer (some ⟨D,0,none⟩),.slice a 0 cap,.pointer y] w fun e w'=>e = .returned (.int .i64 0) ∧ Q w':=by
 have HC:=hide hC
 have HR:=hide hR
 have HP:=hide hP
 clear hC hR hP
 go_enter Tryz.func197,Tryz.ntmps197
 go_wp2_with (fail)
 refine (unhide HC).mono ?_
 rintro e w1 ⟨x,rfl,hq⟩
 have c0:=unhide HR x w1 (unhide hq)
 go_wp2_with (fail)
 refine (unhide HP x w1 (unhide hq)).mono ?_
 rintro e w2 ⟨rfl,hq2⟩
 have HQ2:=hide hq2
 clear hq2
 go_wp2_with (fail)
 go_ret
 exact ⟨rfl,unhide HQ2⟩
set_option maxHeartbeats 2000000 in
theorem dAdd_par (hc:c ≠ 0) (hC:Calls Tryz.prog 201 #[.pointer y] w fun e w'=>∃ x,e = .returned (.pointer x) ∧ Hid (Q1 x w'))
  (hP:∀ x w1,Q1 x w1 → Calls Tryz.prog 243 #[.pointer (some ⟨D,0,none⟩),.slice (some ⟨g,o,none⟩) (n + 1) cap] w1 fun e w'=>e = .returned (.tuple #[.pointer none,.string ⟨t.toArray⟩,.int .i64 c]) ∧ Q w') :
  Calls Tryz.prog 197 #[.pointer (some ⟨D,0,none⟩),.slice (some ⟨g,o,none⟩) (n + 1) cap,.pointer y] w fun e w'=>e = .returned (.int .i64 c) ∧ Q w':=by
 have HC:=hide hC
 have HP:=hide hP
 have e1:¬ ((n:Int) + 1 = 0):=by omega
 have e2:((c:Int) != 0) = true:=by rw [bne_iff_ne]; omega
 have e3:((c:Int) == 0) = false:=by rw [beq_eq_false_iff_ne]; omega
 clear hC hP hc
 go_enter Tryz.func197,Tryz.ntmps197
 go_wp2_with (fail)
 refine (unhide HC).mono ?_
 rintro e w1 ⟨x,rfl,hq⟩
 go_wp2_with (fail)
 refine (unhide HP x w1 (unhide hq)).mono ?_
 rintro e w2 ⟨rfl,hq2⟩
 have HQ2:=hide hq2
 clear hq2
 go_wp2_with (fail)
 go_ret
 exact ⟨rfl,unhide HQ2⟩
set_option maxHeartbeats 2000000 in
theorem dAdd_obj (hC:Calls Tryz.prog 201 #[.pointer y] w fun e w'=>∃ x,e = .returned (.pointer x) ∧ Hid (Q1 x w'))
  (hP:∀ x w1,Q1 x w1 → Calls Tryz.prog 243 #[.pointer (some ⟨D,0,none⟩),.slice (some ⟨g,o,none⟩) (n + 1) cap] w1 fun e w'=>e = .returned (.tuple #[.pointer (some ⟨b,0,none⟩),.string ⟨t.toArray⟩,.int .i64 0]) ∧ Q2 x w')
  (hK:∀ x w2,Q2 x w2 → w2.cell? ⟨b,0,none⟩ = some (.int .i64 6))
  (hU:∀ x w2,Q2 x w2 → Calls Tryz.prog 160 #[.pointer (some ⟨D,0,none⟩),plV (.slice (some ⟨g,o,none⟩) (n + 1) cap) b t 0,.pointer x] w2 fun e w'=>e = .returned (.tuple #[]) ∧ Q w') :
  Calls Tryz.prog 197 #[.pointer (some ⟨D,0,none⟩),.slice (some ⟨g,o,none⟩) (n + 1) cap,.pointer y] w fun e w'=>e = .returned (.int .i64 0) ∧ Q w':=by
 have HC:=hide hC
 have HP:=hide hP
 have HK:=hide hK
 have HU:=hide hU
 have e1:¬ ((n:Int) + 1 = 0):=by omega
 clear hC hP hK hU
 go_enter Tryz.func197,Tryz.ntmps197
 go_wp2_with (fail)
 refine (unhide HC).mono ?_
 rintro e w1 ⟨x,rfl,hq⟩
 go_wp2_with (fail)
 refine (unhide HP x w1 (unhide hq)).mono ?_
 rintro e w2 ⟨rfl,hq2⟩
 have HQ2:=hide hq2
 have c0:=unhide HK x w2 hq2
 clear hq2
 go_wp2_with (fail)
 refine (unhide HU x w2 (unhide HQ2)).mono ?_
 rintro e w3 ⟨rfl,hq3⟩
 have HQ3:=hide hq3
 clear hq3
 go_wp2_with (fail)
 go_ret
 exact ⟨rfl,unhide HQ3⟩
set_option maxHeartbeats 2000000 in
theorem dAdd_leaf {k:Int} (h5:k ≠ 5) (h6:k ≠ 6) (hC:Calls Tryz.prog 201 #[.pointer y] w fun e w'=>∃ x,e = .returned (.pointer x) ∧ Hid (Q1 x w'))
  (hP:∀ x w1,Q1 x w1 → Calls Tryz.prog 243 #[.pointer (some ⟨D,0,none⟩),.slice (some ⟨g,o,none⟩) (n + 1) cap] w1 fun e w'=>e = .returned (.tuple #[.pointer (some ⟨b,0,none⟩),.string ⟨t.toArray⟩,.int .i64 0]) ∧ Q w')
  (hK:∀ w2,Q w2 → w2.cell? ⟨b,0,none⟩ = some (.int .i64 k)) :
  Calls Tryz.prog 197 #[.pointer (some ⟨D,0,none⟩),.slice (some ⟨g,o,none⟩) (n + 1) cap,.pointer y] w fun e w'=>e = .returned (.int .i64 11) ∧ Q w':=by
 have HC:=hide hC
 have HP:=hide hP
 have HK:=hide hK
 have e1:¬ ((n:Int) + 1 = 0):=by omega
 clear hC hP hK
 go_enter Tryz.func197,Tryz.ntmps197
 go_wp2_with (fail)
 refine (unhide HC).mono ?_
 rintro e w1 ⟨x,rfl,hq⟩
 go_wp2_with (fail)
 refine (unhide HP x w1 (unhide hq)).mono ?_
 rintro e w2 ⟨rfl,hq2⟩
 have HQ2:=hide hq2
 have c0:=unhide HK w2 hq2
 clear hq2
 go_wp2_with (fail)
 go_ret
 exact ⟨rfl,unhide HQ2⟩
set_option maxHeartbeats 2000000 in
theorem dAdd_slot (hc:c ≠ 0) (hC:Calls Tryz.prog 201 #[.pointer y] w fun e w'=>∃ x,e = .returned (.pointer x) ∧ Hid (Q1 x w'))
  (hP:∀ x w1,Q1 x w1 → Calls Tryz.prog 243 #[.pointer (some ⟨D,0,none⟩),.slice (some ⟨g,o,none⟩) (n + 1) cap] w1 fun e w'=>e = .returned (.tuple #[.pointer (some ⟨b,0,none⟩),.string ⟨t.toArray⟩,.int .i64 0]) ∧ Q2 x w')
  (hK:∀ x w2,Q2 x w2 → w2.cell? ⟨b,0,none⟩ = some (.int .i64 5))
  (hS:∀ x w2,Q2 x w2 → Calls Tryz.prog 244 #[.pointer (some ⟨b,0,none⟩),.string ⟨t.toArray⟩] w2 fun e w'=>e = .returned (.tuple #[.int .i64 0,.int .i64 c]) ∧ Q w') :
  Calls Tryz.prog 197 #[.pointer (some ⟨D,0,none⟩),.slice (some ⟨g,o,none⟩) (n + 1) cap,.pointer y] w fun e w'=>e = .returned (.int .i64 c) ∧ Q w':=by
 have HC:=hide hC
 have HP:=hide hP
 have HK:=hide hK
 have HS:=hide hS
 have e1:¬ ((n:Int) + 1 = 0):=by omega
 have e2:((c:Int) != 0) = true:=by rw [bne_iff_ne]; omega
 have e3:((c:Int) == 0) = false:=by rw [beq_eq_false_iff_ne]; omega
 clear hC hP hK hS hc
 go_enter Tryz.func197,Tryz.ntmps197
 go_wp2_with (fail)
 refine (unhide HC).mono ?_
 rintro e w1 ⟨x,rfl,hq⟩
 go_wp2_with (fail)
 refine (unhide HP x w1 (unhide hq)).mono ?_
 rintro e w2 ⟨rfl,hq2⟩
 have HQ2:=hide hq2
 have c0:=unhide HK x w2 hq2
 clear hq2
 go_wp2_with (fail)
 refine (unhide HS x w2 (unhide HQ2)).mono ?_
 rintro e w3 ⟨rfl,hq3⟩
 have HQ3:=hide hq3
 clear hq3
 go_wp2_with (fail)
 go_ret
 exact ⟨rfl,unhide HQ3⟩
set_option maxHeartbeats 2000000 in
theorem dAdd_arr (hC:Calls Tryz.prog 201 #[.pointer y] w fun e w'=>∃ x,e = .returned (.pointer x) ∧ Hid (Q1 x w'))
  (hP:∀ x w1,Q1 x w1 → Calls Tryz.prog 243 #[.pointer (some ⟨D,0,none⟩),.slice (some ⟨g,o,none⟩) (n + 1) cap] w1 fun e w'=>e = .returned (.tuple #[.pointer (some ⟨b,0,none⟩),.string ⟨t.toArray⟩,.int .i64 0]) ∧ Q2 x w')
  (hK:∀ x w2,Q2 x w2 → w2.cell? ⟨b,0,none⟩ = some (.int .i64 5))
  (hS:∀ x w2,Q2 x w2 → Calls Tryz.prog 244 #[.pointer (some ⟨b,0,none⟩),.string ⟨t.toArray⟩] w2 fun e w'=>e = .returned (.tuple #[.int .i64 i,.int .i64 0]) ∧ Q3 x w')
  (hN:∀ x w3,Q3 x w3 → Calls Tryz.prog 245 #[.slice (some ⟨g,o,none⟩) (n + 1) cap,.int .i64 i] w3 fun e w'=>∃ g2 c2,e = .returned (.slice (some ⟨g2,0,none⟩) (n + 1) c2) ∧ Q4 x g2 c2 w')
  (hU:∀ x g2 c2 w4,Q4 x g2 c2 w4 → Calls Tryz.prog 205 #[.pointer (some ⟨D,0,none⟩),plV (.slice (some ⟨g2,0,none⟩) (n + 1) c2) b [] i,.pointer x] w4 fun e w'=>e = .returned (.tuple #[]) ∧ Q w') :
  Calls Tryz.prog 197 #[.pointer (some ⟨D,0,none⟩),.slice (some ⟨g,o,none⟩) (n + 1) cap,.pointer y] w fun e w'=>e = .returned (.int .i64 0) ∧ Q w':=by
 have HC:=hide hC
 have HP:=hide hP
 have HK:=hide hK
 have HS:=hide hS
 have HN:=hide hN
 have HU:=hide hU
 have e1:¬ ((n:Int) + 1 = 0):=by omega
 clear hC hP hK hS hN hU
 go_enter Tryz.func197,Tryz.ntmps197
 go_wp2_with (fail)
 refine (unhide HC).mono ?_
 rintro e w1 ⟨x,rfl,hq⟩
 go_wp2_with (fail)
 refine (unhide HP x w1 (unhide hq)).mono ?_
 rintro e w2 ⟨rfl,hq2⟩
 have HQ2:=hide hq2
 have c0:=unhide HK x w2 hq2
 clear hq2
 go_wp2_with (fail)
 refine (unhide HS x w2 (unhide HQ2)).mono ?_
 rintro e w3 ⟨rfl,hq3⟩
 have HQ3:=hide hq3
 clear hq3 c0
 go_wp2_with (fail)
 refine (unhide HN x w3 (unhide HQ3)).mono ?_
 rintro e w4 ⟨g2,c2,rfl,hq4⟩
 have HQ4:=hide hq4
 clear hq4
 go_wp2_with (fail)
 refine (unhide HU x g2 c2 w4 (unhide HQ4)).mono ?_
 rintro e w5 ⟨rfl,hq5⟩
 have HQ5:=hide hq5
 clear hq5
 go_wp2_with (fail)
 go_ret
 exact ⟨rfl,unhide HQ5⟩
end
end Go.Proofs.YtdpomdelmdofmaaGreatDoor

namespace Go.Proofs.YtdpomdelmdofmaaGreatDoor
open Go.RowKit Go.Maps
def OpEnd (D R:Nat) (iv:Value) (ch:Bool) (Tb:Sp.A) (Mb:Nat → Prop) (wb:World) (M:Nat → Prop) (js:List Sp.Opn) (w:World) (r:Except Nat (Sp.V × List Sp.Opn)) (e:Ending) (w':World):Prop:=match r with
 | .ok (v',j)=>e = .returned (.int .i64 0) ∧ ∃ wp jn T a M',JS w' D R wp jn iv ch Tb Mb wb T a v' M' (js ++ j) ∧ JEx M M' w w'
 | .error c=>e = .returned (.int .i64 c) ∧ ∃ wp jn T a v' M' js',JS w' D R wp jn iv ch Tb Mb wb T a v' M' js' ∧ JEx M M' w w'
structure Sp.Fit (d x:Int) (B:Nat) (v:Sp.V):Prop where
 gd:Sp.gd d x top 1 v
 dd:d ≤ 500
 sz:Sp.sz top v ≤ B
theorem Sp.nar_of {d x:Int}:∀ {f:Nat} {lv:Int} {v:Sp.V},Sp.gd d x f lv v → Sp.sz f v ≤ 1000000000000 → Sp.nar f v
 | 0,_,_,_,_=>trivial
 | f + 1,lv,v,h,hs=>by
  have hk:=Sp.kids_sz (f:=f) (v:=v)
  have hkid:∀ i e,(Sp.vkids v)[i]? = some e → Sp.nar f e:=fun i e he=>by
   have h1:=Sp.sz_vkid (e:=.nil) h he
   have h2:Sp.sz f (.nil:Sp.V) = 0:=by cases f <;> rfl
   exact Sp.nar_of (Sp.gd_kid h he) (by omega)
  obtain ⟨_,h⟩:=h
  rcases h with ⟨k,_,rfl⟩ | ⟨s,_,rfl⟩ | ⟨n,_,_,_,rfl⟩ | ⟨es,_,rfl⟩ | ⟨es,_,_,rfl⟩
  ·trivial
  ·trivial
  ·trivial
  ·refine ⟨Nat.le_trans hk hs,fun e he=>?_⟩
   obtain ⟨i,hi,e'⟩:=List.mem_iff_getElem.1 he
   exact hkid i e (show es[i]? = some e by rw [List.getElem?_eq_getElem hi,e'])
  ·refine ⟨by rw [← List.length_map (f:=Prod.snd)]; exact Nat.le_trans hk hs,fun p hp=>?_⟩
   obtain ⟨i,hi,e'⟩:=List.mem_iff_getElem.1 hp
   exact hkid i p.2 (show (es.map Prod.snd)[i]? = some p.2 by rw [List.getElem?_map,List.getElem?_eq_getElem hi,e']; rfl)
def Sp.PathOk (p:List Sp.By):Prop:=(p.map fun t=>t.length + 1).sum ≤ 100000 ∧ ∀ t ∈ p,Sp.Ut t
theorem sum_len:∀ (p:List Sp.By),p.length ≤ (p.map fun t=>t.length + 1).sum ∧ ∀ t ∈ p,t.length ≤ (p.map fun t=>t.length + 1).sum
 | []=>⟨Nat.le_refl _,fun t h=>by cases h⟩
 | a :: r=>by
  obtain ⟨h1,h2⟩:=sum_len r
  simp only [List.map_cons,List.sum_cons,List.length_cons]
  refine ⟨by omega,fun t h=>?_⟩
  rcases List.mem_cons.1 h with rfl | h
  ·omega
  ·have:=h2 t h; omega
theorem Sp.PathOk.len {p:List Sp.By} (h:Sp.PathOk p):p.length ≤ 100000:=Nat.le_trans (sum_len p).1 h.1
theorem Sp.PathOk.tok {p:List Sp.By} (h:Sp.PathOk p):∀ t ∈ p,t.length ≤ 100000:=fun t ht=>Nat.le_trans ((sum_len p).2 t ht) h.1
def Frs (w:World) (xv:Sp.V) (x:Option Addr) (w1:World):Prop:=Below w.heap.size w w1 ∧ Tr top w.heap.size w1 (.pointer x) xv
theorem Frs.bel {w w1 w2:World} {xv:Sp.V} {x:Option Addr} (h:Frs w xv x w1) (hb:Below w1.heap.size w1 w2):Frs w xv x w2 :=
 ⟨h.1.trans (hb.mono h.1.size),h.2.move (Nat.le_refl _) fun k _ hk=>hb.block k hk⟩
theorem insert_at {L f:Nat} {p:List Nat} {w:World} {D i:Nat} {rv jn iv:Value} {ch:Bool} {Tb T m c:Sp.A} {Mb M:Nat → Prop} {wb:World} {js:List Sp.Opn} {key:Sp.By} {pa px:Option Addr} {pl pc:Nat} {path:List Sp.By} (hL:f + 1 + p.length = L)
  (hJ:JDoc L w D rv jn iv ch Tb Mb wb T M js) (hs:Sp.sub p T = some m) (hf:Free m i key) (hr:Roomy m key) (hl:js.length ≤ 1000000000) (hp:TokG w (GA L Tb wb M) (.slice pa pl pc) path)
  (hc:TRep f w (.pointer px) c) (hcn:(Sp.fp f c).Nodup) (hcd:∀ k ∈ Sp.fp f c,¬ M k ∧ k ∉ Sp.fp L T ∧ k ≠ D ∧ jn.ownBlock ≠ some k ∧ wb.heap.size ≤ k) :
  Calls Tryz.prog 205 #[.pointer (some ⟨D,0,none⟩),plV (.slice pa pl pc) (Sp.blk m) key i,.pointer px] w fun e w'=>e = .returned (.tuple #[]) ∧
   DocEnd L D rv iv ch Tb Mb wb (Sp.put p (Sp.insT i key c m) T) M (js ++ [(1,path,.nil)]) w w':=by
 subst hL
 exact insert_doc hJ hs hf hr hl hp hc hcn hcd
theorem put_at {L f:Nat} {p:List Nat} {w:World} {D i:Nat} {rv jn iv:Value} {ch:Bool} {Tb T m c x:Sp.A} {Mb M:Nat → Prop} {wb:World} {js:List Sp.Opn} {key:Sp.By} {pa px:Option Addr} {pl pc:Nat} {path:List Sp.By} (hL:f + 1 + p.length = L)
  (hJ:JDoc L w D rv jn iv ch Tb Mb wb T M js) (hs:Sp.sub p T = some m) (hf:Stands m i key c) (hr:Roomy m key) (hl:js.length ≤ 1000000000) (hp:TokG w (GA L Tb wb M) (.slice pa pl pc) path) (hft:f ≤ top) (hx:TRep f w (.pointer px) x) (hxn:(Sp.fp f x).Nodup) (hxd:∀ k ∈ Sp.fp f x,¬ M k ∧ k ∉ Sp.fp L T ∧ k ≠ D ∧ jn.ownBlock ≠ some k ∧ wb.heap.size ≤ k) :
  Calls Tryz.prog 160 #[.pointer (some ⟨D,0,none⟩),plV (.slice pa pl pc) (Sp.blk m) key i,.pointer px] w fun e w'=>e = .returned (.tuple #[]) ∧
   DocEnd L D rv iv ch Tb Mb wb (Sp.put p (Sp.setT i key x m) T) M (js ++ [(2,path,Sp.str f c)]) w w':=by
 subst hL
 exact put_doc hJ hs hf hr hl hp hft hx hxn hxd
theorem putn_at {L f:Nat} {p:List Nat} {w:World} {D i:Nat} {rv jn iv:Value} {ch:Bool} {Tb T x:Sp.A} {Mb M:Nat → Prop} {wb:World} {js:List Sp.Opn} {key:Sp.By} {pa px:Option Addr} {pl pc:Nat} {path:List Sp.By} {b g:Nat} {es:List (Lit × Sp.A)} (hL:f + 1 + p.length = L)
  (hJ:JDoc L w D rv jn iv ch Tb Mb wb T M js) (hs:Sp.sub p T = some (Sp.nd b g (.map es))) (hf:∀ p ∈ es,p.1 ≠ Lit.string key) (hr:Roomy (Sp.nd b g (.map es)) key) (hl:js.length ≤ 1000000000) (hp:TokG w (GA L Tb wb M) (.slice pa pl pc) path) (hx:TRep f w (.pointer px) x) (hxn:(Sp.fp f x).Nodup) (hxd:∀ k ∈ Sp.fp f x,¬ M k ∧ k ∉ Sp.fp L T ∧ k ≠ D ∧ jn.ownBlock ≠ some k ∧ wb.heap.size ≤ k) :
  Calls Tryz.prog 160 #[.pointer (some ⟨D,0,none⟩),plV (.slice pa pl pc) b key i,.pointer px] w fun e w'=>e = .returned (.tuple #[]) ∧
   DocEnd L D rv iv ch Tb Mb wb (Sp.put p (Sp.insT i key x (Sp.nd b g (.map es))) T) M (js ++ [(1,path,.nil)]) w w':=by
 subst hL
 exact putn_doc hJ hs hf hr hl hp hx hxn hxd
section
variable {w w':World} {D R:Nat} {wp:Option Addr} {jn iv:Value} {ch:Bool} {Tb T a:Sp.A} {Mb M:Nat → Prop} {wb:World} {v:Sp.V} {js:List Sp.Opn}
theorem JS.done {g:Nat} {T1 a1:Sp.A} {v':Sp.V} (h:DocEnd (top + 1) D (.pointer (some ⟨R,0,none⟩)) iv ch Tb Mb wb T1 M js w w') (e:T1 = Sp.nd R g (.slice [a1] [])) (hv:Sp.str top a1 = v') :
  ∃ wp jn T a M',JS w' D R wp jn iv ch Tb Mb wb T a v' M' js ∧ JEx M M' w w':=by
 obtain ⟨jn',T',M',q1,q2,q3⟩:=h
 rw [e] at q1
 obtain ⟨wp,a,hj⟩:=JS.of q2 q1
 rw [hv] at hj
 exact ⟨wp,jn',T',a,M',hj,q3⟩
theorem JS.ok {g:Nat} {T1 a1:Sp.A} {v':Sp.V} {j:List Sp.Opn} (h:DocEnd (top + 1) D (.pointer (some ⟨R,0,none⟩)) iv ch Tb Mb wb T1 M (js ++ j) w w') (e:T1 = Sp.nd R g (.slice [a1] [])) (hv:Sp.str top a1 = v') :
  OpEnd D R iv ch Tb Mb wb M js w (.ok (v',j)) (.returned (.int .i64 0)) w':=⟨rfl,JS.done h e hv⟩
theorem JS.err {c:Nat} (h:JS w D R wp jn iv ch Tb Mb wb T a v M js) (hb:Below w.heap.size w w'):OpEnd D R iv ch Tb Mb wb M js w (.error c) (.returned (.int .i64 c)) w' :=
 ⟨rfl,wp,jn,T,a,v,M,js,h.bel hb,(h.j.bel hb).2⟩
theorem JEx.below {M':Nat → Prop} {w2:World} (h:Below w.heap.size w w') (hM:∀ k,M k → k < w.heap.size) (k:JEx M M' w' w2):JEx M M' w w2 :=
 ⟨k.os.trans h.os,k.tape.trans h.tape,k.output.trans h.output,Nat.le_trans h.size k.size,fun j hj=>⟨(k.kept j hj).1,(k.kept j hj).2.trans (h.block j (hM j hj))⟩⟩
theorem OpEnd.below {js:List Sp.Opn} {r:Except Nat (Sp.V × List Sp.Opn)} {e:Ending} {w2:World} (h:Below w.heap.size w w') (hM:∀ k,M k → k < w.heap.size) (k:OpEnd D R iv ch Tb Mb wb M js w' r e w2):OpEnd D R iv ch Tb Mb wb M js w r e w2:=by
 cases r with
 | ok vj =>
  obtain ⟨rfl,wp,jn,T,a,M',h1,h2⟩:=k
  exact ⟨rfl,wp,jn,T,a,M',h1,JEx.below h hM h2⟩
 | error c =>
  obtain ⟨rfl,wp,jn,T,a,v,M',js',h1,h2⟩:=k
  exact ⟨rfl,wp,jn,T,a,v,M',js',h1,JEx.below h hM h2⟩
theorem JS.new (h:JS w D R wp jn iv ch Tb Mb wb T a v M js) {k:Nat} (hk:w.heap.size ≤ k):¬ M k ∧ k ∉ Sp.fp (top + 1) T ∧ k ≠ D ∧ jn.ownBlock ≠ some k ∧ wb.heap.size ≤ k :=
 ⟨fun hm=>by have:=(h.j.low k hm).1; omega,fun hm=>by have:=h.j.tr.lt k hm; omega,fun e=>by have:=h.j.dlt; omega,fun e=>by have:=h.j.jlt k e; omega,Nat.le_trans h.j.up.1 hk⟩
theorem JS.node {d x:Int} {B f:Nat} {q:List Nat} {m:Sp.A} {u:Value} (h:JS w D R wp jn iv ch Tb Mb wb T a v M js) (hg:Sp.Fit d x B v) (hq:f + 1 + q.length = top) (hs:Sp.sub q a = some m) (hu:TRep (f + 1) w u m) :
  f + 1 + (0 :: q).length = top + 1 ∧ Sp.sub (0 :: q) T = some m ∧ 1000 ≤ f ∧ (Sp.kids m).length ≤ B ∧ Sp.gd d x (f + 1) (1 + q.length) (Sp.str (f + 1) m) ∧ Sp.sz (f + 1) (Sp.str (f + 1) m) ≤ B ∧ Sp.vsub q v = some (Sp.str (f + 1) m):=by
 obtain ⟨g,e⟩:=h.t.one
 have hv:=h.t.str
 have hvs:Sp.vsub q v = some (Sp.str (f + 1) m):=by
  rw [← hv,← hq]
  exact sub_vsub (f:=f + 1) (by rw [hq]; exact h.t.sub) hs
 have hgd:Sp.gd d x (f + 1 + q.length) 1 v:=by rw [hq]; exact hg.gd
 have h1:=Sp.gd_sub hgd hvs
 have h2:=Sp.gd_lv h1
 have h3:=hg.dd
 have h4:=Sp.sz_sub hgd hvs
 rw [hq] at h4
 have h5:=Sp.kids_sz (f:=f) (v:=Sp.str (f + 1) m)
 rw [kids_str_of hu,List.length_map] at h5
 have h6:=hg.sz
 have ht:=top_eq
 refine ⟨by simp; omega,?_,by omega,by omega,h1,by omega,hvs⟩
 rw [e]
 exact hs
theorem JS.value {g f:Nat} {q:List Nat} {m m':Sp.A} {w0:World} (h:JS w0 D R wp jn iv ch Tb Mb wb T a v M js) (e:T = Sp.nd R g (.slice [a] [])) (hq:f + 1 + q.length = top) (hs:Sp.sub q a = some m) :
  Sp.put (0 :: q) m' T = Sp.nd R g (.slice [Sp.put q m' a] []) ∧ Sp.str top (Sp.put q m' a) = Sp.vput q (Sp.str (f + 1) m') v:=by
 refine ⟨?_,?_⟩
 ·rw [e,Sp.put_cons (c:=a) m' rfl]
  rfl
 ·have hv:=h.t.str
  have h1:=Sp.str_put (w:=w0) (p:=q) (f:=f + 1) (u:=.pointer wp) (a:=a) (n:=m) m' (by rw [hq]; exact h.t.sub) hs
  rw [hq,hv] at h1
  exact h1
end
end Go.Proofs.YtdpomdelmdofmaaGreatDoor
