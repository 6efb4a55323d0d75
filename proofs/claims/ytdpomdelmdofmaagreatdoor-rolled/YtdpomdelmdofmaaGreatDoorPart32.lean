/-
  Add, at a document that is being changed: whatever the path.
-/
import Derived.Test.YtdpomdelmdofmaaGreatDoorPart31
namespace Go.Proofs.YtdpomdelmdofmaaGreatDoor
open Go.RowKit Go.Maps
theorem clone_fr {w:World} {F:Nat → Prop} {d x:Int} {B:Nat} {xv:Sp.V} {y:Option Addr} (h:Rep top F w (.pointer y) xv) (hx:Sp.Fit d x B xv) (hB:B ≤ 1000000000) :
  Calls Tryz.prog 201 #[.pointer y] w fun e w'=>∃ x,e = .returned (.pointer x) ∧ Hid (Frs w xv x w'):=by
 refine (vClone_any top xv (Sp.nar_of hx.gd (by have:=hx.sz; omega)) F w _ h).mono ?_
 rintro e w' ⟨p,rfl,hb,ht⟩
 exact ⟨some p,rfl,hb,ht⟩
theorem Frs.at {w w1:World} {d x:Int} {B f:Nat} {xv:Sp.V} {y:Option Addr} {D R:Nat} {wp:Option Addr} {jn iv:Value} {ch:Bool} {Tb T a:Sp.A} {Mb M:Nat → Prop} {wb:World} {v:Sp.V} {js:List Sp.Opn}
  (h:JS w D R wp jn iv ch Tb Mb wb T a v M js) (hf:Frs w xv y w1) (hx:Sp.Fit d x B xv) (h1:1000 ≤ f) (h2:f ≤ top) :
  ∃ ax,TRep f w1 (.pointer y) ax ∧ Sp.str f ax = xv ∧ Sp.str top ax = xv ∧ (Sp.fp f ax).Nodup ∧ (∀ k ∈ Sp.fp f ax,w.heap.size ≤ k ∧ k < w1.heap.size) ∧ ∀ k ∈ Sp.fp f ax,¬ M k ∧ k ∉ Sp.fp (top + 1) T ∧ k ≠ D ∧ jn.ownBlock ≠ some k ∧ wb.heap.size ≤ k:=by
 obtain ⟨_,ax,a1,a2,a3,a4⟩:=hf
 obtain ⟨b1,b2,b3⟩:=a1.fit (f:=f) (by rw [a2]; exact Sp.gd_fuel hx.gd (by have:=hx.dd; omega)) h2
 have hlt:=a1.lt
 exact ⟨ax,b1,b3.trans a2,a2,b2 ▸ a3,fun k hk=>⟨a4 k (b2 ▸ hk),hlt k (b2 ▸ hk)⟩,fun k hk=>h.new (a4 k (b2 ▸ hk))⟩
section
variable {w:World} {D R:Nat} {wp:Option Addr} {jn iv:Value} {ch:Bool} {Tb T a:Sp.A} {Mb M:Nat → Prop} {wb:World} {v xv:Sp.V} {js:List Sp.Opn} {y:Option Addr} {F:Nat → Prop} {d x:Int} {B:Nat}
theorem add_whole {pa:Option Addr} {cap:Nat} (h:JS w D R wp jn iv ch Tb Mb wb T a v M js) (hx:Sp.Fit d x B xv) (hB:B ≤ 1000000000) (hl:js.length ≤ 1000000000) (hy:Rep top F w (.pointer y) xv) :
  Calls Tryz.prog 197 #[.pointer (some ⟨D,0,none⟩),.slice pa 0 cap,.pointer y] w fun e w'=>OpEnd D R iv ch Tb Mb wb M js w (.ok (xv,[(2,[],v)])) e w':=by
 obtain ⟨g,eT⟩:=h.t.one
 have hM:∀ k,M k → k < w.heap.size:=fun k hk=>(h.j.low k hk).1
 refine (dAdd_nil (R:=R) (Q:=fun w'=>OpEnd D R iv ch Tb Mb wb M js w (.ok (xv,[(2,[],v)])) (.returned (.int .i64 0)) w') (clone_fr hy hx hB) (fun z w1 hq=>?_) (fun z w1 hq=>?_)).mono ?_
 ·exact (h.bel hq.1).t.db.c0
 ·have h1:=h.bel hq.1
  obtain ⟨ax,b1,b2,b2',b3,b4,b5⟩:=Frs.at h hq hx (f:=top) (by have:=top_eq; omega) (Nat.le_refl _)
  have hp:=put_at (f:=top) (p:=[]) (i:=0) (key:=[]) (path:=[]) (pa:=none) (pl:=0) (pc:=0) (c:=a) (m:=T) (L:=top + 1) rfl h1.j rfl (Or.inl ⟨R,g,[a],eT,rfl⟩) (by rw [eT]; exact ⟨by rw [Sp.kids_arr]; simp,by simp⟩) hl (Or.inl ⟨rfl,none,0,rfl,by simp⟩) (Nat.le_refl _) b1 b3 b5
  have hblk:Sp.blk T = R:=by rw [eT]; rfl
  rw [hblk] at hp
  refine hp.mono ?_
  rintro e w' ⟨rfl,he⟩
  refine ⟨rfl,OpEnd.below hq.1 hM (JS.ok (T1:=Sp.put [] (Sp.setT 0 [] ax T) T) (g:=g) (a1:=ax) ?_ ?_ b2')⟩
  ·have:=h.t.str
   rw [← this]
   exact he
  ·rw [eT]; rfl
 ·rintro e w' ⟨rfl,hq⟩
  exact hq
theorem slot_lt {n i:Nat} {t:Sp.By} (h:Sp.slot n t = .ok i):i ≤ n:=by
 unfold Sp.slot at h
 split at h
 ·injection h with h; omega
 ·split at h
  ·cases h
  ·split at h
   ·cases h
   ·injection h with h; omega
theorem slot_err {n c:Nat} {t:Sp.By} (h:Sp.slot n t = .error c):c ≠ 0:=by
 unfold Sp.slot at h
 split at h
 ·cases h
 ·split at h
  ·injection h with h; omega
  ·split at h
   ·injection h with h; omega
   ·cases h
theorem find_ne {d:Sp.V} {s:List Sp.By} {c:Nat} (h:Sp.find d s = .error c):c ≠ 0:=by
 induction s generalizing d with
 | nil=>cases h
 | cons t r ih =>
  unfold Sp.find at h
  split at h
  ·exact ih h
  ·rename_i c' hc
   injection h with h
   have:=child_err hc
   omega
theorem way_of {d:Sp.V} {s:List Sp.By} {q:List Nat} (h:Sp.posn d s = some q):Sp.way d s = q:=by unfold Sp.way; rw [h]; rfl
theorem pSplit_snoc (s:List Sp.By) (t:Sp.By):Sp.pSplit (s ++ [t]) = some (s,t):=by unfold Sp.pSplit; simp
theorem Laid.bel {w w':World} (h:Laid w) (hb:Below w.heap.size w w'):Laid w':=h.below (hb.mono h.ng)
theorem add_tok {g o n cap:Nat} {s:List Sp.By} {t:Sp.By} (h:JS w D R wp jn iv ch Tb Mb wb T a v M js) (hT:Laid w) (hv:Sp.Fit d x B v) (hx:Sp.Fit d x B xv) (hB:B ≤ 900000000) (hl:js.length ≤ 1000000000) (hy:Rep top F w (.pointer y) xv)
  (hn:n = s.length) (hc:n + 1 ≤ cap) (hcm:cap ≤ maxLen) (hgM:GA (top + 1) Tb wb M g) (hp:TokAt w g o (s ++ [t])) (hok:Sp.PathOk (s ++ [t])) :
  Calls Tryz.prog 197 #[.pointer (some ⟨D,0,none⟩),.slice (some ⟨g,o,none⟩) (n + 1) cap,.pointer y] w fun e w'=>OpEnd D R iv ch Tb Mb wb M js w (Sp.dadd v (s ++ [t]) xv) e w':=by
 have hM:∀ k,M k → k < w.heap.size:=fun k hk=>(h.j.low k hk).1
 have p1:=hok.len
 have p2:=hok.tok
 have hts:∀ u ∈ s,u.length ≤ 1048576:=fun u hu=>by have:=p2 u (by simp [hu]); omega
 have htt:t.length ≤ 1048576:=by have:=p2 t (by simp); omega
 have hsl:s.length ≤ 1048576:=by simp at p1; omega
 have hclone:=clone_fr hy hx (B:=B) (by omega)
 have hpm:∀ w1,Below w.heap.size w w1 → TokAt w1 g o (s ++ [t]):=fun w1 hb=>hp.move (hb.block g hp.1)
 have hEnd:∀ {r:Except Nat (Sp.V × List Sp.Opn)} {e:Ending} {w1 w2:World},Below w.heap.size w w1 → OpEnd D R iv ch Tb Mb wb M js w1 r e w2 → OpEnd D R iv ch Tb Mb wb M js w r e w2:=fun hb k=>OpEnd.below hb hM k
 subst hn
 unfold Sp.dadd
 rw [pSplit_snoc]
 simp only
 cases hf:Sp.find v s with
 | error c =>
  refine (dAdd_par (t:=t) (find_ne hf) (Q:=fun w'=>Below w.heap.size w w') hclone (fun z w1 hq=>(parent_err (h.bel hq.1) (hT.bel hq.1).rng (hpm w1 hq.1) rfl hc hcm hts hsl hf).mono ?_)).mono ?_
  ·rintro e w' ⟨rfl,hb⟩
   exact ⟨rfl,hq.1.trans (hb.mono hq.1.size)⟩
  ·rintro e w' ⟨rfl,hb⟩
   exact h.err hb
 | ok nv =>
  have hvs:=h.t.str
  have hf2:=hf
  rw [← hvs] at hf2
  obtain ⟨f,q,m,u,e1,e2,e3,e4,e5⟩:=find_static h.t.sub hf2
  obtain ⟨g',eT⟩:=h.t.one
  obtain ⟨n1,n2,n3,n4,n5,n6,n7⟩:=h.node hv e1 e2 e3
  rw [hvs] at e5
  obtain ⟨k1,k2⟩:=h.value (m':=m) eT e1 e2
  obtain ⟨ub,rfl,_⟩:=e3.ptr
  have hpar:∀ z w1,Frs w xv z w1 → Calls Tryz.prog 243 #[.pointer (some ⟨D,0,none⟩),.slice (some ⟨g,o,none⟩) (s.length + 1) cap] w1 fun e w'=>e = .returned (.tuple #[.pointer (some ⟨ub,0,none⟩),.string ⟨t.toArray⟩,.int .i64 0]) ∧ Frs w xv z w':=fun z w1 hq=>by
   refine (parent_ok (h.bel hq.1) (hT.bel hq.1).rng (hpm w1 hq.1) rfl hc hcm hts hsl hf e2 (e3.bel hq.1) e5).mono ?_
   rintro e w' ⟨rfl,hb⟩
   exact ⟨rfl,hq.bel hb⟩
  have hft:f ≤ top:=by omega
  have e3':=e3
  obtain ⟨b,gg,xx,rfl,hub,e3'⟩:=e3'
  injection hub with hub
  injection hub with hub
  injection hub with hub _ _
  subst hub
  simp only
  rw [← e4]
  rcases e3' with ⟨k,hk,_,rfl,hvb⟩ | ⟨nm,_,rfl,hvb,hbd⟩ | ⟨st,_,rfl,hvb⟩ | ⟨al,sl,ps,rfl,hvb,ho,hs,ha⟩ | ⟨es,nn,DD,rfl,hvb,ho,hpt⟩
  ·refine (dAdd_leaf (t:=t) (b:=ub) (k:=k) (by omega) (by omega) (Q1:=Frs w xv) (Q:=fun w'=>Below w.heap.size w w') hclone (fun z w1 hq=>(hpar z w1 hq).mono ?_) (fun w2 hb=>?_)).mono ?_
   ·rintro e w' ⟨rfl,hb⟩
    exact ⟨rfl,hb.1⟩
   ·exact (hb.cell (p:=⟨_,0,none⟩) hvb.lt).trans hvb.c0
   ·rintro e w' ⟨rfl,hb⟩
    exact h.err hb
  ·refine (dAdd_leaf (t:=t) (b:=ub) (k:=3) (by omega) (by omega) (Q1:=Frs w xv) (Q:=fun w'=>Below w.heap.size w w') hclone (fun z w1 hq=>(hpar z w1 hq).mono ?_) (fun w2 hb=>?_)).mono ?_
   ·rintro e w' ⟨rfl,hb⟩
    exact ⟨rfl,hb.1⟩
   ·exact (hb.cell (p:=⟨_,0,none⟩) hvb.lt).trans hvb.c0
   ·rintro e w' ⟨rfl,hb⟩
    exact h.err hb
  ·refine (dAdd_leaf (t:=t) (b:=ub) (k:=4) (by omega) (by omega) (Q1:=Frs w xv) (Q:=fun w'=>Below w.heap.size w w') hclone (fun z w1 hq=>(hpar z w1 hq).mono ?_) (fun w2 hb=>?_)).mono ?_
   ·rintro e w' ⟨rfl,hb⟩
    exact ⟨rfl,hb.1⟩
   ·exact (hb.cell (p:=⟨_,0,none⟩) hvb.lt).trans hvb.c0
   ·rintro e w' ⟨rfl,hb⟩
    exact h.err hb
  ·-- an array
   have hkl:al.length ≤ B:=n4
   have hpl:ps.length = al.length:=ha.length
   have hcell:∀ z w2,Frs w xv z w2 → VB w2 ub 5 n0 [] sl (.map none) ∧ w2.ownsRow 0 80 1 sl ps.length ps:=fun z w2 hq=>by
    refine ⟨hvb.kept (hq.1.block _ hvb.lt),owns_kept ho fun g1 hg1=>hq.1.block _ (owns_lt ho g1 hg1).1⟩
   cases hsl2:Sp.slot al.length t with
   | error c =>
    have hr:Sp.addAt v s t (Sp.str (f + 1) (Sp.nd ub gg (.slice al []))) xv = .error c:=by
     rw [Sp.str_arr]
     unfold Sp.addAt Sp.vArr
     simp only [List.length_map,hsl2]
    rw [hr]
    refine (dAdd_slot (t:=t) (b:=ub) (slot_err hsl2) (Q1:=Frs w xv) (Q2:=Frs w xv) (Q:=fun w'=>Below w.heap.size w w') hclone hpar (fun z w2 hq=>(hcell z w2 hq).1.c0) (fun z w2 hq=>?_)).mono ?_
    ·obtain ⟨c1,c2⟩:=hcell z w2 hq
     refine (slot_any htt (hT.bel hq.1).rng c1 c2).mono ?_
     rintro e w' ⟨rfl,hb⟩
     rw [hpl,hsl2]
     exact ⟨rfl,hq.1.trans (hb.mono hq.1.size)⟩
    ·rintro e w' ⟨rfl,hb⟩
     exact h.err hb
   | ok i =>
    have hi:=slot_lt hsl2
    have hr:Sp.addAt v s t (Sp.str (f + 1) (Sp.nd ub gg (.slice al []))) xv = .ok (Sp.vput q (Sp.insV i Sp.noB xv (Sp.str (f + 1) (Sp.nd ub gg (.slice al [])))) v,[(1,s ++ [Lib.itoa (i:Int)],.nil)]):=by
     rw [Sp.str_arr]
     unfold Sp.addAt Sp.vArr
     simp only [List.length_map,hsl2,way_of e5]
    rw [hr]
    refine (dAdd_arr (b:=ub) (i:=i) (Q1:=Frs w xv) (Q2:=Frs w xv) (Q3:=Frs w xv) (Q4:=fun z g2 c2 w4=>∃ w3,Frs w xv z w3 ∧ Below w3.heap.size w3 w4 ∧ w4.ownsRow w3.heap.size 9 1 (.slice (some ⟨g2,0,none⟩) (s.length + 1) c2) (s.length + 1) (tokVs (s ++ [Lib.itoa (i:Int)])))
     (Q:=fun w'=>OpEnd D R iv ch Tb Mb wb M js w (.ok (Sp.vput q (Sp.insV i Sp.noB xv (Sp.str (f + 1) (Sp.nd ub gg (.slice al [])))) v,[(1,s ++ [Lib.itoa (i:Int)],.nil)])) (.returned (.int .i64 0)) w')
     hclone hpar (fun z w2 hq=>(hcell z w2 hq).1.c0) (fun z w2 hq=>?_) (fun z w3 hq=>?_) (fun z g2 c2 w4 hq=>?_)).mono ?_
    ·obtain ⟨c1,c2⟩:=hcell z w2 hq
     refine (slot_any htt (hT.bel hq.1).rng c1 c2).mono ?_
     rintro e w' ⟨rfl,hb⟩
     rw [hpl,hsl2]
     exact ⟨rfl,hq.bel hb⟩
    ·refine (dNumber_any (l:=s ++ [t]) (hT.bel hq.1) (hpm w3 hq.1) (by simp) (by simp; omega) (by omega)).mono ?_
     rintro e w' ⟨g2,c2,rfl,ho2,hb⟩
     refine ⟨g2,c2,rfl,w3,hq,hb,?_⟩
     have:(s ++ [t]).set s.length (Lib.itoa (i:Int)) = s ++ [Lib.itoa (i:Int)]:=by
      rw [List.set_append_right _ _ (Nat.le_refl _)]; simp
     rw [this] at ho2
     exact ho2
    ·obtain ⟨w3,hq3,hb3,ho2⟩:=hq
     have hw4:=hq3.1.trans (hb3.mono hq3.1.size)
     obtain ⟨g3,cap3,ev,r1,r2,r3,r4⟩:=owns_cell1 ho2 (by omega)
     injection ev with ev _ ev3
     injection ev with ev
     injection ev with ev _ _
     subst ev; subst ev3
     have hg2:w3.heap.size ≤ g2 ∧ g2 < w4.heap.size:=⟨(ownsN_lt ho2 g2 rfl).2,(ownsN_lt ho2 g2 rfl).1⟩
     obtain ⟨ax,b1,b2,b2',b3,b4,b5⟩:=Frs.at h hq3 hx n3 hft
     have hs3:=hq3.1.size
     obtain ⟨hG,hE⟩:=h.grow hw4 (fun k=>k = g2) (fun k hk=>by subst hk; omega)
     have hins:=insert_at (i:=i) (key:=[]) (path:=s ++ [Lib.itoa (i:Int)]) (pa:=some ⟨g2,0,none⟩) (pl:=s.length + 1) (pc:=c2) (m:=Sp.nd ub gg (.slice al [])) (c:=ax) (px:=z) n1 hG.j n2 (Or.inl ⟨ub,gg,al,rfl,hi⟩) ⟨by rw [Sp.kids_arr]; omega,by simp⟩ hl
      (Or.inr ⟨g2,0,c2,by simp,by simpa using r1,r2,⟨Or.inr rfl,Or.inl (by have:=h.j.up.1; omega)⟩,hg2.2,fun k hk=>by
       have:=r4 k (by simpa using hk)
       rw [Nat.zero_add,this]
       exact congrArg some (List.getElem_map (fun t:Sp.By=>Value.string ⟨t.toArray⟩))⟩) (b1.bel hb3) b3 (fun k hk=>by
        have:=b4 k hk
        obtain ⟨c1',c2',c3',c4'⟩:=b5 k hk
        exact ⟨fun hm=>hm.elim c1' (by omega),c2',c3',c4'⟩)
     refine hins.mono ?_
     rintro e w5 ⟨rfl,jn',T',M',q1,q2,q3⟩
     refine ⟨rfl,?_⟩
     obtain ⟨k1,k2⟩:=h.value (m':=Sp.insT i [] ax (Sp.nd ub gg (.slice al []))) eT e1 e2
     rw [Sp.str_ins (Or.inl ⟨_,_,_,rfl⟩),b2] at k2
     rw [k1] at q1
     obtain ⟨wp',a',hj⟩:=JS.of q2 q1
     rw [k2] at hj
     exact ⟨rfl,wp',jn',T',a',M',hj,hE.trans q3⟩
    ·rintro e w' ⟨rfl,hq⟩
     exact hq
  ·-- an object
   have hkl:es.length ≤ B:=by rw [← List.length_map (f:=Prod.snd)]; exact n4
   have hcell:∀ z w2,Frs w xv z w2 → w2.cell? ⟨ub,0,none⟩ = some (.int .i64 6):=fun z w2 hq=>(hvb.kept (hq.1.block _ hvb.lt)).c0
   have hkeys:Sp.Skey (es.map fun p=>(p.1,Sp.str f p.2)):=by
    obtain ⟨_,hh⟩:=n5
    rw [Sp.str_obj] at hh
    rcases hh with ⟨_,_,hh⟩ | ⟨_,_,hh⟩ | ⟨_,_,_,_,hh⟩ | ⟨_,_,hh⟩ | ⟨es',h1,h2,hh⟩
    ·cases hh
    ·cases hh
    ·cases hh
    ·cases hh
    ·injection hh with hh
     subst hh
     exact ⟨h1,fun p hp=>by obtain ⟨st,hst,_⟩:=(h2 p hp).1; exact ⟨st,hst⟩⟩
   have hskey:Sp.Skey es:=by
    refine ⟨?_,fun p hp=>hkeys.2 (p.1,Sp.str f p.2) (List.mem_map.2 ⟨p,hp,rfl⟩)⟩
    have:=hkeys.1
    rw [List.pairwise_map] at this
    exact this
   have hpath:∀ w1,Below w.heap.size w w1 → TokG w1 (GA (top + 1) Tb wb M) (.slice (some ⟨g,o,none⟩) (s.length + 1) cap) (s ++ [t]):=fun w1 hb=>Or.inr ⟨g,o,cap,by simp,by simpa using hc,hcm,hgM,hpm w1 hb⟩
   cases hh:Maps.has (.map (es.map fun p=>(p.1,Sp.str f p.2)):Sp.V) (.string t) with
   | true =>
    obtain ⟨p',hp',hk1,hk2⟩:=has_mem (Sp.rise_ne hkeys.1 hkeys.2) hkeys.2 hh
    obtain ⟨p0,hp0,rfl⟩:=List.mem_map.1 hp'
    obtain ⟨k0,c0⟩:=p0
    simp only at hk1 hk2
    subst hk1
    have hr:Sp.addAt v s t (Sp.str (f + 1) (Sp.nd ub gg (.map es))) xv = .ok (Sp.vput q (Sp.setV 0 t xv (Sp.str (f + 1) (Sp.nd ub gg (.map es)))) v,[(2,s ++ [t],Sp.str f c0)]):=by
     rw [Sp.str_obj]
     unfold Sp.addAt Sp.vObj
     simp only [if_pos hh,way_of e5,hk2]
    rw [hr]
    refine (dAdd_obj (Q1:=Frs w xv) (Q2:=Frs w xv) (Q:=fun w'=>OpEnd D R iv ch Tb Mb wb M js w (.ok (Sp.vput q (Sp.setV 0 t xv (Sp.str (f + 1) (Sp.nd ub gg (.map es)))) v,[(2,s ++ [t],Sp.str f c0)])) (.returned (.int .i64 0)) w') hclone hpar hcell (fun z w2 hq=>?_)).mono ?_
    ·obtain ⟨ax,b1,b2,b2',b3,b4,b5⟩:=Frs.at h hq hx n3 hft
     refine (put_at (i:=0) (key:=t) (m:=Sp.nd ub gg (.map es)) (c:=c0) n1 (h.bel hq.1).j n2 (Or.inr ⟨ub,gg,es,rfl,hp0,hskey⟩) ⟨by rw [Sp.kids_obj,List.length_map]; omega,htt⟩ hl (hpath w2 hq.1) hft b1 b3 b5).mono ?_
     rintro e w' ⟨rfl,he⟩
     obtain ⟨k1,k2⟩:=h.value (m':=Sp.setT 0 t ax (Sp.nd ub gg (.map es))) eT e1 e2
     rw [Sp.str_set (Or.inr ⟨_,_,_,rfl⟩),b2] at k2
     exact ⟨rfl,hEnd hq.1 (JS.ok he k1 k2)⟩
    ·rintro e w' ⟨rfl,hq⟩
     exact hq
   | false =>
    have hr:Sp.addAt v s t (Sp.str (f + 1) (Sp.nd ub gg (.map es))) xv = .ok (Sp.vput q (Sp.insV 0 t xv (Sp.str (f + 1) (Sp.nd ub gg (.map es)))) v,[(1,s ++ [t],.nil)]):=by
     rw [Sp.str_obj]
     unfold Sp.addAt Sp.vObj
     simp only [hh,way_of e5]
     rw [if_neg (by decide)]
    rw [hr]
    have hno:∀ p ∈ es,p.1 ≠ Lit.string t:=fun p hp e=>by
     have h1:Maps.has (.map (es.map fun p=>(p.1,Sp.str f p.2)):Sp.V) (.string t) = true:=List.any_eq_true.2 ⟨_,List.mem_map.2 ⟨p,hp,rfl⟩,by show p.1.sameKey _ = true; rw [e]; exact WideAt.sameKey_self (show WideAt.IsKeyLit (Lit.string t) from trivial)⟩
     rw [hh] at h1; cases h1
    refine (dAdd_obj (Q1:=Frs w xv) (Q2:=Frs w xv) (Q:=fun w'=>OpEnd D R iv ch Tb Mb wb M js w (.ok (Sp.vput q (Sp.insV 0 t xv (Sp.str (f + 1) (Sp.nd ub gg (.map es)))) v,[(1,s ++ [t],.nil)])) (.returned (.int .i64 0)) w') hclone hpar hcell (fun z w2 hq=>?_)).mono ?_
    ·obtain ⟨ax,b1,b2,b2',b3,b4,b5⟩:=Frs.at h hq hx n3 hft
     refine (putn_at (i:=0) (key:=t) (b:=ub) (g:=gg) (es:=es) n1 (h.bel hq.1).j n2 hno ⟨by rw [Sp.kids_obj,List.length_map]; omega,htt⟩ hl (hpath w2 hq.1) b1 b3 b5).mono ?_
     rintro e w' ⟨rfl,he⟩
     obtain ⟨k1,k2⟩:=h.value (m':=Sp.insT 0 t ax (Sp.nd ub gg (.map es))) eT e1 e2
     rw [Sp.str_ins (Or.inr ⟨_,_,_,rfl⟩),b2] at k2
     exact ⟨rfl,hEnd hq.1 (JS.ok he k1 k2)⟩
    ·rintro e w' ⟨rfl,hq⟩
     exact hq
theorem add_doc {pv:Value} {p:List Sp.By} (h:JS w D R wp jn iv ch Tb Mb wb T a v M js) (hT:Laid w) (hv:Sp.Fit d x B v) (hx:Sp.Fit d x B xv) (hB:B ≤ 900000000) (hl:js.length ≤ 1000000000) (hy:Rep top F w (.pointer y) xv)
  (hp:TokG w (GA (top + 1) Tb wb M) pv p) (hok:Sp.PathOk p) :
  Calls Tryz.prog 197 #[.pointer (some ⟨D,0,none⟩),pv,.pointer y] w fun e w'=>OpEnd D R iv ch Tb Mb wb M js w (Sp.dadd v p xv) e w':=by
 rcases hp with ⟨rfl,pa,c,rfl,_⟩ | ⟨g,o,cap,rfl,h1,h2,h3,h4⟩
 ·exact add_whole h hx (by omega) hl hy
 ·by_cases hp0:p = []
  ·subst hp0
   exact add_whole h hx (by omega) hl hy
  ·obtain ⟨s,t,rfl⟩:∃ s t,p = s ++ [t]:=⟨p.dropLast,p.getLast hp0,(List.dropLast_concat_getLast hp0).symm⟩
   have hlen:(s ++ [t]).length = s.length + 1:=by simp
   rw [hlen] at h1 ⊢
   exact add_tok h hT hv hx hB hl hy rfl h1 h2 h3 h4 hok
end
end Go.Proofs.YtdpomdelmdofmaaGreatDoor

namespace Go.Proofs.YtdpomdelmdofmaaGreatDoor
open Go.RowKit Go.Maps
abbrev opV (k:Nat) (pa:Option Addr) (pl pc:Nat) (fa:Option Addr) (fl fc:Nat) (y:Option Addr):Value:=.agg #[.int .i64 k,.slice pa pl pc,.slice fa fl fc,.pointer y]
def OpB (w:World) (q k:Nat) (pa:Option Addr) (pl pc:Nat) (fa:Option Addr) (fl fc:Nat) (y:Option Addr):Prop:=w.heap[q]? = some (.cells #[.int .i64 k,.slice pa pl pc,.slice fa fl fc,.pointer y] 178 (0,0))
section
variable {w:World} {q k:Nat} {pa fa y:Option Addr} {pl pc fl fc:Nat}
theorem OpB.lt (h:OpB w q k pa pl pc fa fl fc y):q < w.heap.size:=(Array.getElem?_eq_some_iff.1 h).1
theorem OpB.c0 (h:OpB w q k pa pl pc fa fl fc y):w.cell? ⟨q,0,none⟩ = some (.int .i64 k):=by simp [World.cell?,show w.heap[q]? = _ from h]
theorem OpB.c1 (h:OpB w q k pa pl pc fa fl fc y):w.cell? ⟨q,1,none⟩ = some (.slice pa pl pc):=by simp [World.cell?,show w.heap[q]? = _ from h]
theorem OpB.c2 (h:OpB w q k pa pl pc fa fl fc y):w.cell? ⟨q,2,none⟩ = some (.slice fa fl fc):=by simp [World.cell?,show w.heap[q]? = _ from h]
theorem OpB.c3 (h:OpB w q k pa pl pc fa fl fc y):w.cell? ⟨q,3,none⟩ = some (.pointer y):=by simp [World.cell?,show w.heap[q]? = _ from h]
theorem OpB.low {w':World} (h:OpB w q k pa pl pc fa fl fc y) (hb:Below w.heap.size w w'):OpB w' q k pa pl pc fa fl fc y:=(hb.block q h.lt).trans h
end
section
variable {w:World} {D k b i:Nat} {pa fa qa y:Option Addr} {pl pc fl fc ql qc c:Nat} {key:Sp.By} {Q:World → Prop}
set_option maxHeartbeats 2000000 in
theorem doAdd_any {Q:Nat → World → Prop} (hA:∀ w1,Below w.heap.size w w1 → Calls Tryz.prog 197 #[.pointer (some ⟨D,0,none⟩),.slice pa pl pc,.pointer y] w1 fun e w'=>∃ c:Nat,e = .returned (.int .i64 c) ∧ Hid (Q c w')) :
  Calls Tryz.prog 151 #[.pointer (some ⟨D,0,none⟩),opV k pa pl pc fa fl fc y] w fun e w'=>∃ c:Nat,e = .returned (.int .i64 c) ∧ Q c w':=by
 have HA:=hide hA
 have HBA:=hide ((Below.refl w.heap.size w).alloc (Nat.le_refl _) (.cells #[.int .i64 k,.slice pa pl pc,.slice fa fl fc,.pointer y] 178))
 clear hA
 go_enter Tryz.func151,Tryz.ntmps151
 go_wp2_with (fail)
 refine (unhide HA _ (unhide HBA)).mono ?_
 rintro e w2 ⟨c,rfl,hq⟩
 go_wp2_with (fail)
 go_ret
 exact ⟨c,rfl,unhide hq⟩
set_option maxHeartbeats 2000000 in
theorem doRemove_nil:Calls Tryz.prog 152 #[.pointer (some ⟨D,0,none⟩),opV k pa 0 pc fa fl fc y] w fun e w'=>e = .returned (.int .i64 11) ∧ Below w.heap.size w w':=by
 have HBA:=hide ((Below.refl w.heap.size w).alloc (Nat.le_refl _) (.cells #[.int .i64 k,.slice pa 0 pc,.slice fa fl fc,.pointer y] 178))
 go_enter Tryz.func152,Tryz.ntmps152
 go_wp2_with (fail)
 go_ret
 exact ⟨rfl,unhide HBA⟩
set_option maxHeartbeats 2000000 in
theorem doRemove_err (hl:pl ≠ 0) (hc:c ≠ 0) (hT:∀ w1,Below w.heap.size w w1 → Calls Tryz.prog 198 #[.pointer (some ⟨D,0,none⟩),.slice pa pl pc] w1 fun e w'=>e = .returned (.tuple #[plZ,.int .i64 c]) ∧ Below w1.heap.size w1 w') :
  Calls Tryz.prog 152 #[.pointer (some ⟨D,0,none⟩),opV k pa pl pc fa fl fc y] w fun e w'=>e = .returned (.int .i64 c) ∧ Below w.heap.size w w':=by
 have HT:=hide hT
 have hob:OpB (w.alloc (.cells #[.int .i64 k,.slice pa pl pc,.slice fa fl fc,.pointer y] 178)) w.heap.size k pa pl pc fa fl fc y:=heap_alloc_new w _
 have hba:=(Below.refl w.heap.size w).alloc (Nat.le_refl _) (.cells #[.int .i64 k,.slice pa pl pc,.slice fa fl fc,.pointer y] 178)
 have HBA:=hide hba
 have HOB:=hide hob
 have hs:=hba.size
 have e0:¬ ((pl:Int) = 0):=by omega
 have e2:((c:Int) != 0) = true:=by rw [bne_iff_ne]; omega
 have e3:((c:Int) == 0) = false:=by rw [beq_eq_false_iff_ne]; omega
 have b1:=hob.c1
 clear hT hob hba hc hl
 go_enter Tryz.func152,Tryz.ntmps152
 go_wp2_with (fail)
 generalize w.alloc (.cells #[.int .i64 k,.slice pa pl pc,.slice fa fl fc,.pointer y] 178) = wa at *
 go_wp2_with (fail)
 refine (unhide HT wa (unhide HBA)).mono ?_
 rintro e w2 ⟨rfl,hb⟩
 have hs2:=hb.size
 have HB:=hide ((unhide HBA).trans (hb.mono (by omega)))
 clear hb b1
 go_wp2_with (fail)
 go_ret
 exact ⟨rfl,(unhide HB).alloc (by omega) _⟩
set_option maxHeartbeats 2000000 in
theorem doRemove_ok (hl:pl ≠ 0) (hT:∀ w1,Below w.heap.size w w1 → Calls Tryz.prog 198 #[.pointer (some ⟨D,0,none⟩),.slice pa pl pc] w1 fun e w'=>e = .returned (.tuple #[plV (.slice qa ql qc) b key i,.int .i64 0]) ∧ Below w1.heap.size w1 w')
  (hR:∀ w1,Below w.heap.size w w1 → Calls Tryz.prog 199 #[.pointer (some ⟨D,0,none⟩),plV (.slice qa ql qc) b key i] w1 fun e w'=>e = .returned (.tuple #[]) ∧ Q w') :
  Calls Tryz.prog 152 #[.pointer (some ⟨D,0,none⟩),opV k pa pl pc fa fl fc y] w fun e w'=>e = .returned (.int .i64 0) ∧ Q w':=by
 have HT:=hide hT
 have HR:=hide hR
 have hob:OpB (w.alloc (.cells #[.int .i64 k,.slice pa pl pc,.slice fa fl fc,.pointer y] 178)) w.heap.size k pa pl pc fa fl fc y:=heap_alloc_new w _
 have hba:=(Below.refl w.heap.size w).alloc (Nat.le_refl _) (.cells #[.int .i64 k,.slice pa pl pc,.slice fa fl fc,.pointer y] 178)
 have HBA:=hide hba
 have hs:=hba.size
 have e0:¬ ((pl:Int) = 0):=by omega
 have b1:=hob.c1
 clear hT hR hob hba hl
 go_enter Tryz.func152,Tryz.ntmps152
 go_wp2_with (fail)
 generalize w.alloc (.cells #[.int .i64 k,.slice pa pl pc,.slice fa fl fc,.pointer y] 178) = wa at *
 go_wp2_with (fail)
 refine (unhide HT wa (unhide HBA)).mono ?_
 rintro e w2 ⟨rfl,hb⟩
 have hs2:=hb.size
 have hbp:PBox (plW w2 qa ql qc b key i) w2.heap.size (.slice qa ql qc) b key i:=heap_alloc_new w2 _
 have HB:=hide (((unhide HBA).trans (hb.mono (by omega))).alloc (by omega) (.cells #[.slice qa ql qc,.pointer (some ⟨b,0,none⟩),.string ⟨key.toArray⟩,.int .i64 i] 185))
 have e0:=hbp.c0
 have e1:=hbp.c1
 have e2:=hbp.c2
 have e3:=hbp.c3
 clear hb b1 hbp
 go_wp2_with (fail)
 refine (unhide HR _ (unhide HB)).mono ?_
 rintro e w3 ⟨rfl,hq⟩
 have HQ:=hide hq
 clear hq
 go_wp2_with (fail)
 go_ret
 exact ⟨rfl,unhide HQ⟩
set_option maxHeartbeats 2000000 in
theorem doReplace_err (hc:c ≠ 0) (hT:∀ w1,Below w.heap.size w w1 → Calls Tryz.prog 198 #[.pointer (some ⟨D,0,none⟩),.slice pa pl pc] w1 fun e w'=>e = .returned (.tuple #[plZ,.int .i64 c]) ∧ Below w1.heap.size w1 w') :
  Calls Tryz.prog 153 #[.pointer (some ⟨D,0,none⟩),opV k pa pl pc fa fl fc y] w fun e w'=>e = .returned (.int .i64 c) ∧ Below w.heap.size w w':=by
 have HT:=hide hT
 have hob:OpB (w.alloc (.cells #[.int .i64 k,.slice pa pl pc,.slice fa fl fc,.pointer y] 178)) w.heap.size k pa pl pc fa fl fc y:=heap_alloc_new w _
 have hba:=(Below.refl w.heap.size w).alloc (Nat.le_refl _) (.cells #[.int .i64 k,.slice pa pl pc,.slice fa fl fc,.pointer y] 178)
 have HBA:=hide hba
 have hs:=hba.size
 have e2:((c:Int) != 0) = true:=by rw [bne_iff_ne]; omega
 have e3:((c:Int) == 0) = false:=by rw [beq_eq_false_iff_ne]; omega
 have b1:=hob.c1
 clear hT hob hba hc
 go_enter Tryz.func153,Tryz.ntmps153
 go_wp2_with (fail)
 generalize w.alloc (.cells #[.int .i64 k,.slice pa pl pc,.slice fa fl fc,.pointer y] 178) = wa at *
 go_wp2_with (fail)
 refine (unhide HT wa (unhide HBA)).mono ?_
 rintro e w2 ⟨rfl,hb⟩
 have hs2:=hb.size
 have HB:=hide ((unhide HBA).trans (hb.mono (by omega)))
 clear hb b1
 go_wp2_with (fail)
 go_ret
 exact ⟨rfl,(unhide HB).alloc (by omega) _⟩
set_option maxRecDepth 100000 in
set_option maxHeartbeats 4000000 in
theorem doReplace_ok {Q1:Option Addr → World → Prop} (hT:∀ w1,Below w.heap.size w w1 → Calls Tryz.prog 198 #[.pointer (some ⟨D,0,none⟩),.slice pa pl pc] w1 fun e w'=>e = .returned (.tuple #[plV (.slice qa ql qc) b key i,.int .i64 0]) ∧ Below w1.heap.size w1 w')
  (hC:∀ w1,Below w.heap.size w w1 → Calls Tryz.prog 201 #[.pointer y] w1 fun e w'=>∃ x,e = .returned (.pointer x) ∧ Below w1.heap.size w1 w' ∧ Hid (Q1 x w'))
  (hS:∀ x w1 w2,Q1 x w1 → Below w.heap.size w w1 → Below w1.heap.size w1 w2 → Calls Tryz.prog 200 #[.pointer (some ⟨D,0,none⟩),plV (.slice qa ql qc) b key i,.pointer x] w2 fun e w'=>e = .returned (.tuple #[]) ∧ Q w') :
  Calls Tryz.prog 153 #[.pointer (some ⟨D,0,none⟩),opV k pa pl pc fa fl fc y] w fun e w'=>e = .returned (.int .i64 0) ∧ Q w':=by
 have HT:=hide hT
 have HC:=hide hC
 have HS:=hide hS
 have hob:OpB (w.alloc (.cells #[.int .i64 k,.slice pa pl pc,.slice fa fl fc,.pointer y] 178)) w.heap.size k pa pl pc fa fl fc y:=heap_alloc_new w _
 have hba:=(Below.refl w.heap.size w).alloc (Nat.le_refl _) (.cells #[.int .i64 k,.slice pa pl pc,.slice fa fl fc,.pointer y] 178)
 have HBA:=hide hba
 have HOB:=hide hob
 have hs:=hba.size
 have b1:=hob.c1
 clear hT hC hS hob hba
 go_enter Tryz.func153,Tryz.ntmps153
 go_wp2_with (fail)
 generalize w.alloc (.cells #[.int .i64 k,.slice pa pl pc,.slice fa fl fc,.pointer y] 178) = wa at *
 go_wp2_with (fail)
 refine (unhide HT wa (unhide HBA)).mono ?_
 rintro e w2 ⟨rfl,hb⟩
 have hs2:=hb.size
 obtain ⟨w3,hw3⟩:∃ w3,w3 = w2.alloc (.cells #[.slice qa ql qc,.pointer (some ⟨b,0,none⟩),.string ⟨key.toArray⟩,.int .i64 i] 185):=⟨_,rfl⟩
 have hbp:PBox w3 w2.heap.size (.slice qa ql qc) b key i:=by rw [hw3]; exact heap_alloc_new w2 _
 have hpl:w2.heap.size < w3.heap.size:=(Array.getElem?_eq_some_iff.1 hbp).1
 have hb23:Below w2.heap.size w2 w3:=by rw [hw3]; exact (Below.refl _ _).alloc (Nat.le_refl _) _
 have hB:=((unhide HBA).trans (hb.mono (by omega))).trans (hb23.mono (by omega))
 have hob2:OpB w3 w.heap.size k pa pl pc fa fl fc y:=((unhide HOB).low hb).low hb23
 have HPB:=hide hbp
 have HB:=hide hB
 have HW3:=hide hw3
 have b3:=hob2.c3
 have e0:=hbp.c0
 have e1:=hbp.c1
 have e2:=hbp.c2
 have e3:=hbp.c3
 clear hb b1 hbp hB hob2 hb23 hw3
 go_wp2_with (fail)
 rw [← unhide HW3]
 clear HW3
 go_region_with (first
  | (go_at_call 201; refine (unhide HC _ ?_).mono ?_; exact ⟨(unhide HB).os,(unhide HB).tape,(unhide HB).output,(unhide HB).size,(unhide HB).block⟩; rintro x w4 ⟨z,rfl,hb4,hq1⟩; replace hb4:Below w3.heap.size w3 w4:=⟨hb4.os,hb4.tape,hb4.output,hb4.size,hb4.block⟩; have p4:PBox w4 w2.heap.size (.slice qa ql qc) b key i:=(hb4.block _ hpl).trans (unhide HPB); have f0:=p4.c0; have f1:=p4.c1; have f2:=p4.c2; have f3:=p4.c3; have HB4:=hide hb4; clear hb4 p4)
  | (go_at_call 200; refine (unhide HS z w4 _ (unhide hq1) ((unhide HB).trans ((unhide HB4).mono (unhide HB).size)) ?_).mono ?_; exact ⟨rfl,rfl,rfl,Nat.le_refl _,fun _ _=>rfl⟩; rintro x w5 ⟨rfl,hq⟩; have HQ:=hide hq; clear hq))
 all_goals (
  go_wp2_with (fail)
  go_ret
  exact ⟨rfl,unhide HQ⟩)
end
end Go.Proofs.YtdpomdelmdofmaaGreatDoor

namespace Go.Proofs.YtdpomdelmdofmaaGreatDoor
open Go.RowKit Go.Maps
section
variable {w:World} {D k b i:Nat} {pa fa qa y wp:Option Addr} {pl pc fl fc ql qc c:Nat} {key:Sp.By} {Q:World → Prop}
set_option maxHeartbeats 2000000 in
theorem doMove_err (hc:c ≠ 0) (hT:∀ w1,Below w.heap.size w w1 → Calls Tryz.prog 198 #[.pointer (some ⟨D,0,none⟩),.slice fa fl fc] w1 fun e w'=>e = .returned (.tuple #[plZ,.int .i64 c]) ∧ Below w1.heap.size w1 w') :
  Calls Tryz.prog 154 #[.pointer (some ⟨D,0,none⟩),opV k pa pl pc fa fl fc y] w fun e w'=>e = .returned (.int .i64 c) ∧ Below w.heap.size w w':=by
 have HT:=hide hT
 have hob:OpB (w.alloc (.cells #[.int .i64 k,.slice pa pl pc,.slice fa fl fc,.pointer y] 178)) w.heap.size k pa pl pc fa fl fc y:=heap_alloc_new w _
 have hba:=(Below.refl w.heap.size w).alloc (Nat.le_refl _) (.cells #[.int .i64 k,.slice pa pl pc,.slice fa fl fc,.pointer y] 178)
 have HBA:=hide hba
 have hs:=hba.size
 have e2:((c:Int) != 0) = true:=by rw [bne_iff_ne]; omega
 have e3:((c:Int) == 0) = false:=by rw [beq_eq_false_iff_ne]; omega
 have b2:=hob.c2
 clear hT hob hba hc
 go_enter Tryz.func154,Tryz.ntmps154
 go_wp2_with (fail)
 generalize w.alloc (.cells #[.int .i64 k,.slice pa pl pc,.slice fa fl fc,.pointer y] 178) = wa at *
 go_wp2_with (fail)
 refine (unhide HT wa (unhide HBA)).mono ?_
 rintro e w2 ⟨rfl,hb⟩
 have hs2:=hb.size
 have HB:=hide ((unhide HBA).trans (hb.mono (by omega)))
 clear hb b2
 go_wp2_with (fail)
 go_ret
 exact ⟨rfl,(unhide HB).alloc (by omega) _⟩
structure MoveW (w:World) (k:Nat) (pa:Option Addr) (pl pc:Nat) (fa:Option Addr) (fl fc:Nat) (y:Option Addr) (qa:Option Addr) (ql qc b:Nat) (key:Sp.By) (i q:Nat) (w3:World):Prop where
 bel:Below w.heap.size w w3
 op:OpB w3 w.heap.size k pa pl pc fa fl fc y
 pb:PBox w3 q (.slice qa ql qc) b key i
 le:w.heap.size < q
theorem MoveW.low {w w3 w4:World} {q:Nat} (h:MoveW w k pa pl pc fa fl fc y qa ql qc b key i q w3) (hb:Below w3.heap.size w3 w4):MoveW w k pa pl pc fa fl fc y qa ql qc b key i q w4 :=
 ⟨h.bel.trans (hb.mono h.bel.size),h.op.low hb,(hb.block q (Array.getElem?_eq_some_iff.1 h.pb).1).trans h.pb,h.le⟩
theorem MoveW.mk' {w wa w2 w3:World} (h1:Below w.heap.size w wa) (h2:OpB wa w.heap.size k pa pl pc fa fl fc y) (hb:Below wa.heap.size wa w2) (hw3:w3 = w2.alloc (.cells #[.slice qa ql qc,.pointer (some ⟨b,0,none⟩),.string ⟨key.toArray⟩,.int .i64 i] 185)):MoveW w k pa pl pc fa fl fc y qa ql qc b key i w2.heap.size w3:=by
 have hs:=hb.size
 have h3:=h2.lt
 have hb2:Below w2.heap.size w2 w3:=by rw [hw3]; exact (Below.refl _ _).alloc (Nat.le_refl _) _
 refine ⟨(h1.trans (hb.mono h1.size)).trans (hb2.mono (by have:=h1.size; omega)),(h2.low hb).low hb2,by rw [hw3]; exact heap_alloc_new w2 _,by omega⟩
set_option maxHeartbeats 2000000 in
theorem doMove_same (hT:∀ w1,Below w.heap.size w w1 → Calls Tryz.prog 198 #[.pointer (some ⟨D,0,none⟩),.slice fa fl fc] w1 fun e w'=>e = .returned (.tuple #[plV (.slice qa ql qc) b key i,.int .i64 0]) ∧ Below w1.heap.size w1 w')
  (hE:∀ w1,Below w.heap.size w w1 → Calls Tryz.prog 202 #[.slice fa fl fc,.slice pa pl pc] w1 fun e w'=>e = .returned (.bool true) ∧ Below w1.heap.size w1 w') :
  Calls Tryz.prog 154 #[.pointer (some ⟨D,0,none⟩),opV k pa pl pc fa fl fc y] w fun e w'=>e = .returned (.int .i64 0) ∧ Below w.heap.size w w':=by
 have HT:=hide hT
 have HE:=hide hE
 have hob:OpB (w.alloc (.cells #[.int .i64 k,.slice pa pl pc,.slice fa fl fc,.pointer y] 178)) w.heap.size k pa pl pc fa fl fc y:=heap_alloc_new w _
 have hba:=(Below.refl w.heap.size w).alloc (Nat.le_refl _) (.cells #[.int .i64 k,.slice pa pl pc,.slice fa fl fc,.pointer y] 178)
 have HBA:=hide hba
 have HOB:=hide hob
 have b2:=hob.c2
 clear hT hE hob hba
 go_enter Tryz.func154,Tryz.ntmps154
 go_wp2_with (fail)
 generalize w.alloc (.cells #[.int .i64 k,.slice pa pl pc,.slice fa fl fc,.pointer y] 178) = wa at *
 go_wp2_with (fail)
 refine (unhide HT wa (unhide HBA)).mono ?_
 rintro e w2 ⟨rfl,hb⟩
 obtain ⟨w3,hw3⟩:∃ w3,w3 = w2.alloc (.cells #[.slice qa ql qc,.pointer (some ⟨b,0,none⟩),.string ⟨key.toArray⟩,.int .i64 i] 185):=⟨_,rfl⟩
 have hM:=MoveW.mk' (qa:=qa) (ql:=ql) (qc:=qc) (b:=b) (key:=key) (i:=i) (unhide HBA) (unhide HOB) hb hw3
 have HM:=hide hM
 have HW3:=hide hw3
 have c1:=hM.op.c1
 have c2:=hM.op.c2
 have k1:∀ o,(w2.alloc o).cell? ⟨w.heap.size,1,none⟩ = some (.slice pa pl pc):=fun o=>(World.cell?_of_block (w:=w2) (Below.heap_alloc w2 o _ ((unhide HOB).low hb).lt)).trans ((unhide HOB).low hb).c1
 have k2:∀ o,(w2.alloc o).cell? ⟨w.heap.size,2,none⟩ = some (.slice fa fl fc):=fun o=>(World.cell?_of_block (w:=w2) (Below.heap_alloc w2 o _ ((unhide HOB).low hb).lt)).trans ((unhide HOB).low hb).c2
 clear hb b2 hM hw3
 go_wp2_with (fail)
 rw [← unhide HW3]
 clear HW3 k1 k2
 refine (unhide HE w3 (unhide HM).bel).mono ?_
 rintro e w4 ⟨rfl,hb⟩
 have HM4:=hide ((unhide HM).low hb)
 clear hb c1 c2
 go_wp2_with (fail)
 go_ret
 exact ⟨rfl,(unhide HM4).bel⟩
set_option maxHeartbeats 2000000 in
theorem doMove_leads (hT:∀ w1,Below w.heap.size w w1 → Calls Tryz.prog 198 #[.pointer (some ⟨D,0,none⟩),.slice fa fl fc] w1 fun e w'=>e = .returned (.tuple #[plV (.slice qa ql qc) b key i,.int .i64 0]) ∧ Below w1.heap.size w1 w')
  (hE:∀ w1,Below w.heap.size w w1 → Calls Tryz.prog 202 #[.slice fa fl fc,.slice pa pl pc] w1 fun e w'=>e = .returned (.bool false) ∧ Below w1.heap.size w1 w')
  (hL:∀ w1,Below w.heap.size w w1 → Calls Tryz.prog 203 #[.slice pa pl pc,.slice fa fl fc] w1 fun e w'=>e = .returned (.bool true) ∧ Below w1.heap.size w1 w') :
  Calls Tryz.prog 154 #[.pointer (some ⟨D,0,none⟩),opV k pa pl pc fa fl fc y] w fun e w'=>e = .returned (.int .i64 13) ∧ Below w.heap.size w w':=by
 have HT:=hide hT
 have HE:=hide hE
 have HL:=hide hL
 have hob:OpB (w.alloc (.cells #[.int .i64 k,.slice pa pl pc,.slice fa fl fc,.pointer y] 178)) w.heap.size k pa pl pc fa fl fc y:=heap_alloc_new w _
 have hba:=(Below.refl w.heap.size w).alloc (Nat.le_refl _) (.cells #[.int .i64 k,.slice pa pl pc,.slice fa fl fc,.pointer y] 178)
 have HBA:=hide hba
 have HOB:=hide hob
 have b2:=hob.c2
 clear hT hE hL hob hba
 go_enter Tryz.func154,Tryz.ntmps154
 go_wp2_with (fail)
 generalize w.alloc (.cells #[.int .i64 k,.slice pa pl pc,.slice fa fl fc,.pointer y] 178) = wa at *
 go_wp2_with (fail)
 refine (unhide HT wa (unhide HBA)).mono ?_
 rintro e w2 ⟨rfl,hb⟩
 obtain ⟨w3,hw3⟩:∃ w3,w3 = w2.alloc (.cells #[.slice qa ql qc,.pointer (some ⟨b,0,none⟩),.string ⟨key.toArray⟩,.int .i64 i] 185):=⟨_,rfl⟩
 have hM:=MoveW.mk' (qa:=qa) (ql:=ql) (qc:=qc) (b:=b) (key:=key) (i:=i) (unhide HBA) (unhide HOB) hb hw3
 have HM:=hide hM
 have HW3:=hide hw3
 have c1:=hM.op.c1
 have c2:=hM.op.c2
 have k1:∀ o,(w2.alloc o).cell? ⟨w.heap.size,1,none⟩ = some (.slice pa pl pc):=fun o=>(World.cell?_of_block (w:=w2) (Below.heap_alloc w2 o _ ((unhide HOB).low hb).lt)).trans ((unhide HOB).low hb).c1
 have k2:∀ o,(w2.alloc o).cell? ⟨w.heap.size,2,none⟩ = some (.slice fa fl fc):=fun o=>(World.cell?_of_block (w:=w2) (Below.heap_alloc w2 o _ ((unhide HOB).low hb).lt)).trans ((unhide HOB).low hb).c2
 clear hb b2 hM hw3
 go_wp2_with (fail)
 rw [← unhide HW3]
 clear HW3 k1 k2
 refine (unhide HE w3 (unhide HM).bel).mono ?_
 rintro e w4 ⟨rfl,hb⟩
 have hM4:=(unhide HM).low hb
 have HM4:=hide hM4
 clear hb c1 c2
 have c1:=hM4.op.c1
 have c2:=hM4.op.c2
 clear hM4
 go_wp2_with (fail)
 refine (unhide HL w4 (unhide HM4).bel).mono ?_
 rintro e w5 ⟨rfl,hb⟩
 have HM5:=hide ((unhide HM4).low hb)
 clear hb c1 c2
 go_wp2_with (fail)
 go_ret
 exact ⟨rfl,(unhide HM5).bel⟩
set_option maxHeartbeats 4000000 in
theorem doMove_any {Q1:World → Prop} {Q:Nat → World → Prop} {x:Option Addr} (hT:∀ w1,Below w.heap.size w w1 → Calls Tryz.prog 198 #[.pointer (some ⟨D,0,none⟩),.slice fa fl fc] w1 fun e w'=>e = .returned (.tuple #[plV (.slice qa ql qc) b key i,.int .i64 0]) ∧ Below w1.heap.size w1 w')
  (hE:∀ w1,Below w.heap.size w w1 → Calls Tryz.prog 202 #[.slice fa fl fc,.slice pa pl pc] w1 fun e w'=>e = .returned (.bool false) ∧ Below w1.heap.size w1 w')
  (hL:∀ w1,Below w.heap.size w w1 → Calls Tryz.prog 203 #[.slice pa pl pc,.slice fa fl fc] w1 fun e w'=>e = .returned (.bool false) ∧ Below w1.heap.size w1 w')
  (hG:∀ w1,Below w.heap.size w w1 → Calls Tryz.prog 159 #[plV (.slice qa ql qc) b key i] w1 fun e w'=>e = .returned (.pointer x) ∧ Below w1.heap.size w1 w')
  (hR:∀ w1,Below w.heap.size w w1 → OpB w1 w.heap.size k pa pl pc fa fl fc y → Calls Tryz.prog 199 #[.pointer (some ⟨D,0,none⟩),plV (.slice qa ql qc) b key i] w1 fun e w'=>e = .returned (.tuple #[]) ∧ OpB w' w.heap.size k pa pl pc fa fl fc y ∧ Hid (Q1 w'))
  (hA:∀ w1,Q1 w1 → Calls Tryz.prog 197 #[.pointer (some ⟨D,0,none⟩),.slice pa pl pc,.pointer x] w1 fun e w'=>∃ c:Nat,e = .returned (.int .i64 c) ∧ Hid (Q c w')) :
  Calls Tryz.prog 154 #[.pointer (some ⟨D,0,none⟩),opV k pa pl pc fa fl fc y] w fun e w'=>∃ c:Nat,e = .returned (.int .i64 c) ∧ Q c w':=by
 have HT:=hide hT
 have HE:=hide hE
 have HL:=hide hL
 have HG:=hide hG
 have HR:=hide hR
 have HA:=hide hA
 have hob:OpB (w.alloc (.cells #[.int .i64 k,.slice pa pl pc,.slice fa fl fc,.pointer y] 178)) w.heap.size k pa pl pc fa fl fc y:=heap_alloc_new w _
 have hba:=(Below.refl w.heap.size w).alloc (Nat.le_refl _) (.cells #[.int .i64 k,.slice pa pl pc,.slice fa fl fc,.pointer y] 178)
 have HBA:=hide hba
 have HOB:=hide hob
 have b2:=hob.c2
 clear hT hE hL hG hR hA hob hba
 go_enter Tryz.func154,Tryz.ntmps154
 go_wp2_with (fail)
 generalize w.alloc (.cells #[.int .i64 k,.slice pa pl pc,.slice fa fl fc,.pointer y] 178) = wa at *
 go_wp2_with (fail)
 refine (unhide HT wa (unhide HBA)).mono ?_
 rintro e w2 ⟨rfl,hb⟩
 obtain ⟨w3,hw3⟩:∃ w3,w3 = w2.alloc (.cells #[.slice qa ql qc,.pointer (some ⟨b,0,none⟩),.string ⟨key.toArray⟩,.int .i64 i] 185):=⟨_,rfl⟩
 have hM:=MoveW.mk' (qa:=qa) (ql:=ql) (qc:=qc) (b:=b) (key:=key) (i:=i) (unhide HBA) (unhide HOB) hb hw3
 have HM:=hide hM
 have HW3:=hide hw3
 have c1:=hM.op.c1
 have c2:=hM.op.c2
 have k1:∀ o,(w2.alloc o).cell? ⟨w.heap.size,1,none⟩ = some (.slice pa pl pc):=fun o=>(World.cell?_of_block (w:=w2) (Below.heap_alloc w2 o _ ((unhide HOB).low hb).lt)).trans ((unhide HOB).low hb).c1
 have k2:∀ o,(w2.alloc o).cell? ⟨w.heap.size,2,none⟩ = some (.slice fa fl fc):=fun o=>(World.cell?_of_block (w:=w2) (Below.heap_alloc w2 o _ ((unhide HOB).low hb).lt)).trans ((unhide HOB).low hb).c2
 clear hb b2 hM hw3
 go_wp2_with (fail)
 rw [← unhide HW3]
 clear HW3 k1 k2
 refine (unhide HE w3 (unhide HM).bel).mono ?_
 rintro e w4 ⟨rfl,hb⟩
 have hM4:=(unhide HM).low hb
 have HM4:=hide hM4
 clear hb c1 c2
 have c1:=hM4.op.c1
 have c2:=hM4.op.c2
 clear hM4
 go_wp2_with (fail)
 refine (unhide HL w4 (unhide HM4).bel).mono ?_
 rintro e w5 ⟨rfl,hb⟩
 have hM5:=(unhide HM4).low hb
 have HM5:=hide hM5
 clear hb c1 c2
 have e0:=hM5.pb.c0
 have e1:=hM5.pb.c1
 have e2:=hM5.pb.c2
 have e3:=hM5.pb.c3
 clear hM5
 go_wp2_with (fail)
 refine (unhide HG w5 (unhide HM5).bel).mono ?_
 rintro e w6 ⟨rfl,hb⟩
 have hM6:=(unhide HM5).low hb
 have HM6:=hide hM6
 clear hb e0 e1 e2 e3
 have e0:=hM6.pb.c0
 have e1:=hM6.pb.c1
 have e2:=hM6.pb.c2
 have e3:=hM6.pb.c3
 clear hM6
 go_wp2_with (fail)
 refine (unhide HR w6 (unhide HM6).bel (unhide HM6).op).mono ?_
 rintro e w7 ⟨rfl,ho7,hq⟩
 have c1:=ho7.c1
 clear ho7 e0 e1 e2 e3
 go_wp2_with (fail)
 refine (unhide HA w7 (unhide hq)).mono ?_
 rintro e w8 ⟨c,rfl,hq8⟩
 go_wp2_with (fail)
 go_ret
 exact ⟨c,rfl,unhide hq8⟩
set_option maxRecDepth 100000 in
set_option maxHeartbeats 4000000 in
theorem doCopy_err (hc:c ≠ 0) (hW:∀ w1,Below w.heap.size w w1 → Calls Tryz.prog 56 #[.pointer (some ⟨D,0,none⟩)] w1 fun x w'=>x = .returned (.pointer wp) ∧ Below w1.heap.size w1 w')
  (hF:∀ w1,Below w.heap.size w w1 → Calls Tryz.prog 81 #[.slice fa fl fc,.pointer wp] w1 fun e w'=>e = .returned (.tuple #[.pointer none,.int .i64 c]) ∧ Below w1.heap.size w1 w') :
  Calls Tryz.prog 155 #[.pointer (some ⟨D,0,none⟩),opV k pa pl pc fa fl fc y] w fun e w'=>e = .returned (.int .i64 c) ∧ Below w.heap.size w w':=by
 have HW:=hide hW
 have HF:=hide hF
 have hob:OpB (w.alloc (.cells #[.int .i64 k,.slice pa pl pc,.slice fa fl fc,.pointer y] 178)) w.heap.size k pa pl pc fa fl fc y:=heap_alloc_new w _
 have hba:=(Below.refl w.heap.size w).alloc (Nat.le_refl _) (.cells #[.int .i64 k,.slice pa pl pc,.slice fa fl fc,.pointer y] 178)
 have hol:=hob.lt
 have HBA:=hide hba
 have HOB:=hide hob
 have hs:=hba.size
 have e2:((c:Int) != 0) = true:=by rw [bne_iff_ne]; omega
 have e3:((c:Int) == 0) = false:=by rw [beq_eq_false_iff_ne]; omega
 have b2:=hob.c2
 clear hW hF hob hba hc
 go_enter Tryz.func155,Tryz.ntmps155
 go_wp2_with (fail)
 generalize w.alloc (.cells #[.int .i64 k,.slice pa pl pc,.slice fa fl fc,.pointer y] 178) = wa at *
 go_region_with (first
  | (go_at_call 56; refine (unhide HW _ ?_).mono ?_; exact ⟨(unhide HBA).os,(unhide HBA).tape,(unhide HBA).output,(unhide HBA).size,(unhide HBA).block⟩; rintro x w2 ⟨rfl,hb2⟩; replace hb2:Below wa.heap.size wa w2:=⟨hb2.os,hb2.tape,hb2.output,hb2.size,hb2.block⟩; have d2:=((unhide HOB).low hb2).c2; have HB2:=hide hb2; clear hb2)
  | (go_at_call 81; refine (unhide HF _ ?_).mono ?_; exact (unhide HBA).trans (((unhide HB2).mono (unhide HBA).size).trans ⟨rfl,rfl,rfl,Nat.le_refl _,fun _ _=>rfl⟩); rintro e w3 ⟨rfl,hb3⟩; replace hb3:Below w2.heap.size w2 w3:=⟨hb3.os,hb3.tape,hb3.output,hb3.size,hb3.block⟩; have HB3:=hide hb3; clear hb3))
 all_goals (
  go_wp2_with (fail)
  go_ret
  exact ⟨rfl,(unhide HBA).trans (((unhide HB2).trans ((unhide HB3).mono (unhide HB2).size)).mono (unhide HBA).size)⟩)
set_option maxRecDepth 100000 in
set_option maxHeartbeats 4000000 in
theorem doCopy_ok {Q:Nat → World → Prop} {x:Option Addr} (hW:∀ w1,Below w.heap.size w w1 → Calls Tryz.prog 56 #[.pointer (some ⟨D,0,none⟩)] w1 fun x w'=>x = .returned (.pointer wp) ∧ Below w1.heap.size w1 w')
  (hF:∀ w1,Below w.heap.size w w1 → Calls Tryz.prog 81 #[.slice fa fl fc,.pointer wp] w1 fun e w'=>e = .returned (.tuple #[.pointer x,.int .i64 0]) ∧ Below w1.heap.size w1 w')
  (hA:∀ w1,Below w.heap.size w w1 → Calls Tryz.prog 197 #[.pointer (some ⟨D,0,none⟩),.slice pa pl pc,.pointer x] w1 fun e w'=>∃ c:Nat,e = .returned (.int .i64 c) ∧ Hid (Q c w')) :
  Calls Tryz.prog 155 #[.pointer (some ⟨D,0,none⟩),opV k pa pl pc fa fl fc y] w fun e w'=>∃ c:Nat,e = .returned (.int .i64 c) ∧ Q c w':=by
 have HW:=hide hW
 have HF:=hide hF
 have HA:=hide hA
 have hob:OpB (w.alloc (.cells #[.int .i64 k,.slice pa pl pc,.slice fa fl fc,.pointer y] 178)) w.heap.size k pa pl pc fa fl fc y:=heap_alloc_new w _
 have hba:=(Below.refl w.heap.size w).alloc (Nat.le_refl _) (.cells #[.int .i64 k,.slice pa pl pc,.slice fa fl fc,.pointer y] 178)
 have hol:=hob.lt
 have HBA:=hide hba
 have HOB:=hide hob
 have hs:=hba.size
 have b2:=hob.c2
 clear hW hF hA hob hba
 go_enter Tryz.func155,Tryz.ntmps155
 go_wp2_with (fail)
 generalize w.alloc (.cells #[.int .i64 k,.slice pa pl pc,.slice fa fl fc,.pointer y] 178) = wa at *
 go_region_with (first
  | (go_at_call 56; refine (unhide HW _ ?_).mono ?_; exact ⟨(unhide HBA).os,(unhide HBA).tape,(unhide HBA).output,(unhide HBA).size,(unhide HBA).block⟩; rintro x w2 ⟨rfl,hb2⟩; replace hb2:Below wa.heap.size wa w2:=⟨hb2.os,hb2.tape,hb2.output,hb2.size,hb2.block⟩; have d2:=((unhide HOB).low hb2).c2; have HB2:=hide hb2; clear hb2)
  | (go_at_call 81; refine (unhide HF _ ?_).mono ?_; exact (unhide HBA).trans (((unhide HB2).mono (unhide HBA).size).trans ⟨rfl,rfl,rfl,Nat.le_refl _,fun _ _=>rfl⟩); rintro e w3 ⟨rfl,hb3⟩; replace hb3:Below w2.heap.size w2 w3:=⟨hb3.os,hb3.tape,hb3.output,hb3.size,hb3.block⟩; have HB3:=hide hb3; clear hb3))
 all_goals (
  have hob3:=((unhide HOB).low (unhide HB2)).low (unhide HB3)
  have c1:=hob3.c1
  have HBF:=hide ((unhide HBA).trans (((unhide HB2).trans ((unhide HB3).mono (unhide HB2).size)).mono (unhide HBA).size))
  clear hob3
  try clear d2
  clear b2
  go_wp2_with (fail)
  refine (unhide HA _ ?_).mono ?_
  ·exact ⟨(unhide HBF).os,(unhide HBF).tape,(unhide HBF).output,(unhide HBF).size,(unhide HBF).block⟩
  ·rintro e w8 ⟨c,rfl,hq8⟩
   go_wp2_with (fail)
   go_ret
   exact ⟨c,rfl,unhide hq8⟩)
set_option maxRecDepth 100000 in
set_option maxHeartbeats 4000000 in
theorem doTest_err (hc:c ≠ 0) (hW:∀ w1,Below w.heap.size w w1 → Calls Tryz.prog 56 #[.pointer (some ⟨D,0,none⟩)] w1 fun x w'=>x = .returned (.pointer wp) ∧ Below w1.heap.size w1 w')
  (hF:∀ w1,Below w.heap.size w w1 → Calls Tryz.prog 81 #[.slice pa pl pc,.pointer wp] w1 fun e w'=>e = .returned (.tuple #[.pointer none,.int .i64 c]) ∧ Below w1.heap.size w1 w') :
  Calls Tryz.prog 156 #[.pointer (some ⟨D,0,none⟩),opV k pa pl pc fa fl fc y] w fun e w'=>e = .returned (.int .i64 c) ∧ Below w.heap.size w w':=by
 have HW:=hide hW
 have HF:=hide hF
 have hob:OpB (w.alloc (.cells #[.int .i64 k,.slice pa pl pc,.slice fa fl fc,.pointer y] 178)) w.heap.size k pa pl pc fa fl fc y:=heap_alloc_new w _
 have hba:=(Below.refl w.heap.size w).alloc (Nat.le_refl _) (.cells #[.int .i64 k,.slice pa pl pc,.slice fa fl fc,.pointer y] 178)
 have hol:=hob.lt
 have HBA:=hide hba
 have HOB:=hide hob
 have hs:=hba.size
 have e2:((c:Int) != 0) = true:=by rw [bne_iff_ne]; omega
 have e3:((c:Int) == 0) = false:=by rw [beq_eq_false_iff_ne]; omega
 have b1:=hob.c1
 clear hW hF hob hba hc
 go_enter Tryz.func156,Tryz.ntmps156
 go_wp2_with (fail)
 generalize w.alloc (.cells #[.int .i64 k,.slice pa pl pc,.slice fa fl fc,.pointer y] 178) = wa at *
 go_region_with (first
  | (go_at_call 56; refine (unhide HW _ ?_).mono ?_; exact ⟨(unhide HBA).os,(unhide HBA).tape,(unhide HBA).output,(unhide HBA).size,(unhide HBA).block⟩; rintro x w2 ⟨rfl,hb2⟩; replace hb2:Below wa.heap.size wa w2:=⟨hb2.os,hb2.tape,hb2.output,hb2.size,hb2.block⟩; have d1:=((unhide HOB).low hb2).c1; have HB2:=hide hb2; clear hb2)
  | (go_at_call 81; refine (unhide HF _ ?_).mono ?_; exact (unhide HBA).trans (((unhide HB2).mono (unhide HBA).size).trans ⟨rfl,rfl,rfl,Nat.le_refl _,fun _ _=>rfl⟩); rintro e w3 ⟨rfl,hb3⟩; replace hb3:Below w2.heap.size w2 w3:=⟨hb3.os,hb3.tape,hb3.output,hb3.size,hb3.block⟩; have HB3:=hide hb3; clear hb3))
 all_goals (
  go_wp2_with (fail)
  go_ret
  exact ⟨rfl,(unhide HBA).trans (((unhide HB2).trans ((unhide HB3).mono (unhide HB2).size)).mono (unhide HBA).size)⟩)
set_option maxRecDepth 100000 in
set_option maxHeartbeats 4000000 in
theorem doTest_ok {x:Option Addr} {bo:Bool} (hW:∀ w1,Below w.heap.size w w1 → Calls Tryz.prog 56 #[.pointer (some ⟨D,0,none⟩)] w1 fun x w'=>x = .returned (.pointer wp) ∧ Below w1.heap.size w1 w')
  (hF:∀ w1,Below w.heap.size w w1 → Calls Tryz.prog 81 #[.slice pa pl pc,.pointer wp] w1 fun e w'=>e = .returned (.tuple #[.pointer x,.int .i64 0]) ∧ Below w1.heap.size w1 w')
  (hS:∀ w1,Below w.heap.size w w1 → Calls Tryz.prog 82 #[.pointer x,.pointer y] w1 fun e w'=>e = .returned (.bool bo) ∧ Below w1.heap.size w1 w') :
  Calls Tryz.prog 156 #[.pointer (some ⟨D,0,none⟩),opV k pa pl pc fa fl fc y] w fun e w'=>e = .returned (.int .i64 (if bo = true then 0 else 14)) ∧ Below w.heap.size w w':=by
 have HW:=hide hW
 have HF:=hide hF
 have HS:=hide hS
 have hob:OpB (w.alloc (.cells #[.int .i64 k,.slice pa pl pc,.slice fa fl fc,.pointer y] 178)) w.heap.size k pa pl pc fa fl fc y:=heap_alloc_new w _
 have hba:=(Below.refl w.heap.size w).alloc (Nat.le_refl _) (.cells #[.int .i64 k,.slice pa pl pc,.slice fa fl fc,.pointer y] 178)
 have hol:=hob.lt
 have HBA:=hide hba
 have HOB:=hide hob
 have hs:=hba.size
 have b1:=hob.c1
 clear hW hF hS hob hba
 go_enter Tryz.func156,Tryz.ntmps156
 go_wp2_with (fail)
 generalize w.alloc (.cells #[.int .i64 k,.slice pa pl pc,.slice fa fl fc,.pointer y] 178) = wa at *
 go_region_with (first
  | (go_at_call 56; refine (unhide HW _ ?_).mono ?_; exact ⟨(unhide HBA).os,(unhide HBA).tape,(unhide HBA).output,(unhide HBA).size,(unhide HBA).block⟩; rintro x w2 ⟨rfl,hb2⟩; replace hb2:Below wa.heap.size wa w2:=⟨hb2.os,hb2.tape,hb2.output,hb2.size,hb2.block⟩; have d1:=((unhide HOB).low hb2).c1; have HB2:=hide hb2; clear hb2)
  | (go_at_call 81; refine (unhide HF _ ?_).mono ?_; exact (unhide HBA).trans (((unhide HB2).mono (unhide HBA).size).trans ⟨rfl,rfl,rfl,Nat.le_refl _,fun _ _=>rfl⟩); rintro e w3 ⟨rfl,hb3⟩; replace hb3:Below w2.heap.size w2 w3:=⟨hb3.os,hb3.tape,hb3.output,hb3.size,hb3.block⟩; have HB3:=hide hb3; clear hb3))
 all_goals (
  have hob3:=((unhide HOB).low (unhide HB2)).low (unhide HB3)
  have c3:=hob3.c3
  have HBF:=hide ((unhide HBA).trans (((unhide HB2).trans ((unhide HB3).mono (unhide HB2).size)).mono (unhide HBA).size))
  clear hob3
  try clear d1
  clear b1
  go_wp2_with (fail)
  refine (unhide HS _ ?_).mono ?_
  ·exact ⟨(unhide HBF).os,(unhide HBF).tape,(unhide HBF).output,(unhide HBF).size,(unhide HBF).block⟩
  ·rintro e w8 ⟨rfl,hb8⟩
   have HB8:=hide ((unhide HBF).trans ((show Below w3.heap.size w3 w8 from ⟨hb8.os,hb8.tape,hb8.output,hb8.size,hb8.block⟩).mono (unhide HBF).size))
   clear hb8
   cases bo
   all_goals (
    go_wp2_with (fail)
    go_ret
    exact ⟨rfl,unhide HB8⟩))
end
end Go.Proofs.YtdpomdelmdofmaaGreatDoor

namespace Go.Proofs.YtdpomdelmdofmaaGreatDoor
open Go.RowKit Go.Maps
theorem stands_of {f i:Nat} {w:World} {u:Value} {m c:Sp.A} {t:Sp.By} {d x lv:Int} (hu:TRep (f + 1) w u m) (hg:Sp.gd d x (f + 1) lv (Sp.str (f + 1) m)) (hp:Sp.pos (Sp.str (f + 1) m) t = some i) (hk:(Sp.kids m)[i]? = some c):Stands m ((Sp.idx t).getD 0) t c:=by
 obtain ⟨b,g,xx,rfl,rfl,h⟩:=hu
 rcases h with ⟨k,_,_,rfl,_⟩ | ⟨n,_,rfl,_⟩ | ⟨s,_,rfl,_⟩ | ⟨al,sl,ps,rfl,h,ho,hs,ha⟩ | ⟨es,n,D,rfl,h,ho,hpt⟩
 ·rw [Sp.kids_word] at hk; cases hk
 ·rw [Sp.kids_num] at hk; cases hk
 ·rw [Sp.kids_str] at hk; cases hk
 ·rw [Sp.kids_arr] at hk
  rw [Sp.str_arr] at hp
  unfold Sp.pos Sp.vArr at hp
  simp only at hp
  cases hi:Sp.idx t with
  | none=>rw [hi] at hp; cases hp
  | some j =>
   rw [hi] at hp
   simp only at hp
   split at hp
   ·injection hp with hp
    subst hp
    exact Or.inl ⟨b,g,al,rfl,hk⟩
   ·cases hp
 ·rw [Sp.kids_obj] at hk
  rw [Sp.str_obj] at hp hg
  have hkeys:Sp.Skey (es.map fun p=>(p.1,Sp.str f p.2)):=by
   obtain ⟨_,hh⟩:=hg
   rcases hh with ⟨_,_,hh⟩ | ⟨_,_,hh⟩ | ⟨_,_,_,_,hh⟩ | ⟨_,_,hh⟩ | ⟨es',h1,h2,hh⟩
   ·cases hh
   ·cases hh
   ·cases hh
   ·cases hh
   ·injection hh with hh
    subst hh
    exact ⟨h1,fun p hp=>by obtain ⟨st,hst,_⟩:=(h2 p hp).1; exact ⟨st,hst⟩⟩
  have hskey:Sp.Skey es:=by
   refine ⟨?_,fun p hp=>hkeys.2 (p.1,Sp.str f p.2) (List.mem_map.2 ⟨p,hp,rfl⟩)⟩
   have:=hkeys.1
   rw [List.pairwise_map] at this
   exact this
  unfold Sp.pos Sp.vObj at hp
  simp only at hp
  rw [List.findIdx?_map] at hp
  obtain ⟨hi,h1,_⟩:=List.findIdx?_eq_some_iff_getElem.1 hp
  rw [List.getElem?_map,List.getElem?_eq_getElem hi] at hk
  injection hk with hk
  obtain ⟨s,hs⟩:=hskey.2 _ (List.getElem_mem hi)
  have h1':(es[i].1).sameKey (.string t) = true:=h1
  rw [hs] at h1'
  have hst:=Sp.sameKey_str.1 h1'
  subst hst
  refine Or.inr ⟨b,g,es,rfl,?_,hskey⟩
  have:=List.getElem_mem hi
  rw [show es[i] = (Lit.string s,c) from Prod.ext hs hk] at this
  exact this
section
variable {w:World} {D R:Nat} {wp:Option Addr} {jn iv:Value} {ch:Bool} {Tb T a:Sp.A} {Mb M:Nat → Prop} {wb:World} {v xv:Sp.V} {js:List Sp.Opn} {y:Option Addr} {F:Nat → Prop} {d x:Int} {B:Nat}
theorem taken_err {p:List Sp.By} {c:Nat} {pa:Option Addr} {pl pc:Nat} (h:JS w D R wp jn iv ch Tb Mb wb T a v M js) (hT:Laid w) (hp:TokG w (GA (top + 1) Tb wb M) (.slice pa pl pc) p) (hok:Sp.PathOk p) (hf:Sp.find v p = .error c) :
  ∀ w1,Below w.heap.size w w1 → Calls Tryz.prog 198 #[.pointer (some ⟨D,0,none⟩),.slice pa pl pc] w1 fun e w'=>e = .returned (.tuple #[plZ,.int .i64 c]) ∧ Below w1.heap.size w1 w':=by
 intro w1 hb1
 have hne:p ≠ []:=by rintro rfl; cases hf
 obtain ⟨s,t,rfl⟩:∃ s t,p = s ++ [t]:=⟨p.dropLast,p.getLast hne,(List.dropLast_concat_getLast hne).symm⟩
 have p1:=hok.len
 have p2:=hok.tok
 have hts:∀ u ∈ s,u.length ≤ 1048576:=fun u hu=>by have:=p2 u (by simp [hu]); omega
 have htt:t.length ≤ 1048576:=by have:=p2 t (by simp); omega
 have hsl:s.length ≤ 1048576:=by simp at p1; omega
 rcases hp with ⟨e,_⟩ | ⟨g,o,cap,e,h1,h2,h3,h4⟩
 ·exact absurd e hne
 ·injection e with ea eb ec
  subst ea; subst eb; subst ec
  have hlen:(s ++ [t]).length = s.length + 1:=by simp
  rw [hlen] at h1 ⊢
  have hcne:=find_ne hf
  have hpm:∀ w2,Below w1.heap.size w1 w2 → TokAt w2 g o (s ++ [t]):=fun w2 hb=>(h4.move (hb1.block g h4.1)).move (hb.block g (Nat.lt_of_lt_of_le h4.1 hb1.size))
  have hJ1:=h.bel hb1
  have hT1:=hT.bel hb1
  rw [find_snoc] at hf
  cases hs:Sp.find v s with
  | error c' =>
   rw [hs] at hf
   injection hf with hf
   subst hf
   exact dTaken_par hcne fun w2 hb=>parent_err (hJ1.bel hb) (hT1.bel hb).rng (hpm w2 hb) rfl h1 h2 hts hsl hs
  | ok nv =>
   rw [hs] at hf
   have hvs:=h.t.str
   have hf2:=hs
   rw [← hvs] at hf2
   obtain ⟨f,q,m,u,e1,e2,e3,e4,e5⟩:=find_static h.t.sub hf2
   rw [hvs] at e5
   obtain ⟨ub,rfl,_⟩:=e3.ptr
   have e3':=e3.bel hb1
   refine dTaken_kid (y:=none) hcne (fun w2 hb=>parent_ok (hJ1.bel hb) (hT1.bel hb).rng (hpm w2 hb) rfl h1 h2 hts hsl hs e2 (e3'.bel hb) e5) fun w2 hb=>(kid_walk htt (hT1.bel hb).rng (e3'.bel hb)).mono ?_
   rintro e w' ⟨hk,hb2⟩
   unfold KidOut at hk
   rw [e4] at hk
   simp only at hf
   rw [hf] at hk
   exact ⟨hk,hb2⟩
theorem taken_ok {p:List Sp.By} {ev:Sp.V} {pa:Option Addr} {pl pc:Nat} (h:JS w D R wp jn iv ch Tb Mb wb T a v M js) (hT:Laid w) (hv:Sp.Fit d x B v) (hB:B ≤ 900000000) (hp:TokG w (GA (top + 1) Tb wb M) (.slice pa pl pc) p) (hok:Sp.PathOk p) (hf:Sp.find v p = .ok ev) :
  ∃ f q m c i key qa ql qc,f + 1 + List.length q = top + 1 ∧ Sp.sub q T = some m ∧ Stands m i key c ∧ Sp.str f c = ev ∧ 1000 ≤ f ∧ f ≤ top ∧ Roomy m key ∧ TokG w (GA (top + 1) Tb wb M) (.slice qa ql qc) p ∧
   (p ≠ [] → ∃ g a1,Sp.put q (Sp.remT i key m) T = Sp.nd R g (.slice [a1] []) ∧ Sp.drem v p = .ok (Sp.str top a1,[(0,p,ev)])) ∧
   (∀ xa,∃ g a1,Sp.put q (Sp.setT i key xa m) T = Sp.nd R g (.slice [a1] []) ∧ Sp.drep v p (Sp.str f xa) = .ok (Sp.str top a1,[(2,p,ev)])) ∧
   ∀ w1,Below w.heap.size w w1 → Calls Tryz.prog 198 #[.pointer (some ⟨D,0,none⟩),.slice pa pl pc] w1 fun e w'=>e = .returned (.tuple #[plV (.slice qa ql qc) (Sp.blk m) key i,.int .i64 0]) ∧ Below w1.heap.size w1 w':=by
 obtain ⟨gT,eT⟩:=h.t.one
 have hvs:=h.t.str
 by_cases hne:p = []
 ·subst hne
  injection hf with hf
  subst hf
  have hpl:pl = 0:=by
   rcases hp with ⟨_,a0,c0,e,_⟩ | ⟨g,o,cap,e,_⟩
   ·injection e
   ·injection e
  subst hpl
  refine ⟨top,[],T,a,0,[],none,0,0,rfl,rfl,Or.inl ⟨R,gT,[a],eT,rfl⟩,hvs,by have:=top_eq; omega,Nat.le_refl _,by rw [eT]; exact ⟨by rw [Sp.kids_arr]; simp,by simp⟩,Or.inl ⟨rfl,none,0,rfl,by simp⟩,fun hh=>absurd rfl hh,fun xa=>⟨gT,xa,by rw [eT]; rfl,rfl⟩,fun w1 hb1=>?_⟩
  have hblk:Sp.blk T = R:=by rw [eT]; rfl
  rw [hblk]
  exact dTaken_nil (h.bel hb1).t.db
 ·obtain ⟨s,t,rfl⟩:∃ s t,p = s ++ [t]:=⟨p.dropLast,p.getLast hne,(List.dropLast_concat_getLast hne).symm⟩
  have p1:=hok.len
  have p2:=hok.tok
  have hts:∀ u ∈ s,u.length ≤ 1048576:=fun u hu=>by have:=p2 u (by simp [hu]); omega
  have htt:t.length ≤ 1048576:=by have:=p2 t (by simp); omega
  have hsl:s.length ≤ 1048576:=by simp at p1; omega
  rw [find_snoc] at hf
  cases hs:Sp.find v s with
  | error c'=>rw [hs] at hf; cases hf
  | ok nv =>
   rw [hs] at hf
   simp only at hf
   have hf2:=hs
   rw [← hvs] at hf2
   obtain ⟨f,q,m,u,e1,e2,e3,e4,e5⟩:=find_static h.t.sub hf2
   obtain ⟨n1,n2,n3,n4,n5,n6,n7⟩:=h.node hv e1 e2 e3
   rw [hvs] at e5
   rw [← e4] at hf
   obtain ⟨i0,c,xk,k1,k2,k3,k4⟩:=kid_static e3 hf
   have hst:=stands_of e3 n5 k1 k2
   refine ⟨f,0 :: q,m,c,(Sp.idx t).getD 0,t,pa,pl,pc,n1,n2,hst,k3,n3,by omega,⟨by omega,htt⟩,hp,fun _=>?_,fun xa=>?_,fun w1 hb1=>?_⟩
   ·obtain ⟨r1,r2⟩:=h.value (m':=Sp.remT ((Sp.idx t).getD 0) t m) eT e1 e2
    rw [Sp.str_rem hst.box] at r2
    refine ⟨gT,_,r1,?_⟩
    unfold Sp.drem
    rw [pSplit_snoc]
    simp only [hs]
    rw [← e4,hf]
    simp only
    rw [r2,way_of e5]
   ·obtain ⟨r1,r2⟩:=h.value (m':=Sp.setT ((Sp.idx t).getD 0) t xa m) eT e1 e2
    rw [Sp.str_set hst.box] at r2
    refine ⟨gT,_,r1,?_⟩
    unfold Sp.drep
    rw [pSplit_snoc]
    simp only [hs]
    rw [← e4,hf]
    simp only
    rw [r2,way_of e5]
   ·rcases hp with ⟨e,_⟩ | ⟨g,o,cap,e,h1,h2,h3,h4⟩
    ·exact absurd e hne
    ·injection e with ea eb ec
     subst ea; subst eb; subst ec
     have hlen:(s ++ [t]).length = s.length + 1:=by simp
     rw [hlen] at h1 ⊢
     have hpm:∀ w2,Below w1.heap.size w1 w2 → TokAt w2 g o (s ++ [t]):=fun w2 hb=>(h4.move (hb1.block g h4.1)).move (hb.block g (Nat.lt_of_lt_of_le h4.1 hb1.size))
     have hJ1:=h.bel hb1
     have hT1:=hT.bel hb1
     obtain ⟨ub,rfl,_⟩:=e3.ptr
     have hblk:Sp.blk m = ub:=by
      obtain ⟨b',g',x',rfl,eu,_⟩:=e3
      injection eu with eu
      injection eu with eu
      injection eu with eu _ _
      exact eu.symm
     rw [hblk]
     have e3':=e3.bel hb1
     refine dTaken_ok (b:=ub) (io:=Sp.idx t) (fun w2 hb=>parent_ok (hJ1.bel hb) (hT1.bel hb).rng (hpm w2 hb) rfl h1 h2 hts hsl hs e2 (e3'.bel hb) e5) (fun w2 hb=>(kid_walk htt (hT1.bel hb).rng (e3'.bel hb)).mono ?_) (fun w2 hb=>Index_any t w2 htt (hT1.bel hb).rng)
     rintro e w' ⟨hk,hb2⟩
     unfold KidOut at hk
     rw [hf] at hk
     obtain ⟨i',c',x',_,_,_,rfl,hx'⟩:=hk
     obtain ⟨xb,rfl,_⟩:=hx'.ptr
     exact ⟨⟨_,rfl⟩,hb2⟩
theorem drem_err {p:List Sp.By} {c:Nat} (hne:p ≠ []) (hf:Sp.find v p = .error c):Sp.drem v p = .error c:=by
 obtain ⟨s,t,rfl⟩:∃ s t,p = s ++ [t]:=⟨p.dropLast,p.getLast hne,(List.dropLast_concat_getLast hne).symm⟩
 rw [find_snoc] at hf
 unfold Sp.drem
 rw [pSplit_snoc]
 cases hs:Sp.find v s with
 | error c' =>
  rw [hs] at hf
  injection hf with hf
  subst hf
  simp only
  rw [hs]
 | ok nv=>rw [hs] at hf; simp only at hf ⊢; rw [hs]; simp only; rw [hf]
theorem drep_err {p:List Sp.By} {c:Nat} (hf:Sp.find v p = .error c):Sp.drep v p xv = .error c:=by
 have hne:p ≠ []:=by rintro rfl; cases hf
 obtain ⟨s,t,rfl⟩:∃ s t,p = s ++ [t]:=⟨p.dropLast,p.getLast hne,(List.dropLast_concat_getLast hne).symm⟩
 rw [find_snoc] at hf
 unfold Sp.drep
 rw [pSplit_snoc]
 cases hs:Sp.find v s with
 | error c' =>
  rw [hs] at hf
  injection hf with hf
  subst hf
  simp only
  rw [hs]
 | ok nv=>rw [hs] at hf; simp only at hf ⊢; rw [hs]; simp only; rw [hf]
theorem remove_at {L f:Nat} {p:List Nat} {i:Nat} {rv:Value} {m c:Sp.A} {key:Sp.By} {pa:Option Addr} {pl pc:Nat} {path:List Sp.By} (hL:f + 1 + p.length = L)
  (hJ:JDoc L w D rv jn iv ch Tb Mb wb T M js) (hs:Sp.sub p T = some m) (hf:Stands m i key c) (hr:Roomy m key) (hl:js.length ≤ 1000000000) (hp:TokG w (GA L Tb wb M) (.slice pa pl pc) path) (hft:f ≤ top) :
  Calls Tryz.prog 199 #[.pointer (some ⟨D,0,none⟩),plV (.slice pa pl pc) (Sp.blk m) key i] w fun e w'=>e = .returned (.tuple #[]) ∧
   DocEnd L D rv iv ch Tb Mb wb (Sp.put p (Sp.remT i key m) T) M (js ++ [(0,path,Sp.str f c)]) w w' ∧ ∀ y,TRep f w y c → TRep f w' y c:=by
 subst hL
 exact remove_doc hJ hs hf hr hl hp hft
theorem swap_at {L f:Nat} {p:List Nat} {i:Nat} {rv:Value} {m c xa:Sp.A} {key:Sp.By} {pa px:Option Addr} {pl pc:Nat} {path:List Sp.By} (hL:f + 1 + p.length = L)
  (hJ:JDoc L w D rv jn iv ch Tb Mb wb T M js) (hs:Sp.sub p T = some m) (hf:Stands m i key c) (hr:Roomy m key) (hl:js.length ≤ 1000000000) (hp:TokG w (GA L Tb wb M) (.slice pa pl pc) path) (hft:f ≤ top) (hx:TRep f w (.pointer px) xa) (hxn:(Sp.fp f xa).Nodup) (hxd:∀ k ∈ Sp.fp f xa,¬ M k ∧ k ∉ Sp.fp L T ∧ k ≠ D ∧ jn.ownBlock ≠ some k ∧ wb.heap.size ≤ k) :
  Calls Tryz.prog 200 #[.pointer (some ⟨D,0,none⟩),plV (.slice pa pl pc) (Sp.blk m) key i,.pointer px] w fun e w'=>e = .returned (.tuple #[]) ∧
   DocEnd L D rv iv ch Tb Mb wb (Sp.put p (Sp.setT i key xa m) T) M (js ++ [(2,path,Sp.str f c)]) w w':=by
 subst hL
 exact swap_doc hJ hs hf hr hl hp hft hx hxn hxd
end
end Go.Proofs.YtdpomdelmdofmaaGreatDoor
