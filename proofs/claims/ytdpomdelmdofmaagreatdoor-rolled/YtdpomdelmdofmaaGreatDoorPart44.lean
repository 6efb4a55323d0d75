/-
  Patches: Read, the walk.
-/
import Derived.Test.YtdpomdelmdofmaaGreatDoorPart42
import Derived.Test.YtdpomdelmdofmaaGreatDoorPart43
import Derived.Test.YtdpomdelmdofmaaGreatDoorPart35
namespace Go.Proofs.YtdpomdelmdofmaaGreatDoor
open Go.RowKit Go.Maps
theorem alloc_size1 (w:World) (o:Obj):(w.alloc o).heap.size = w.heap.size + 1:=by simp
section
variable {f:Nat} {F:Nat → Prop} {w:World} {v:Value} {d:Sp.V}
set_option maxRecDepth 100000 in
set_option maxHeartbeats 4000000 in
theorem paRead_any (h:Rep (f + 2) F w v d) (hf:f ≤ top) (hs:∀ es y,d = .slice es y → es.length ≤ 400000000 ∧ ∀ x ∈ es,∀ k s,Sp.pStrOf (Sp.pMem x k) = some s → s.length ≤ 1048576) (hT:Laid w) (hO:OTab w) :
  Calls Tryz.prog 83 #[v] w fun e w'=>pareadEnd F d w e w' ∧ Below w.heap.size w w':=by
 obtain ⟨b,rfl,hb,h⟩:=h
 have hK:=hide (kinds_any hO)
 by_cases harr:∃ es,d = Sp.vArr es
 ·obtain ⟨es,rfl⟩:=harr
  obtain ⟨sl,ps,hv,ho,hF,ha⟩:∃ sl ps,VB w b 5 n0 [] sl (.map none) ∧ w.ownsRow 0 80 1 sl ps.length ps ∧ (∀ g,sl.ownBlock = some g → F g) ∧ Al (Rep (f + 1) F w) ps es:=by
   rcases h with ⟨k,_,e,h⟩ | ⟨n,e,h,_⟩ | ⟨s,e,h⟩ | ⟨es',sl,ps,e,h1,h2,h3,h4⟩ | ⟨es',m,n,D,e,_⟩
   ·cases e
   ·cases e
   ·cases e
   ·cases e; exact ⟨sl,ps,h1,h2,h3,h4⟩
   ·cases e
  obtain ⟨hN4,hstr⟩:=hs es [] rfl
  have hal:=ha.length
  have c0:=hv.c0
  have c5:=hv.c5
  have hbl:=hv.lt
  obtain ⟨N,hN⟩:∃ N,N = ps.length:=⟨_,rfl⟩
  obtain ⟨ao,cap,g,rfl,hrow⟩:∃ ao cap g,sl = .slice ao ps.length cap ∧ (0 < ps.length → ao = some ⟨g,0,none⟩ ∧ g < w.heap.size ∧ ps.length ≤ cap ∧ ∀ k (hk:k < ps.length),w.cell? ⟨g,k,none⟩ = some ps[k]):=by
   rcases ho.2 with ⟨h1,h0⟩ | ⟨g',cap,cur,h1,_⟩
   ·exact ⟨none,0,0,by rw [h1,h0],fun h=>absurd h (by omega)⟩
   ·refine ⟨some ⟨g',0,none⟩,cap,g',h1,fun hp=>?_⟩
    obtain ⟨g2,cap2,e,a1,a2,a3,a4⟩:=owns_cell1 ho hp
    rw [h1] at e
    injection e with e1 e2 e3
    injection e1 with e1
    injection e1 with e1
    subst e1; subst e3
    exact ⟨rfl,a3,a1,fun k hk=>a4 k hk⟩
  rw [← hN] at c5 hal
  obtain ⟨i0,z0,hi,hz,hz1,hz2,hz3⟩:=op_parts
  have HT:=hide hT
  have HA:=hide ha
  have HROW:=hide hrow
  have HSTR:=hide hstr
  have HNN:=hide hN
  have HNE:=hide hal
  have HBL:=hide hbl
  have HC5:=hide c5
  have hN3:(N:Int) ≤ 400000000:=by omega
  obtain ⟨Q,hQ⟩:∃ Q,Q = pareadEnd F (Sp.vArr es) w:=⟨_,rfl⟩
  rw [← hQ]
  have HQ:=hide hQ
  clear h hb hs hT hO hv ho hF ha hN4 hstr hal hbl hN hrow hQ c5
  go_enter Tryz.func83,Tryz.ntmps83
  go_wp2_with (fail)
  refine (unhide hK).mono ?_
  rintro e w1 ⟨m,rfl,hm0,hm,hb1⟩
  have c51:=(hb1.cell (p:=⟨b,5,none⟩) (unhide HBL)).trans (unhide HC5)
  have HB1:=hide hb1
  have HM:=hide hm
  have hml:m < w1.heap.size:=by obtain ⟨es,clock,hb,_⟩:=hm; exact (Array.getElem?_eq_some_iff.1 hb).1
  have HML:=hide hml
  have H0:=hide (show RdI F w1 es 0 (.slice none 0 0) [] [] w1 from ⟨rfl,⟨rfl,Or.inl ⟨rfl,rfl⟩⟩,Below.refl _ _,fun i hi=>absurd hi (by simp),by simp only [List.drop_zero]; cases Sp.pItems 0 es <;> rfl⟩)
  clear hK hm0 hm hb1 hml
  go_wp2_with (fail)
  go_loopw [2,21] (fun pv i wr=>∃ (k:Nat) (xs:List Value) (ops:List Sp.Op2),k ≤ N ∧ i = .int .i64 k ∧ Hid (RdI F w1 es k pv xs ops wr)) (fun _ i _=>N - (intOf i).toNat)
  case atStart=>exact ⟨0,[],[],by omega,rfl,H0⟩
  case round =>
   obtain ⟨k,xs,ops,hk,rfl,HI⟩:=hrel
   by_cases hlt:k < N
   ·have hkl:k < ps.length:=by have:=unhide HNN; omega
    have hke:k < es.length:=by have:=unhide HNE; omega
    obtain ⟨hao,hgl,hcap,hcell⟩:=unhide HROW (by omega)
    subst hao
    have hbw:Below w.heap.size w wr:=(unhide HB1).trans ((unhide HI).bel.mono (unhide HB1).size)
    have ck:=(hbw.cell (p:=⟨g,k,none⟩) hgl).trans (hcell k hkl)
    obtain ⟨ek,hek⟩:∃ ek,ek = es[k]:=⟨_,rfl⟩
    have hrep:Rep (f + 1) (fun q=>F q ∧ q < w1.heap.size) wr ps[k] ek:=hek ▸ ((unhide HA).get k hkl hke).move fun j hj hjl=>⟨hbw.block j hjl,hj,Nat.lt_of_lt_of_le hjl (unhide HB1).size⟩
    have hTr:Laid wr:=(unhide HT).below (hbw.mono (unhide HT).ng)
    have HITEM:=hide (item_any hrep hf (unhide HSTR ek (hek ▸ List.getElem_mem hke)) (kmap_kept (unhide HM) ((unhide HI).bel.block m (unhide HML))) hTr)
    have hn1:(N:Int) ≤ (cap:Int):=by have:=unhide HNN; omega
    have hlt2:(k:Int) < (N:Int):=by omega
    have hlt3:(k:Int) < (cap:Int):=by omega
    obtain ⟨pk,hpk⟩:∃ pk,pk = ps[k]:=⟨_,rfl⟩
    rw [← hpk] at ck HITEM
    have HKL:=hide hkl
    have HKE:=hide hke
    have HEK:=hide hek
    clear hbw hcell hrep hTr hkl hpk hek
    go_wp2_with (fail)
    refine (unhide HITEM).mono ?_
    rintro e W2 ⟨hend,hb2⟩
    have HB2:=hide hb2
    unfold itemEnd at hend
    cases hit:Sp.pItem ek with
    | none =>
     rw [hit] at hend
     subst hend
     have HEND:=hide (show Sp.pread (Sp.vArr es) = .error k by
      show Sp.pItems 0 es = _
      rw [(unhide HI).eq,List.drop_eq_getElem_cons (unhide HKE),Sp.pItems,← unhide HEK,hit])
     clear hit hb2
     unfold opV
     go_wp2_with (fail)
     go_ret3
     refine ⟨?_,(((unhide HB1).trans (((unhide HI).bel.trans ((unhide HB2).mono (unhide HI).bel.size)).mono (unhide HB1).size)).alloc (Nat.le_trans (unhide HB1).size (Nat.le_trans (unhide HI).bel.size (unhide HB2).size)) _)⟩
     rw [unhide HQ,pareadEnd,unhide HEND]
     rfl
    | some o =>
     rw [hit] at hend
     obtain ⟨pa,pl,pc,fa,fl,fc,y,rfl,hop⟩:=hend
     obtain ⟨ok,hok⟩:∃ ok:Nat,ok = o.1:=⟨_,rfl⟩
     have HOP:=hide hop
     have HIT:=hide hit
     have HOK:=hide hok
     unfold opV
     rw [← hok]
     have hs2:=hb2.size
     have hsw:=(unhide HI).bel.size
     have hb4:Below wr.heap.size wr ((W2.alloc (.cells #[.int .i64 ok,.slice pa pl pc,.slice fa fl fc,.pointer y] 178)).alloc (.cells #[.int .i64 ok,.slice pa pl pc,.slice fa fl fc,.pointer y] 178)):=(hb2.alloc hs2 _).alloc (by simp; omega) _
     have HB4:=hide hb4
     have HOWN:=hide ((unhide HI).own.kept ⟨hb4.os,hb4.tape,hb4.output,hb4.size,fun j hj _=>hb4.block j hj⟩ (row:=none) (Classical.em _))
     have HS2:=hide hs2
     have HSW:=hide hsw
     have hk64:((k:Nat) + 1) * 64 ≤ 140737488355328:=by omega
     have hkm:k + 1 ≤ maxLen:=by unfold maxLen; omega
     clear hit hb2 hop hok hb4
     go_wp2_with (first
      | (at_builtin; refine wpList_append_own_at _ rfl _ _ 113 rfl w1.heap.size 178 i0 z0 4 64 Tryz.underlying113 hi hz hz2 hz3 hz1 (by decide) _ _ _ rfl (unhide HOWN) ⟨W2.heap.size + 1,0,none⟩ 1 1 [.int .i64 ok,.slice pa pl pc,.slice fa fl fc,.pointer y] rfl rfl (World.news_of_block (cs:=#[.int .i64 ok,.slice pa pl pc,.slice fa fl fc,.pointer y]) (t:=178) (fr:=(0,0)) (by have:=heap_alloc_new (W2.alloc (.cells #[.int .i64 ok,.slice pa pl pc,.slice fa fl fc,.pointer y] 178)) (.cells #[.int .i64 ok,.slice pa pl pc,.slice fa fl fc,.pointer y] 178); rw [alloc_size1] at this; exact this)) (by intro u hu; simp at hu; rcases hu with rfl | rfl | rfl | rfl <;> rfl) hkm hk64 (by simp; omega) ?_; intro v' w5 hown' hgrow hnil hloc))
     have hbb:=Below.refl W2.heap.size W2
     have hb9:=(hbb.alloc (Nat.le_refl _) (.cells #[.int .i64 ok,.slice pa pl pc,.slice fa fl fc,.pointer y] 178)).alloc (by simp) (.cells #[.int .i64 ok,.slice pa pl pc,.slice fa fl fc,.pointer y] 178)
     rw [unhide HOK] at hown' hgrow hb9 hloc
     have HB5:=unhide HB4
     rw [unhide HOK] at HB5
     exact ⟨⟨k + 1,_,_,by omega,by go_num,RdI.next (unhide HI) (unhide HKE) (by rw [← unhide HEK]; exact unhide HIT) HB5 ((unhide HOP).move fun j hj hjl=>⟨hb9.block j hjl,hj⟩) hown' hgrow hloc⟩,by simp [intOf]; omega⟩
   ·obtain rfl:k = N:=by omega
    have hI:=unhide HI
    have hlen:k = es.length:=by have:=unhide HNE; omega
    have heq:Sp.pread (Sp.vArr es) = .ok ops:=by
     show Sp.pItems 0 es = _
     rw [hI.eq,List.drop_eq_nil_of_le (by omega)]
     simp [Sp.pItems]
    obtain ⟨ao2,cap2,g2,rfl,hc4⟩:=owns_cell4 hI.own
    have hfin:Q (.returned (.tuple #[.slice ao2 k cap2,.int .i64 0,.bool true])) wr:=by
     rw [unhide HQ,pareadEnd,heq]
     refine ⟨ao2,g2,cap2,by rw [hI.len],fun hp=>?_,?_⟩
     ·obtain ⟨a1,a2,a3,a4⟩:=hc4 (by rw [← hI.len]; exact hp)
      exact ⟨a1,Nat.le_trans (unhide HB1).size a3⟩
     ·refine RowOps.mem (hI.rops.move fun j hj hjl=>⟨rfl,?_⟩) fun hp=>(hc4 (by rw [← hI.len]; exact hp)).2.2.2
      rcases hj.1 with ⟨h1,h2⟩ | h1
      ·by_cases h3:j < w.heap.size
       ·exact Or.inl ⟨h1,h3⟩
       ·exact Or.inr (by omega)
      ·exact Or.inr (Nat.le_trans (unhide HB1).size h1)
    have HFIN:=hide hfin
    have HBW:=hide ((unhide HB1).trans (hI.bel.mono (unhide HB1).size))
    have hlt2:¬ (k:Int) < (k:Int):=by omega
    clear hI hlen heq hc4 hfin
    go_wp2_with (fail)
    go_ret3
    exact ⟨unhide HFIN,unhide HBW⟩
 ·obtain ⟨x,n,s,sl,mv,hv,hx⟩:∃ (x:Nat) (n:Sp.Nm) (s:Sp.By) (sl mv:Value),VB w b x n s sl mv ∧ x ≠ 5:=by
   rcases h with ⟨k,hk,rfl,h⟩ | ⟨n,rfl,h,_⟩ | ⟨s,rfl,h⟩ | ⟨es,sl,ps,rfl,h,_⟩ | ⟨es,m,n,D,rfl,h,_⟩
   ·exact ⟨k,_,_,_,_,h,by omega⟩
   ·exact ⟨3,_,_,_,_,h,by omega⟩
   ·exact ⟨4,_,_,_,_,h,by omega⟩
   ·exact absurd ⟨es,rfl⟩ harr
   ·exact ⟨6,_,_,_,_,h,by omega⟩
  have hpr:Sp.pread d = .error 0:=by
   unfold Sp.pread
   split
   ·rename_i es y
    exfalso
    rcases h with ⟨k,_,e,h⟩ | ⟨n,e,h,_⟩ | ⟨s,e,h⟩ | ⟨es',sl,ps,e,_⟩ | ⟨es',m,n,D,e,_⟩
    ·cases e
    ·cases e
    ·cases e
    ·exact harr ⟨es',e⟩
    ·cases e
   ·rfl
  have c0:=hv.c0
  have e1:((x:Int) != 5) = true:=by rw [bne_iff_ne]; omega
  have HOUT:=hide (show pareadEnd F d w (.returned (.tuple #[.slice none 0 0,.int .i64 0,.bool false])) w by unfold pareadEnd; rw [hpr]; rfl)
  clear h hb harr hv hpr hs hT hO hK hx
  go_enter Tryz.func83,Tryz.ntmps83
  go_wp2_with (fail)
  go_ret3
  exact ⟨unhide HOUT,Below.refl _ _⟩
end
end Go.Proofs.YtdpomdelmdofmaaGreatDoor

namespace Go.Proofs.YtdpomdelmdofmaaGreatDoor
open Go.RowKit Go.Maps
abbrev FN (F:Nat → Prop) (B:Nat):Nat → Prop:=fun k=>(F k ∧ k < B) ∨ B ≤ k
section
variable {w w2:World} {D R:Nat} {wp:Value} {iv:Value} {ch:Bool} {T a:Sp.A} {v:Sp.V}
theorem patch_start (h:DocT w D R wp (.slice none 0 0) iv ch T a v) (hb:Below w.heap.size w w2) :
  ∃ wp0,wp = .pointer wp0 ∧ JS w2 D R wp0 (.slice none 0 0) iv ch T (fun k=>k < w.heap.size ∧ k ∉ Sp.fp (top + 1) T ∧ k ≠ D) w T a v (fun k=>k < w2.heap.size ∧ k ∉ Sp.fp (top + 1) T ∧ k ≠ D) []:=by
 obtain ⟨b,rfl,_⟩:=h.sub.ptr
 have hs:=hb.size
 refine ⟨_,rfl,⟨⟨[],[],h.db.kept (hb.block D h.db.lt),⟨rfl,Or.inl ⟨rfl,rfl⟩⟩,trivial,fun N w' hA=>?_⟩,by simp [Value.ownBlock],fun g hg=>by simp [Value.ownBlock] at hg,h.tr.bel hb,h.nd,⟨h.nD,fun hm=>hm.2.2 rfl⟩,fun k hk=>⟨hk.1,hk.2.1⟩,⟨hs,fun k hk=>Or.inr hk⟩⟩,h.move (hb.block D h.db.lt) fun k hk=>hb.block k (h.tr.lt k hk)⟩
 obtain ⟨T',e,t1,t2,t3⟩:=hA.tree
 exact ⟨⟨T',e,t1,t2,fun k hk=>⟨fun hm=>(t3 k hk).1 ⟨by omega,hm.2⟩,(t3 k hk).2⟩⟩,fun k hm=>(hA.held k ⟨by omega,hm.2⟩).trans (hb.block k hm.1),fun k hm=>hA.low k ⟨by omega,hm.2⟩⟩
theorem DocT.of {w':World} {g:Nat} {T1:Sp.A} {a1:Sp.A} (hd:DB w' D (.pointer (some ⟨R,0,none⟩)) (.slice none 0 0) ch iv) (ht:TRep (top + 1) w' (.pointer (some ⟨R,0,none⟩)) T1) (hn:(Sp.fp (top + 1) T1).Nodup) (hD:D ∉ Sp.fp (top + 1) T1) (e:Sp.er (top + 1) T1 = Sp.er (top + 1) (Sp.nd R g (.slice [a1] []))) :
  ∃ wp a,DocT w' D R wp (.slice none 0 0) iv ch T1 a (Sp.str top a1):=by
 obtain ⟨g',al',rfl,e2⟩:=ht.er_arr e
 obtain ⟨a,rfl⟩:∃ a,al' = [a]:=List.length_eq_one_iff.1 (by have:=congrArg List.length e2; simpa using this)
 have e3:Sp.er top a = Sp.er top a1:=by
  have:=congrArg (fun l:List Sp.A=>l[0]?) e2
  simpa using this
 obtain ⟨u,hu⟩:∃ u,TRep top w' u a:=TRep.at (f:=top) (p:=[0]) ht rfl
 exact ⟨u,a,hd,ht,⟨g',rfl⟩,hu,by rw [← Sp.str_er,e3,Sp.str_er],hn,hD⟩
variable {F:Nat → Prop} {B:Nat} {d e:Int} {x:Sp.V × Sp.Inv} {w':World}
theorem patch_back (h:DocT w D R wp (.slice none 0 0) iv ch T a x.1) (hch:ch = x.2.isSome) (hF:∀ k ∈ Sp.fp (top + 1) T,F k) (hi:InvR w (fun k=>F k ∧ k ≠ D ∧ k ∉ Sp.fp (top + 1) T) iv x.2) (fD:F D) (hl:(Sp.can top x.1).length ≤ 80000) (hg:Sp.gd d e top 1 x.1) (hFB:∀ k,F k → k < w.heap.size → k < B) (hB:B ≤ w.heap.size)
  (hA:TreeAt (top + 1) (.pointer (some ⟨R,0,none⟩)) T (fun k=>k < w.heap.size ∧ k ∉ Sp.fp (top + 1) T ∧ k ≠ D) (fun k=>k = D) w w') (hd:DB w' D (.pointer (some ⟨R,0,none⟩)) (.slice none 0 0) ch iv) :
  DocF w' (FN F B) (.pointer (some ⟨D,0,none⟩)) d e (some x):=by
 obtain ⟨T',er',t1,t2,t3⟩:=hA.tree
 obtain ⟨g,eT⟩:=h.one
 have hDl:=h.db.lt
 have hTl:=h.tr.lt
 obtain ⟨wp',a',hd'⟩:=DocT.of hd t1 t2 (fun hm=>(t3 D hm).2 rfl) (by rw [er',eT])
 rw [h.str] at hd'
 have hin:∀ k ∈ Sp.fp (top + 1) T',w.heap.size ≤ k ∨ k ∈ Sp.fp (top + 1) T:=fun k hk=>by
  by_cases h1:w.heap.size ≤ k
  ·exact Or.inl h1
  ·refine Or.inr (Classical.byContradiction fun h2=>(t3 k hk).1 ⟨by omega,h2,fun h3=>(t3 k hk).2 h3⟩)
 refine ⟨D,R,wp',rfl,⟨T',a',iv,by rw [← hch]; exact hd',fun k hk=>?_,hi.move fun k hk hkl=>?_⟩,Or.inl ⟨fD,hFB D fD hDl⟩,hl,hg⟩
 ·rcases hin k hk with h1 | h1
  ·exact Or.inr (by omega)
  ·exact Or.inl ⟨hF k h1,hFB k (hF k h1) (hTl k h1)⟩
 ·refine ⟨hA.held k ⟨hkl,hk.2.2,hk.2.1⟩,Or.inl ⟨hk.1,hFB k hk.1 hkl⟩,hk.2.1,fun hm=>?_⟩
  rcases hin k hm with h1 | h1
  ·omega
  ·exact hk.2.2 h1
theorem patch_done {wk:World} {wp':Option Addr} {jn iv':Value} {T2 a2:Sp.A} {Mb M':Nat → Prop} {j:List Sp.Opn} {v':Sp.V} (hF:∀ k ∈ Sp.fp (top + 1) T,F k ∧ k < B) (fD:F D ∧ D < B) (hB:B ≤ w.heap.size)
  (hJ:JS wk D R wp' jn iv ch T Mb w T2 a2 v' M' j) (hd:DB w' D (.pointer (some ⟨R,0,none⟩)) (.slice none 0 0) true iv') (ho:OpsR w' (fun k=>GA (top + 1) T w M' k ∨ wk.heap.size ≤ k) iv' j.reverse) (hk:KeptF (fun k=>k = D) wk w')
  (hl:(Sp.can top v').length ≤ 80000) (hg:Sp.gd d e top 1 v') (hp:(Sp.ptext j.reverse).length ≤ 8796093022208) (hok:∀ o ∈ j.reverse,Sp.IOk o) :
  DocF w' (FN F B) (.pointer (some ⟨D,0,none⟩)) d e (some (v',some j.reverse)):=by
 have h:=hJ.t
 have hTl:=h.tr.lt
 have hup:=hJ.j.up
 have hnD:=h.nD
 have ht:∀ k ∈ Sp.fp (top + 1) T2,w'.heap[k]? = wk.heap[k]?:=fun k hkk=>hk.block k (hTl k hkk) fun e=>hnD (e ▸ hkk)
 have hsub:∀ k,k ∈ Sp.fp top a2 → k ∈ Sp.fp (top + 1) T2:=fun k hkk=>by
  obtain ⟨g,e⟩:=h.one
  rw [e,Sp.fp_arr]
  exact List.mem_cons_of_mem _ (List.mem_append_right _ (by simpa using hkk))
 have hin:∀ k,(w.heap.size ≤ k ∨ k ∈ Sp.fp (top + 1) T) → FN F B k:=fun k hh=>hh.elim (fun h1=>Or.inr (by omega)) fun h1=>Or.inl (hF k h1)
 refine ⟨D,R,.pointer wp',rfl,⟨T2,a2,iv',⟨hd,h.tr.move ht,h.one,h.sub.move fun k hkk=>ht k (hsub k hkk),h.str,h.nd,h.nD⟩,fun k hkk=>hin k (hup.2 k hkk),ho.move fun k hkk hkl=>⟨rfl,?_⟩,hp,hok⟩,Or.inl fD,hl,hg⟩
 rcases hkk with ⟨h1,h2⟩ | h1
 ·exact ⟨hin k h2,fun e=>hJ.j.dD.2 (e ▸ h1),(hJ.j.low k h1).2⟩
 ·have h3:=hJ.j.dlt
  exact ⟨Or.inr (by have:=hup.1; omega),by omega,fun hm=>by have:=hTl k hm; omega⟩
end
end Go.Proofs.YtdpomdelmdofmaaGreatDoor

namespace Go.Proofs.YtdpomdelmdofmaaGreatDoor
open Go.RowKit Go.Maps
namespace Sp
theorem tokT_len:∀ t:By,(tokT t).length ≤ 2 * t.length
 | []=>Nat.le_refl _
 | c :: r=>by
  have h1:=tokT_len r
  have h2:(escT1 c).length ≤ 2:=by
   unfold escT1
   repeat' split
   all_goals simp
  simp only [tokT,List.flatMap_cons,List.length_append,List.length_cons] at h1 ⊢
  omega
theorem ptxt_len:∀ p:List By,(ptxt p).length ≤ 2 * (p.map fun t=>t.length + 1).sum
 | []=>Nat.le_refl _
 | t :: r=>by
  have h1:=ptxt_len r
  have h2:=tokT_len t
  simp only [ptxt,List.flatMap_cons,List.length_append,List.length_cons,List.map_cons,List.sum_cons] at h1 ⊢
  omega
theorem sum_bd {α:Type} {q:α → Nat} {m:Nat}:∀ {l:List α},(∀ a ∈ l,q a ≤ m) → (l.map q).sum ≤ l.length * m
 | [],_=>by simp
 | a :: l,h=>by
  have h1:=h a (by simp)
  have h2:=sum_bd (q:=q) (l:=l) fun b hb=>h b (by simp [hb])
  simp only [List.map_cons,List.sum_cons,List.length_cons,Nat.add_mul]; omega
theorem arr_lenB {f m:Nat} {es:List V} (h:∀ e ∈ es,(can f e).length ≤ m):(can (f + 1) (vArr es)).length ≤ 2 + es.length * (m + 1):=by
 rw [can_arr]
 have h1:=joinC_sum (es.map (can f))
 rw [List.map_map] at h1
 have h2:(es.map ((fun x=>x.length + 1) ∘ can f)).sum ≤ es.length * (m + 1):=sum_bd fun e he=>by have:=h e he; simp only [Function.comp]; omega
 simp only [List.length_cons,List.length_append,List.length_nil]
 omega
theorem obj_lenB {f m:Nat} {es:List (Lit × V)} (h:∀ k ∈ keys es,(item f es k).length ≤ m):(can (f + 1) (vObj es)).length ≤ 2 + (keys es).length * (m + 1):=by
 rw [can_obj]
 have h1:=joinC_sum ((skeys es).map (item f es))
 have hp:(skeys es).Perm (keys es):=List.mergeSort_perm _ _
 rw [List.map_map] at h1
 have h2:((skeys es).map ((fun x=>x.length + 1) ∘ item f es)).sum ≤ (skeys es).length * (m + 1):=sum_bd fun k hk=>by have:=h k (hp.mem_iff.1 hk); simp only [Function.comp]; omega
 rw [hp.length_eq] at h2
 simp only [List.length_cons,List.length_append,List.length_nil]
 have h3:(joinC ((skeys es).map (item f es))).length ≤ (keys es).length * (m + 1):=by omega
 exact Nat.le_trans (Nat.add_le_add_right (Nat.add_le_add_right h3 _) _) (by omega)
theorem fit_can {d x:Int} {B:Nat} {v:V} (h:Fit d x B v):(can (top - 2) v).length ≤ B:=by
 have hd:=h.dd
 have g1:=gd_fuel (f:=1000) h.gd (by omega)
 have e1:=can_up 1000 (top - 2) 1 v g1 (by unfold top; omega)
 have e2:=can_up 1000 top 1 v g1 (by unfold top; omega)
 have h1:=(can_sz h.gd).1
 have h2:=h.sz
 rw [e1,← e2]; omega
theorem elem_len {d x:Int} {o:Opn} (h:OnOk d x 200000 o):(can (top - 1) (elemV o)).length ≤ 7300000:=by
 obtain ⟨h1,h2⟩:=h
 have h3:=ptxt_len o.2.1
 have hq:=escS_le (ptxt o.2.1)
 have e1:(can (top - 2) (vStr (ptxt o.2.1))).length = (quoT (ptxt o.2.1)).length:=rfl
 have hn:(opName o.1).length ≤ 7:=by
  unfold opName
  repeat' split
  all_goals decide
 have hn2:=escS_le (opName o.1)
 have e2:(can (top - 2) (vStr (opName o.1))).length = (quoT (opName o.1)).length:=rfl
 have q1:(quoT op_).length = 4:=rfl
 have q2:(quoT path_).length = 6:=rfl
 have q3:(quoT value_).length = 7:=rfl
 unfold elemV
 split
 ·refine Nat.le_trans (obj_lenB (f:=top - 2) (m:=2400100) fun k hk=>?_) (by simp [keys])
  have hk2:k = op_ ∨ k = path_:=by simpa [keys] using hk
  rw [item_len]
  rcases hk2 with rfl | rfl
  ·have e3:look [(.string op_,vStr (opName o.1)),(.string path_,vStr (ptxt o.2.1))] op_ = vStr (opName o.1):=rfl
   rw [e3,q1]; omega
  ·have e3:look [(.string op_,vStr (opName o.1)),(.string path_,vStr (ptxt o.2.1))] path_ = vStr (ptxt o.2.1):=rfl
   rw [e3,q2]; omega
 ·rename_i hne
  have h4:=fit_can (h2 hne)
  refine Nat.le_trans (obj_lenB (f:=top - 2) (m:=2400100) fun k hk=>?_) (by simp [keys])
  have hk2:k = op_ ∨ k = path_ ∨ k = value_:=by simpa [keys] using hk
  rw [item_len]
  rcases hk2 with rfl | rfl | rfl
  ·have e3:look [(.string op_,vStr (opName o.1)),(.string path_,vStr (ptxt o.2.1)),(.string value_,o.2.2)] op_ = vStr (opName o.1):=rfl
   rw [e3,q1]; omega
  ·have e3:look [(.string op_,vStr (opName o.1)),(.string path_,vStr (ptxt o.2.1)),(.string value_,o.2.2)] path_ = vStr (ptxt o.2.1):=rfl
   rw [e3,q2]; omega
  ·have e3:look [(.string op_,vStr (opName o.1)),(.string path_,vStr (ptxt o.2.1)),(.string value_,o.2.2)] value_ = o.2.2:=rfl
   rw [e3,q3]; omega
theorem ptext_len {d x:Int} {j:List Opn} (h:∀ o ∈ j,OnOk d x 200000 o) (hn:j.length ≤ 1000000):(ptext j).length ≤ 8796093022208:=by
 have h1:=arr_lenB (f:=top - 1) (m:=7300000) (es:=j.map elemV) fun e he=>by
  obtain ⟨o,ho,rfl⟩:=List.mem_map.1 he
  exact elem_len (h o ho)
 have h2:(ptext j).length ≤ 2 + (j.map elemV).length * (7300000 + 1):=h1
 rw [List.length_map] at h2
 have h3:j.length * (7300000 + 1) ≤ 1000000 * 7300001:=Nat.mul_le_mul_right _ hn
 omega
end Sp
end Go.Proofs.YtdpomdelmdofmaaGreatDoor

namespace Go.Proofs.YtdpomdelmdofmaaGreatDoor
open Go.RowKit Go.Maps
def PatchR (F:Nat → Prop) (w W0:World) (D:Nat) (d e:Int) (v:Sp.V × Sp.Inv) (l:List Sp.Op2) (x:Ending) (w3:World):Prop:=∃ (c i:Nat) (v':Sp.V × Sp.Inv),x = .returned (.tuple #[.int .i64 i,.int .i64 c]) ∧ w3.heap[w.heap.size]? = W0.heap[w.heap.size]? ∧ KeptF F w w3 ∧
 DocF w3 (FN F (w.heap.size + 1)) (.pointer (some ⟨D,0,none⟩)) d e (some v') ∧ (match Sp.dops d 0 v.1 [] l with
  | .error (c',i')=>c = c' ∧ i = i' ∧ v' = v
  | .ok (y,j)=>c = 0 ∧ i = 0 ∧ v' = (y,some j.reverse))
theorem patch_call {w W0 w9:World} {F:Nat → Prop} {D R:Nat} {wp:Value} {d e:Int} {v:Sp.V × Sp.Inv} {l:List Sp.Op2} {ao:Option Addr} {g cap:Nat} (hd:DocW w F D R wp d e v) (hF:∀ k,F k → NG ≤ k ∧ k < w.heap.size) (hW:Below w.heap.size w W0) (hWs:W0.heap.size = w.heap.size + 1) (hb:Below W0.heap.size W0 w9) (hT:Laid w9)
  (hops:OpsMem w9 (fun k=>W0.heap.size ≤ k) g l) (hg:0 < l.length → ao = some ⟨g,0,none⟩ ∧ W0.heap.size ≤ g) (hok:∀ o ∈ l,Sp.OpOk (d + 2) e 200000 o) (hn:l.length ≤ 80000) (hd2:d ≤ 20) :
  Calls Tryz.prog 84 #[.pointer (some ⟨D,0,none⟩),.slice ao l.length cap,.int .i64 d] w9 (PatchR F w W0 D d e v l):=by
 obtain ⟨T,a,iv,h1,h2,h3⟩:=hd.ex
 have fD:=hd.fD
 have hlen:=hd.len
 have hgd:=hd.gd
 have h1':DocT W0 D R wp (.slice none 0 0) iv v.2.isSome T a v.1:=h1.move (hW.block D h1.db.lt) fun k hk=>hW.block k (h1.tr.lt k hk)
 have h3':InvR W0 (fun k=>F k ∧ k ≠ D ∧ k ∉ Sp.fp (top + 1) T) iv v.2:=h3.move fun k hk hkl=>⟨hW.block k hkl,hk⟩
 obtain ⟨wp0,rfl,hJ⟩:=patch_start h1' hb
 have hTl:=h1.tr.lt
 have hDl:=h1.db.lt
 have hbs:=hb.size
 have hng:=hT.ng
 have hfit:Sp.Fit d e 200000 v.1:=⟨hgd,by omega,by have:=(Sp.can_sz hgd).2; omega⟩
 refine (dPatch_any (d:=d) (x:=e) (g:=g) hJ hT (fun k hk=>⟨?_,fun hm=>?_,fun e=>?_⟩) (fun k hk=>⟨hk.2.2,by omega⟩) (by omega) hfit hlen (fun hp=>?_) (fun i hi=>?_) hok (by omega)).mono ?_
 ·omega
 ·have:=(hF k (h2 k hm)).1; omega
 ·have:=(hF k (e ▸ fD)).1; omega
 ·obtain ⟨e1,e2⟩:=hg hp
  obtain ⟨pa,pl,pc,fa,fl,fc,y,_,q1,_⟩:=hops 0 hp
  exact ⟨e1,World.block_lt_of_cell? w9 _ q1,fun hm=>by have:=hTl g hm; omega,fun e=>by omega⟩
 ·obtain ⟨pa,pl,pc,fa,fl,fc,y,q0,q1⟩:=hops i hi
  exact ⟨pa,pl,pc,fa,fl,fc,y,q0.move fun k hk hkl=>⟨rfl,⟨hkl,fun hm=>by have:=hTl k hm; omega,fun e=>by omega⟩,Or.inl hk⟩,q1⟩
 ·intro x w3 hp
  have hkeep:∀ k,k < w.heap.size → ¬ F k → k < W0.heap.size ∧ k ∉ Sp.fp (top + 1) T ∧ k ≠ D:=fun k hk hx=>⟨by omega,fun hm=>hx (h2 k hm),fun e=>hx (e ▸ fD)⟩
  have hq:w.heap.size < W0.heap.size ∧ w.heap.size ∉ Sp.fp (top + 1) T ∧ w.heap.size ≠ D:=⟨by omega,fun hm=>by have:=hTl _ hm; omega,by omega⟩
  unfold PatchR
  cases hr:Sp.dops d 0 v.1 [] l with
  | error ci =>
   obtain ⟨c,i⟩:=ci
   rw [hr] at hp
   obtain ⟨rfl,p1,p2,p3,p4,p5,p6⟩:=hp
   refine ⟨c,i,v,rfl,p2.held _ hq,⟨p3.trans (hb.os.trans hW.os),p4.trans (hb.tape.trans hW.tape),p5.trans (hb.output.trans hW.output),by have:=hW.size; omega,fun k hk hx=>(p2.held k (hkeep k hk hx)).trans (hW.block k hk)⟩,?_,rfl,rfl,rfl⟩
   exact patch_back h1' rfl h2 h3' fD hlen hgd (fun k hk _=>by have:=(hF k hk).2; omega) (by omega) p2 p1
  | ok vj =>
   obtain ⟨y,j⟩:=vj
   rw [hr] at hp
   obtain ⟨rfl,wp',jn,T2,a2,M',wk,iv',s1,s2,s3,s4,s5,s6,s7,s8,s9⟩:=hp
   have hM:∀ k,k < W0.heap.size ∧ k ∉ Sp.fp (top + 1) T ∧ k ≠ D → w3.heap[k]? = W0.heap[k]?:=fun k hk=>by
    have h4:=s2.kept k ⟨by omega,hk.2⟩
    exact (s5.block k (by have:=s2.size; omega) hk.2.2).trans (h4.2.trans (hb.block k hk.1))
   refine ⟨0,0,_,rfl,hM _ hq,⟨s5.os.trans (s2.os.trans (hb.os.trans hW.os)),s5.tape.trans (s2.tape.trans (hb.tape.trans hW.tape)),s5.output.trans (s2.output.trans (hb.output.trans hW.output)),by have:=hW.size; have:=s2.size; have:=s5.size; omega,fun k hk hx=>(hM k (hkeep k hk hx)).trans (hW.block k hk)⟩,?_,rfl,rfl,rfl⟩
   refine patch_done (F:=F) (B:=w.heap.size + 1) (fun k hk=>⟨h2 k hk,by have:=hTl k hk; omega⟩) ⟨fD,by omega⟩ (by omega) s1 s3 s4 s5 s7 s6.gd (Sp.ptext_len (d:=d) (x:=e) (fun o ho=>s8 o (List.mem_reverse.1 ho)) ?_) fun o ho=>⟨by have:=(s8 o (List.mem_reverse.1 ho)).1; omega,fun h=>⟨_,_,((s8 o (List.mem_reverse.1 ho)).2 h).gd,((s8 o (List.mem_reverse.1 ho)).2 h).dd⟩⟩
   rw [List.length_reverse]; omega
end Go.Proofs.YtdpomdelmdofmaaGreatDoor
