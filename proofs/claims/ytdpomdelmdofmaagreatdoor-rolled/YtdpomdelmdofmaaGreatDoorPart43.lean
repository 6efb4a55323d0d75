/-
  Keep: the walk.
-/
import Derived.Test.YtdpomdelmdofmaaGreatDoorPart42
import Derived.Test.YtdpomdelmdofmaaGreatDoorPart35
import Derived.Test.YtdpomdelmdofmaaGreatDoorPart38
namespace Go.Proofs.YtdpomdelmdofmaaGreatDoor
open Go.RowKit Go.Maps
attribute [local go_sem] Oper.semAt_some run_store_func
section
variable {w wB:World} {D g N B:Nat} {rv jn iv:Value} {ch:Bool} {c:Nat → Value}
theorem DB.set3 {W:World} (h:DB W D rv jn ch iv) (v:Value):DB (W.setCell ⟨D,3,none⟩ v) D rv jn ch v:=by
 simp only [DB,World.setCell,Array.getElem?_modify]
 rw [if_pos trivial,show W.heap[D]? = _ from h]; rfl
theorem KeepI.turn {k q cap:Nat} {W W2 W3:World} (hB:B = w.heap.size + 2) (hD:D < w.heap.size) (hg:0 < N → g < w.heap.size ∧ g ≠ D) (hl:B + 1 < W.heap.size) (h:KeepI w wB D g N B rv jn ch c k W) (hiv:DB W D rv jn ch iv) (h2:Below W.heap.size W W2)
  (ho:W3.ownsRow 0 178 4 (.slice (some ⟨q,0,none⟩) (k + 1) cap) (k + 1) (ysOf c N k ++ [c ((N - 1 - k) * 5 + 1),c ((N - 1 - k) * 5 + 2),c ((N - 1 - k) * 5 + 3),c ((N - 1 - k) * 5 + 4)])) (hgr:W2.grownBy W3 iv.ownBlock) (hat:iv.ownBlock = some q ∨ W.heap.size ≤ q) :
  Two B W (W3.setCell ⟨D,3,none⟩ (.slice (some ⟨q,0,none⟩) (k + 1) cap)) ∧ KeepI w wB D g N B rv jn ch c (k + 1) (W3.setCell ⟨D,3,none⟩ (.slice (some ⟨q,0,none⟩) (k + 1) cap)):=by
 have hs:=h.size
 have hs2:=h2.size
 have hs3:=hgr.size
 obtain ⟨iv0,d1,d2,d3⟩:=h.doc
 obtain rfl:=hiv.iv d1
 have keep:∀ j,j < W.heap.size → iv.ownBlock ≠ some j → W3.heap[j]? = W.heap[j]?:=fun j hj hne=>(hgr.block j (by omega) (fun e=>hne e.symm)).trans (h2.block j hj)
 have far:∀ j,(j < w.heap.size + 2 ∨ j = B ∨ j = B + 1) → iv.ownBlock ≠ some j:=fun j hj e=>by
  obtain ⟨p1,p2,p3⟩:=d3 j e
  omega
 have hset:∀ j,j ≠ D → (W3.setCell ⟨D,3,none⟩ (.slice (some ⟨q,0,none⟩) (k + 1) cap)).heap[j]? = W3.heap[j]?:=fun j hj=>Below.heap_setCell _ _ _ _ hj
 have hq:w.heap.size + 2 ≤ q ∧ q ≠ B ∧ q ≠ B + 1:=by
  rcases hat with e | e
  ·exact d3 q e
  ·omega
 have hall:∀ j,j < W.heap.size → (j < w.heap.size + 2 ∨ j = B ∨ j = B + 1) → j ≠ D → (W3.setCell ⟨D,3,none⟩ (.slice (some ⟨q,0,none⟩) (k + 1) cap)).heap[j]? = W.heap[j]?:=fun j hj hf hne=>(hset j hne).trans (keep j hj (far j hf))
 refine ⟨⟨hall B (by omega) (by omega) (by omega),hall (B + 1) (by omega) (by omega) (by omega)⟩,(hall _ (by omega) (by omega) (by omega)).trans h.bx,(hall _ (by omega) (by omega) (by omega)).trans h.box,fun hN=>?_,?_,?_,?_,?_,fun j hj hne=>(hall j (by omega) (by omega) hne).trans (h.old j hj hne),.slice (some ⟨q,0,none⟩) (k + 1) cap,?_,?_,?_⟩
 ·obtain ⟨g1,g2⟩:=hg hN
  exact (hall g (by omega) (by omega) g2).trans (h.row hN)
 ·exact hgr.os.trans (h2.os.trans h.os)
 ·exact hgr.tape.trans (h2.tape.trans h.tape)
 ·exact hgr.output.trans (h2.output.trans h.output)
 ·show B ≤ (W3.setCell _ _).heap.size
  simp [World.setCell]; omega
 ·exact (d1.kept (keep D (by omega) (far D (by omega)))).set3 _
 ·exact ownsN_kept ho fun j hj=>hset j (by simp [Value.ownBlock] at hj; omega)
 ·intro j hj
  simp [Value.ownBlock] at hj
  subst hj
  exact hq
end
end Go.Proofs.YtdpomdelmdofmaaGreatDoor

namespace Go.Proofs.YtdpomdelmdofmaaGreatDoor
open Go.RowKit Go.Maps
attribute [local go_sem] Oper.semAt_some run_store_func
set_option maxRecDepth 100000 in
set_option maxHeartbeats 8000000 in
theorem keep_any {L:Nat} {w:World} {D:Nat} {rv jn iv:Value} {ch:Bool} {Tb T:Sp.A} {Mb M:Nat → Prop} {wb:World} {js:List Sp.Opn} (h:JDoc L w D rv jn iv ch Tb Mb wb T M js) (hl:js.length ≤ 1000000000) :
  Calls Tryz.prog 119 #[.pointer (some ⟨D,0,none⟩)] w fun e w'=>e = .returned (.tuple #[]) ∧ ∃ iv',DB w' D rv (.slice none 0 0) true iv' ∧ OpsR w' (fun k=>GA L Tb wb M k ∨ w.heap.size ≤ k) iv' js.reverse ∧ KeptF (fun k=>k = D) w w':=by
 obtain ⟨xs,cs,hDB,hown,hjr,hund⟩:=h.ex
 obtain ⟨hxl,hlm,ao,cap,g,hjn,hg⟩:=owns_cell5 hown
 obtain ⟨hcl,hent⟩:=hjr.at
 obtain ⟨N,hN⟩:∃ N,N = js.length:=⟨_,rfl⟩
 rw [← hN] at hxl hg hcl hjn hl hlm
 subst hjn
 have hDl:=hDB.lt
 have hM:∀ j,M j → j < w.heap.size:=fun j hj=>(h.low j hj).1
 obtain ⟨c,hc⟩:∃ c:Nat → Value,c = fun j=>xs[j]?.getD .nilFunc:=⟨_,rfl⟩
 have hgl:0 < N → g < w.heap.size ∧ g ≠ D:=fun hp=>⟨(hg hp).2.2.1,fun e=>h.jD (by rw [← e]; exact (hg hp).2.1)⟩
 obtain ⟨w1,hw1⟩:∃ w1,w1 = (w.alloc (.cells #[.pointer (some ⟨D,0,none⟩)] 60)).setCell ⟨D,3,none⟩ (.slice none 0 0):=⟨_,rfl⟩
 obtain ⟨wB,hwB⟩:∃ wB,wB = w1.alloc (.cells #[.slice ao N cap] 112):=⟨_,rfl⟩
 have hs1:w1.heap.size = w.heap.size + 1:=by rw [hw1]; simp [World.setCell]
 have hbs:wB.heap.size = w.heap.size + 2:=by rw [hwB]; simp [hs1]
 have hp1:w1.heap[w.heap.size]? = some (.cells #[.pointer (some ⟨D,0,none⟩)] 60 (0,0)):=by
  rw [hw1]
  exact (Below.heap_setCell _ _ _ _ (by show w.heap.size ≠ D; omega)).trans (heap_alloc_new w _)
 have hpB:wB.heap[w.heap.size]? = some (.cells #[.pointer (some ⟨D,0,none⟩)] 60 (0,0)):=by rw [hwB]; exact (Below.heap_alloc w1 _ _ (by omega)).trans hp1
 have hbx:wB.heap[w.heap.size + 1]? = some (.cells #[.slice ao N cap] 112 (0,0)):=by rw [hwB,← hs1]; exact heap_alloc_new w1 _
 have hold:∀ j,j < w.heap.size → j ≠ D → wB.heap[j]? = w.heap[j]?:=fun j hj hne=>by
  rw [hwB,Below.heap_alloc w1 _ j (by omega),hw1]
  exact (Below.heap_setCell _ _ _ _ hne).trans (Below.heap_alloc w _ j hj)
 have hd1:DB w1 D rv (.slice ao N cap) ch (.slice none 0 0):=by
  rw [hw1]
  exact (hDB.kept (w':=w.alloc (.cells #[.pointer (some ⟨D,0,none⟩)] 60)) (Below.heap_alloc w _ D hDl)).set3 _
 have hdB:DB wB D rv (.slice ao N cap) ch (.slice none 0 0):=hd1.kept (by rw [hwB]; exact Below.heap_alloc w1 _ D (by omega))
 obtain ⟨B,hB⟩:∃ B,B = w.heap.size + 2:=⟨_,rfl⟩
 have h0:KeepI w wB D g N B rv (.slice ao N cap) ch c 0 wB:=by
  refine ⟨rfl,rfl,fun hp=>hold g (hgl hp).1 (hgl hp).2,by rw [hwB,hw1]; rfl,by rw [hwB,hw1]; rfl,by rw [hwB,hw1]; rfl,by omega,hold,_,hdB,⟨rfl,Or.inl ⟨rfl,rfl⟩⟩,fun q hq=>by cases hq⟩
 have HCLO:=hide (fun (k:Nat) (hk:k < N)=>(show ∃ (fn:Nat) (caps:Array Value) (kk:Int) (pa:Option Addr) (pl pc:Nat) (x:Option Addr),c ((N - 1 - k) * 5) = .func (.func fn) #[] caps ∧ c ((N - 1 - k) * 5 + 1) = .int .i64 kk ∧ c ((N - 1 - k) * 5 + 2) = .slice pa pl pc ∧ c ((N - 1 - k) * 5 + 3) = .slice none 0 0 ∧ c ((N - 1 - k) * 5 + 4) = .pointer x from by
  have h1:N - 1 - k < cs.length:=by omega
  obtain ⟨kv,pv,fv,vv,q0,q1,q2,q3,q4,o1,_,o2,o3,o4⟩:=hent (N - 1 - k) (by omega) h1
  obtain ⟨pa,pl,pc,rfl⟩:∃ pa pl pc,pv = .slice pa pl pc:=by
   rcases o2 with ⟨_,a,c,e,_⟩ | ⟨g,o,cap,e,_⟩
   ·exact ⟨_,_,_,e⟩
   ·exact ⟨_,_,_,e⟩
  obtain ⟨x,rfl⟩:∃ x,vv = .pointer x:=by
   rcases o4 with ⟨_,e⟩ | ⟨_,hr⟩
   ·exact ⟨_,e⟩
   ·obtain ⟨b,e,_⟩:=hr
    exact ⟨_,e⟩
  subst o1; subst o3
  refine ⟨cs[N - 1 - k].1,cs[N - 1 - k].2,(((js[N - 1 - k]'(by omega)).1:Nat):Int),pa,pl,pc,x,?_,?_,?_,?_,?_⟩
  ·rw [hc]; simp only [q0]; rfl
  ·rw [hc]; simp only [q1]; rfl
  ·rw [hc]; simp only [q2]; rfl
  ·rw [hc]; simp only [q3]; rfl
  ·rw [hc]; simp only [q4]; rfl))
 have HOPS:Hid (∀ k,k ≤ N → Opns w (GA L Tb wb M) (ysOf c N k) (js.reverse.take k)):=by
  intro k
  induction k with
  | zero=>intro _; exact trivial
  | succ k ih =>
   intro hk
   have h1:N - 1 - k < cs.length:=by omega
   obtain ⟨kv,pv,fv,vv,q0,q1,q2,q3,q4,o1⟩:=hent (N - 1 - k) (by omega) h1
   have e1:js.reverse.take (k + 1) = js.reverse.take k ++ [js[N - 1 - k]'(by omega)]:=by
    rw [List.take_succ_eq_append_getElem (by simp; omega),List.getElem_reverse]
    congr 3
    omega
   rw [e1,ysOf,hc]
   simp only [q1,q2,q3,q4,Option.getD_some]
   exact Opns.snoc o1 (hc ▸ ih (by omega))
 have HCELL:=hide (fun (hp:0 < N)=>(show ∀ j,j < N * 5 → w.cell? ⟨g,j,none⟩ = some (c j) from fun j hj=>by
  rw [(hg hp).2.2.2 j (by omega),hc]
  simp [List.getElem?_eq_getElem (show j < xs.length by omega)]))
 have HTURN:=hide (fun (k q cap2:Nat) (W W2 W3:World) (iv:Value) (hl:B + 1 < W.heap.size) (hI:KeepI w wB D g N B rv (.slice ao N cap) ch c k W)=>KeepI.turn (iv:=iv) (q:=q) (cap:=cap2) (W2:=W2) (W3:=W3) hB hDl hgl hl hI)
 have HI:=hide (fun k=>KeepI.apart (w:=w) (wB:=wB) (D:=D) (g:=g) (N:=N) (B:=B) (rv:=rv) (jn:=.slice ao N cap) (ch:=ch) (c:=c) hB hDl (fun hp=>(hgl hp).1) k)
 have HA:=hide (fun (E:Array Value) (k X:Nat)=>KeepA.apart (w:=w) (wB:=wB) (D:=D) (g:=g) (N:=N) (B:=B) (rv:=rv) (jn:=.slice ao N cap) (ch:=ch) (c:=c) (E:=E) hB hDl (fun hp=>(hgl hp).1) k X)
 have HAO:=hide (fun (hp:0 < N)=>(hg hp).1)
 have H0:=hide h0
 have HD0:=hide hDB
 have hDa:=hDB.kept (w':=w.alloc (.cells #[.pointer (some ⟨D,0,none⟩)] 60)) (Below.heap_alloc w _ D hDl)
 have z1:(w.alloc (.cells #[.pointer (some ⟨D,0,none⟩)] 60)).cell? ⟨D,1,none⟩ = some (.slice ao N cap):=hDa.c1
 have z3:(w.alloc (.cells #[.pointer (some ⟨D,0,none⟩)] 60)).cell? ⟨D,3,none⟩ = some iv:=hDa.c3
 have y3:(w.alloc (.cells #[.pointer (some ⟨D,0,none⟩)] 60)).frozen? ⟨D,3,none⟩ = false:=by simp [World.frozen?,show _ = _ from hDa]
 have HP1:=hide hp1
 have HD1:=hide hd1
 have HPB:=hide hpB
 have HBX:=hide hbx
 have HBS:=hide hbs
 have HBe:=hide hB
 have HWB:=hide hwB
 have HW1:=hide hw1
 have HDL:=hide hDl
 have HNJ:=hide hN
 have HMM:=hide hM
 have HMD:=hide h.dD.2
 clear h hown hjr hund hxl hg hcl hent h0 hp1 hpB hbx hold hd1 hdB hDB hgl hDa hs1 hbs hB hwB hw1 hDl hN hc hM
 refine (callsIn_wide (n:=0)).1 (callsIn_of_wp_marks Tryz.func119 rfl trivial ?_ rfl)
 simp only [Tryz.ntmps119,List.size_toArray,List.length_cons,List.length_nil,Nat.reduceAdd,Nat.reduceSub,Array.replicate_succ,Array.replicate_zero,List.push_toArray,List.append_toArray,List.nil_append,List.cons_append]
 gi_wp2_with (refine ⟨trivial,rfl,?_⟩; gi_at_call 158; refine (callsIn_wide.2 backC_any).mono ?_; rintro e w' ⟨rfl,rfl⟩)
 rw [← unhide HW1,← unhide HWB]
 refine range_turns (gf:=204) (lb:=#[.pointer (some ⟨w.heap.size + 1,0,none⟩)]) rfl (ent_of Tryz.func204 (by kernel_rfl) rfl) N (fun k=>#[.int .i64 ((N - 1 - k:Nat):Int),entV c (N - 1 - k)]) (fun _=>rfl) (KeepI w wB D g N B rv (.slice ao N cap) ch c)
  (fun k a' W=>∃ X,KeepA w wB D g N B rv (.slice ao N cap) ch c #[c ((N - 1 - k) * 5),c ((N - 1 - k) * 5 + 1),c ((N - 1 - k) * 5 + 2),c ((N - 1 - k) * 5 + 3),c ((N - 1 - k) * 5 + 4)] k X W ∧ a' = { tmps:=#[.pointer (some ⟨D,0,none⟩),.pointer (some ⟨w.heap.size,0,none⟩),undef,.pointer (some ⟨X,0,none⟩),.pointer (some ⟨D,0,none⟩),.pointer (some ⟨D,0,none⟩),.pointer (some ⟨D,3,none⟩),.pointer (some ⟨D,0,none⟩),.pointer (some ⟨D,0,none⟩),.pointer (some ⟨D,1,none⟩),.slice ao N cap,.func (.func 204) #[] #[.pointer (some ⟨w.heap.size + 1,0,none⟩)],.int .i64 ((N - 1 - k:Nat):Int),entV c (N - 1 - k),undef,undef,undef,undef,undef,undef,undef,undef,undef,undef,undef,undef,undef,undef,undef,undef,undef],defers:=[] })
  ?hI ?hA (unhide H0) ?hiter ?hassign ?hbody ?hdone
 case hI =>
  rw [unhide HBS,← unhide HBe]
  exact unhide HI
 case hA =>
  rw [unhide HBS,← unhide HBe]
  rintro k a' W W' ⟨X,hX,e⟩ e1 e2 e3 e4 e5
  exact ⟨X,unhide HA _ k X W W' hX e1 e2 e3 e4 e5,e⟩
 case hiter =>
  intro l J W hJI hY hJ0
  refine back1_in (cap:=cap) hlm (unhide HAO) (fun k W hj=>?_) hY hJ0
  have hi:=hJI k W hj
  refine ⟨?_,fun j hj2=>?_⟩
  ·have:=hi.box.trans (unhide HBX)
   simp [World.cell?,this]
  ·have hp:0 < N:=by omega
   rw [World.cell?_of_block (w:=w) (hi.row hp)]
   exact unhide HCELL hp j hj2
 case hassign =>
  intro l k W hk hi hsz
  rw [unhide HBS,← unhide HBe] at hsz ⊢
  have HII:=hide hi
  obtain ⟨fn,caps,kk,pa,pl,pc,x,e0,e1,e2,e3,e4⟩:=unhide HCLO k hk
  clear hi
  unfold entV
  rw [e0,e1,e2,e3,e4]
  clear e0 e1 e2 e3 e4
  gi_wp2
  have hb:=(Below.refl W.heap.size W).alloc (Nat.le_refl _) (.cells #[.func (.func fn) #[] caps,.int .i64 kk,.slice pa pl pc,.slice none 0 0,.pointer x] 230)
  have hBe:=unhide HBe
  have hiI:=unhide HII
  obtain ⟨iv0,d1,d2,d3⟩:=hiI.doc
  have hdl:=d1.lt
  exact ⟨⟨hb.block B (by omega),hb.block (B + 1) (by omega)⟩,⟨unhide HI k W _ hiI hb.os hb.tape hb.output hb.size fun j hj _ _=>hb.block j hj,⟨by omega,by omega,by omega⟩,heap_alloc_new W _,fun q iv1 h1 h2=>by
   have h3:DB W D rv (.slice ao N cap) ch iv1:=h1.kept (hb.block D hdl).symm
   obtain rfl:=h3.iv d1
   have:=(ownsN_lt d2 q h2).1
   omega⟩⟩
 case hbody =>
  rintro l k a' W hk ⟨X,hX,rfl⟩ hsz
  rw [unhide HBS,← unhide HBe] at hsz ⊢
  obtain ⟨fn,caps,kk,pa,pl,pc,px,e0,e1,e2,e3,e4⟩:=unhide HCLO k hk
  have hblk:=hX.blk
  rw [e0,e1,e2,e3,e4] at hblk
  obtain ⟨iv2,hiv,hrow,hfar⟩:=hX.inv.doc
  have hdl:=hiv.lt
  obtain ⟨i0,z0,hi0,hz0,hz1,hz2,hz3⟩:=op_parts
  have hsp:ysOf c N k ++ [c ((N - 1 - k) * 5 + 1),c ((N - 1 - k) * 5 + 2),c ((N - 1 - k) * 5 + 3),c ((N - 1 - k) * 5 + 4)] = ysOf c N k ++ [.int .i64 kk,.slice pa pl pc,.slice none 0 0,.pointer px]:=by rw [e1,e2,e3,e4]
  have hT:=fun q cap2 W2 W3=>unhide HTURN k q cap2 W W2 W3 iv2 hsz hX.inv hiv
  simp only [hsp] at hT
  have HT:=hide hT
  obtain ⟨W2,hW2⟩:∃ W2,W2 = W.drew.alloc (.cells #[.int .i64 kk,.slice pa pl pc,.slice none 0 0,.pointer px] 178):=⟨_,rfl⟩
  have hb2:Below W.heap.size W W2:=by
   rw [hW2]
   have h1:=(Below.refl W.heap.size W).alloc (Nat.le_refl _) (.cells #[.int .i64 kk,.slice pa pl pc,.slice none 0 0,.pointer px] 178)
   exact ⟨h1.os,h1.tape,h1.output,h1.size,h1.block⟩
  have hw2s:W2.heap.size = W.heap.size + 1:=by rw [hW2]; simp
  have hn2:W2.heap[W.heap.size]? = some (.cells #[.int .i64 kk,.slice pa pl pc,.slice none 0 0,.pointer px] 178 (0,0)):=by rw [hW2]; exact heap_alloc_new W.drew _
  have hPX:W.heap[w.heap.size]? = some (.cells #[.pointer (some ⟨D,0,none⟩)] 60 (0,0)):=hX.inv.bx.trans (unhide HPB)
  have hlP:w.heap.size < W.heap.size:=(Array.getElem?_eq_some_iff.1 hPX).1
  have hlX:X < W.heap.size:=(Array.getElem?_eq_some_iff.1 hblk).1
  have hwz:∀ j,j < W.heap.size → ∀ z,(wz z W.drew W2).heap[j]? = W.heap[j]?:=fun j hj z=>by
   unfold wz
   split
   ·exact hb2.block j hj
   ·rfl
  have hown2:=ownsN_kept (w':=W2) hrow fun q hq=>hb2.block q (ownsN_lt hrow q hq).1
  have fP:∀ z,(wz z W.drew W2).cell? ⟨w.heap.size,0,none⟩ = some (.pointer (some ⟨D,0,none⟩)):=fun z=>by
   rw [World.cell?_of_block (w:=W) (hwz _ hlP z)]; simp [World.cell?,hPX]
  have fD:∀ z,(wz z W.drew W2).cell? ⟨D,3,none⟩ = some iv2:=fun z=>by
   rw [World.cell?_of_block (w:=W) (hwz _ hdl z)]; exact hiv.c3
  have fX:∀ z,(wz z W.drew W2).cell? ⟨X,1,none⟩ = some (.int .i64 kk) ∧ (wz z W.drew W2).cell? ⟨X,2,none⟩ = some (.slice pa pl pc) ∧ (wz z W.drew W2).cell? ⟨X,3,none⟩ = some (.slice none 0 0) ∧ (wz z W.drew W2).cell? ⟨X,4,none⟩ = some (.pointer px):=fun z=>by
   refine ⟨?_,?_,?_,?_⟩
   all_goals (rw [World.cell?_of_block (w:=W) (hwz _ hlX z)]; simp [World.cell?,hblk])
  obtain ⟨E0,hE0⟩:∃ E0,E0 = entV c (N - 1 - k):=⟨_,rfl⟩
  rw [← hE0]
  have HW2:=hide hW2
  have HN2:=hide hn2
  have HWS:=hide hw2s
  have HB2:=hide hb2
  have HOWN2:=hide hown2
  have HFP:=hide fP
  have HFD:=hide fD
  have HFX:=hide fX
  have HZ:=hide (show ∀ W3:World,W2.grownBy W3 iv2.ownBlock → W3.cell? ⟨D,3,none⟩ = some iv2 ∧ W3.frozen? ⟨D,3,none⟩ = false ∧ W3.cell? ⟨w.heap.size,0,none⟩ = some (.pointer (some ⟨D,0,none⟩)) from fun W3 hgr=>by
   have h3:DB W3 D rv (.slice ao N cap) ch iv2:=hiv.kept ((hgr.block D (by omega) (fun e=>by have:=hfar D e.symm; have:=unhide HDL; omega)).trans (hb2.block D hdl))
   have h4:W3.heap[w.heap.size]? = some (.cells #[.pointer (some ⟨D,0,none⟩)] 60 (0,0)):=((hgr.block _ (by omega) (fun e=>by have:=hfar _ e.symm; omega)).trans (hb2.block _ hlP)).trans hPX
   exact ⟨h3.c3,by simp [World.frozen?,show W3.heap[D]? = _ from h3],by simp [World.cell?,h4]⟩)
  obtain ⟨fi,hfi⟩:∃ a b n,iv2 = .slice a b n:=by
   rcases hrow.2 with ⟨e,_⟩ | ⟨_,_,_,e,_⟩
   ·exact ⟨_,_,_,e⟩
   ·exact ⟨_,_,_,e⟩
  clear hblk hX e0 e1 e2 e3 e4 hiv hrow hfar hT hsp hW2 hb2 hw2s hn2 hPX hwz hown2 fP fD fX hE0
  gi_wp2
  refine wpIn_region_any (by kernel_rfl) ?_
  refine diamond (A:=fun x y z=>{ tmps:=#[.pointer (some ⟨D,0,none⟩),.pointer (some ⟨w.heap.size,0,none⟩),undef,.pointer (some ⟨X,0,none⟩),.pointer (some ⟨D,0,none⟩),.pointer (some ⟨D,0,none⟩),.pointer (some ⟨D,3,none⟩),.pointer (some ⟨D,0,none⟩),.pointer (some ⟨D,0,none⟩),.pointer (some ⟨D,1,none⟩),.slice ao N cap,.func (.func 204) #[] #[.pointer (some ⟨w.heap.size + 1,0,none⟩)],.int .i64 ((N - 1 - k:Nat):Int),E0,pk x 1 (.pointer (some ⟨D,0,none⟩)),pk y 1 (.pointer (some ⟨D,0,none⟩)),pk y 2 (.pointer (some ⟨D,0,none⟩)),pk y 3 (.pointer (some ⟨D,3,none⟩)),pk y 4 iv2,pk z 1 (.pointer (some ⟨X,1,none⟩)),pk z 2 (.agg #[.int .i64 kk,.slice pa pl pc,.slice none 0 0,.pointer px]),pk z 3 (.slice (some ⟨W.heap.size,0,none⟩) 1 1),undef,undef,undef,undef,undef,undef,undef,undef,undef],defers:=[] }) (W:=fun z=>wz z W.drew W2) (by kernel_rfl) ?h0 ?h1 ?h5 ?hl ?hl0
  case h0 =>
   intro y z K hy hz hk
   refine wpOpIn_step rfl (fun K' hK=>?_)
   have f:=unhide HFP z
   go_simp
   exact hK _ _ hk
  case h1 =>
   intro x y z K hx hy hz hk
   have f:=unhide HFP z
   have f3:=unhide HFD z
   have p11:∀ v,pk 1 1 v = v:=fun _=>rfl
   have p22:∀ v,pk 2 2 v = v:=fun _=>rfl
   have p33:∀ v,pk 3 3 v = v:=fun _=>rfl
   match y,hy with
   | 0,_ =>
    refine wpOpIn_step rfl (fun K' hK=>?_)
    go_simp
    exact hK _ _ hk
   | 1,_ =>
    refine wpOpIn_step rfl (fun K' hK=>?_)
    go_simp
    exact hK _ _ hk
   | 2,_ =>
    refine wpOpIn_step rfl (fun K' hK=>?_)
    go_simp
    exact hK _ _ hk
   | 3,_ =>
    refine wpOpIn_step rfl (fun K' hK=>?_)
    go_simp
    exact hK _ _ hk
  case h5 =>
   intro x y z K hx hy hz hk
   obtain ⟨f1,f2,f3,f4⟩:=unhide HFX z
   have p11:∀ v,pk 1 1 v = v:=fun _=>rfl
   have p22:∀ v,pk 2 2 v = v:=fun _=>rfl
   match z,hz with
   | 0,_ =>
    refine wpOpIn_step rfl (fun K' hK=>?_)
    go_simp
    exact hK _ _ hk
   | 1,_ =>
    refine wpOpIn_step rfl (fun K' hK=>?_)
    go_simp
    exact hK _ _ hk
   | 2,_ =>
    have e2:wz 2 W.drew W2 = W.drew:=rfl
    have e3:wz 3 W.drew W2 = W2:=rfl
    simp only [e2] at f1 f2 f3 f4 ⊢
    simp only [Nat.reduceAdd,e3] at hk
    rw [unhide HW2] at hk
    refine wpOpIn_step rfl (fun K' hK=>?_)
    go_simp
    exact hK _ _ hk
  case hl =>
   refine wpAnyIn_ready (rs:=[8]) (by kernel_rfl) (by simp) (AllReadyIn.cons rfl (fun K hK=>?_) AllReadyIn.nil)
   rw [if_pos (by rfl)]
   refine wpIn_append_lies (.tmp 18) (.tmp 21) 113 rfl 0 178 i0 z0 4 64 Tryz.underlying113 hi0 hz0 hz2 hz3 hz1 (by decide) iv2 k (ysOf c N k) rfl (unhide HOWN2) ⟨W.heap.size,0,none⟩ 1 1 [.int .i64 kk,.slice pa pl pc,.slice none 0 0,.pointer px] rfl rfl (World.news_of_block (cs:=#[.int .i64 kk,.slice pa pl pc,.slice none 0 0,.pointer px]) (t:=178) (fr:=(0,0)) (unhide HN2)) (by simp [Value.oneCell']) (by decide) (by unfold maxLen; omega) (by omega) (Nat.zero_le _) (W.heap.size + 1) (unhide HWS) ?_
   intro q cap2 W3 ho hgr hat hlt
   refine hK _ _ ?_
   obtain ⟨y1,y2,y3⟩:=unhide HZ W3 hgr
   have HEND:=hide (unhide HT q cap2 W2 W3 (unhide HB2) ho hgr (hat.imp id (fun h=>by omega)))
   clear hK ho hgr hat hlt
   refine wpAnyIn_ready (rs:=[9]) (by kernel_rfl) (by simp) (AllReadyIn.cons rfl (fun K hK=>?_) AllReadyIn.nil)
   go_simp
   refine hK _ _ ?_
   clear hK
   refine wpAnyIn_ready (rs:=[10]) (by kernel_rfl) (by simp) (AllReadyIn.cons rfl (fun K hK=>?_) AllReadyIn.nil)
   go_simp
   refine hK _ _ ?_
   clear hK
   refine wpAnyIn_ready (rs:=[11]) (by kernel_rfl) (by simp) (AllReadyIn.cons rfl (fun K hK=>?_) AllReadyIn.nil)
   go_simp
   refine hK _ _ ?_
   clear hK
   refine wpAnyIn_done (by kernel_rfl) ?_ _
   exact ⟨rfl,unhide HEND⟩
  case hl0 =>
   intro hL
   refine wpAnyIn_ready (rs:=[0,8]) (by kernel_rfl) (by simp) (AllReadyIn.cons rfl (fun K hK=>?_) (AllReadyIn.cons rfl (fun K hK=>?_) AllReadyIn.nil))
   ·have f:=unhide HFP 3
    go_simp
    exact hK _ _ hL
   clear hL
   rw [if_pos (by rfl)]
   refine wpIn_append_lies (.tmp 18) (.tmp 21) 113 rfl 0 178 i0 z0 4 64 Tryz.underlying113 hi0 hz0 hz2 hz3 hz1 (by decide) iv2 k (ysOf c N k) rfl (unhide HOWN2) ⟨W.heap.size,0,none⟩ 1 1 [.int .i64 kk,.slice pa pl pc,.slice none 0 0,.pointer px] rfl rfl (World.news_of_block (cs:=#[.int .i64 kk,.slice pa pl pc,.slice none 0 0,.pointer px]) (t:=178) (fr:=(0,0)) (unhide HN2)) (by simp [Value.oneCell']) (by decide) (by unfold maxLen; omega) (by omega) (Nat.zero_le _) (W.heap.size + 1) (unhide HWS) ?_
   intro q cap2 W3 ho hgr hat hlt
   refine hK _ _ ?_
   obtain ⟨y1,y2,y3⟩:=unhide HZ W3 hgr
   have HEND:=hide (unhide HT q cap2 W2 W3 (unhide HB2) ho hgr (hat.imp id (fun h=>by omega)))
   clear hK ho hgr hat hlt
   refine wpAnyIn_ready (rs:=[0]) (by kernel_rfl) (by simp) (AllReadyIn.cons rfl (fun K hK=>?_) AllReadyIn.nil)
   go_simp
   refine hK _ _ ?_
   clear hK
   refine wpAnyIn_ready (rs:=[9]) (by kernel_rfl) (by simp) (AllReadyIn.cons rfl (fun K hK=>?_) AllReadyIn.nil)
   go_simp
   refine hK _ _ ?_
   clear hK
   refine wpAnyIn_ready (rs:=[10]) (by kernel_rfl) (by simp) (AllReadyIn.cons rfl (fun K hK=>?_) AllReadyIn.nil)
   go_simp
   refine hK _ _ ?_
   clear hK
   refine wpAnyIn_ready (rs:=[11]) (by kernel_rfl) (by simp) (AllReadyIn.cons rfl (fun K hK=>?_) AllReadyIn.nil)
   go_simp
   refine hK _ _ ?_
   clear hK
   refine wpAnyIn_done (by kernel_rfl) ?_ _
   exact ⟨rfl,unhide HEND⟩
 case hdone =>
  intro W hI hK
  rw [unhide HBS,← unhide HBe] at hK ⊢
  obtain ⟨iv2,hiv,hrow,hfar⟩:=hI.doc
  have hPX:W.heap[w.heap.size]? = some (.cells #[.pointer (some ⟨D,0,none⟩)] 60 (0,0)):=hI.bx.trans (unhide HPB)
  have f0:W.cell? ⟨w.heap.size,0,none⟩ = some (.pointer (some ⟨D,0,none⟩)):=by simp [World.cell?,hPX]
  have d1:=hiv.c1
  have d2:=hiv.c2
  have dz:∀ o,W.frozen? ⟨D,o,none⟩ = false:=fun o=>by simp [World.frozen?,show W.heap[D]? = _ from hiv]
  have hne:w.heap.size ≠ D:=by have:=unhide HDL; omega
  have HIV:=hide hiv
  have HROW:=hide hrow
  have HFAR:=hide hfar
  have HII:=hide hI
  clear hiv hrow hfar hI hPX
  gi_wp2
  have hBe:=unhide HBe
  have hDl:=unhide HDL
  have hNJ:=unhide HNJ
  have hK2:((W.setCell ⟨D,2,none⟩ (.bool true)).setCell ⟨D,1,none⟩ (.slice none 0 0)).heap[B]? = some (.deferred (some [])):=(Below.heap_setCell _ _ _ _ (by show B ≠ D; omega)).trans ((Below.heap_setCell _ _ _ _ (by show B ≠ D; omega)).trans hK)
  refine ⟨by simp,.inl ⟨_,_,rfl,run_takeDeferred hK2,?_⟩⟩
  refine ⟨_,results_none rfl _ _ _,rfl,iv2,?_,⟨ysOf c N N,?_,fun q hq=>Or.inr (by have:=(unhide HFAR q hq).1; omega),?_⟩,?_⟩
  ·have h2:DB (W.setCell ⟨D,2,none⟩ (.bool true)) D rv (.slice ao N cap) true iv2:=by
    have h:=unhide HIV
    simp only [DB,World.setCell,Array.getElem?_modify]
    rw [if_pos trivial,show W.heap[D]? = _ from h]; rfl
   exact (World.putObj_heap_other (by omega)).trans (h2.set1 _)
  ·rw [List.length_reverse,← hNJ]
   refine ownsN_kept (unhide HROW) fun q hq=>?_
   obtain ⟨p1,p2,p3⟩:=unhide HFAR q hq
   exact (World.putObj_heap_other (by omega)).trans ((Below.heap_setCell _ _ _ _ (by show q ≠ D; omega)).trans (Below.heap_setCell _ _ _ _ (by show q ≠ D; omega)))
  ·have h1:=unhide HOPS N (Nat.le_refl _)
   rw [List.take_of_length_le (by simp; omega)] at h1
   refine h1.move fun q hq hql=>⟨?_,Or.inl hq⟩
   have hqD:q ≠ D:=fun e=>unhide HMD (e ▸ hq.1)
   exact (World.putObj_heap_other (by omega)).trans ((Below.heap_setCell _ _ _ _ hqD).trans ((Below.heap_setCell _ _ _ _ hqD).trans ((unhide HII).old q hql hqD)))
  ·refine ⟨(unhide HII).os,(unhide HII).tape,(unhide HII).output,?_,fun q hql hqD=>(World.putObj_heap_other (by omega)).trans ((Below.heap_setCell _ _ _ _ hqD).trans ((Below.heap_setCell _ _ _ _ hqD).trans ((unhide HII).old q hql hqD)))⟩
   have:=(unhide HII).size
   simp [World.putObj,World.setCell]; omega
end Go.Proofs.YtdpomdelmdofmaaGreatDoor

namespace Go.Proofs.YtdpomdelmdofmaaGreatDoor
open Go.RowKit Go.Maps
def OpsMem (w:World) (G:Nat → Prop) (g:Nat) (ops:List Sp.Op2):Prop:=∀ i (h:i < ops.length),∃ pa pl pc fa fl fc y,Op2R w G ops[i] pa pl pc fa fl fc y ∧ w.cell? ⟨g,i * 4,none⟩ = some (.int .i64 ops[i].1) ∧ w.cell? ⟨g,i * 4 + 1,none⟩ = some (.slice pa pl pc) ∧ w.cell? ⟨g,i * 4 + 2,none⟩ = some (.slice fa fl fc) ∧ w.cell? ⟨g,i * 4 + 3,none⟩ = some (.pointer y)
theorem Op2R.move {w w':World} {G G':Nat → Prop} {o:Sp.Op2} {pa fa y:Option Addr} {pl pc fl fc:Nat} (h:Op2R w G o pa pl pc fa fl fc y) (hk:∀ k,G k → k < w.heap.size → w'.heap[k]? = w.heap[k]? ∧ G' k):Op2R w' G' o pa pl pc fa fl fc y :=
 ⟨h.1,h.2.1.move hk,fun h3=>(h.2.2.1 h3).move hk,fun h3=>(h.2.2.2 h3).move hk⟩
def PatchEnd (D R:Nat) (iv:Value) (ch:Bool) (Tb:Sp.A) (Mb:Nat → Prop) (wb:World) (M:Nat → Prop) (d x:Int) (n:Nat) (w:World) (r:Except (Nat × Nat) (Sp.V × List Sp.Opn)) (e:Ending) (w':World):Prop:=match r with
 | .ok (v,j)=>e = .returned (.tuple #[.int .i64 0,.int .i64 0]) ∧ ∃ wp jn T a M' wk iv',JS wk D R wp jn iv ch Tb Mb wb T a v M' j ∧ JEx M M' w wk ∧ DB w' D (.pointer (some ⟨R,0,none⟩)) (.slice none 0 0) true iv' ∧ OpsR w' (fun k=>GA (top + 1) Tb wb M' k ∨ wk.heap.size ≤ k) iv' j.reverse ∧ KeptF (fun k=>k = D) wk w' ∧ Sp.Fit d x 200000 v ∧ (Sp.can top v).length ≤ 80000 ∧ (∀ o ∈ j,Sp.OnOk d x 200000 o) ∧ j.length ≤ 2 * n
 | .error (c,i)=>e = .returned (.tuple #[.int .i64 i,.int .i64 c]) ∧ DB w' D (.pointer (some ⟨R,0,none⟩)) (.slice none 0 0) ch iv ∧ TreeAt (top + 1) (.pointer (some ⟨R,0,none⟩)) Tb Mb (fun k=>k = D) wb w' ∧ w'.os = w.os ∧ w'.tape = w.tape ∧ w'.output = w.output ∧ w.heap.size ≤ w'.heap.size
structure PatI (D R:Nat) (iv:Value) (ch:Bool) (Tb:Sp.A) (Mb:Nat → Prop) (wb:World) (M:Nat → Prop) (d x:Int) (w:World) (v0:Sp.V) (ops:List Sp.Op2) (k:Nat) (W:World):Prop where
 ex:∃ wp jn T a v M' j,JS W D R wp jn iv ch Tb Mb wb T a v M' j ∧ JEx M M' w W ∧ j.length ≤ 2 * k ∧ Sp.Fit d x 200000 v ∧ (Sp.can top v).length ≤ 80000 ∧ (∀ o ∈ j,Sp.OnOk d x 200000 o) ∧ Sp.dops d 0 v0 [] ops = Sp.dops d k v j (ops.drop k)
section
variable {w:World} {D R:Nat} {wp:Option Addr} {jn iv:Value} {ch:Bool} {Tb T a:Sp.A} {Mb M:Nat → Prop} {wb:World} {v:Sp.V} {d x:Int} {js:List Sp.Opn}
theorem takeBack_end {c i n:Nat} {M':Nat → Prop} {W:World} (h:JS W D R wp jn iv ch Tb Mb wb T a v M' js) (hX:JEx M M' w W) (hMb:∀ k,Mb k → k ≠ D ∧ k < w.heap.size) :
  Calls Tryz.prog 118 #[.pointer (some ⟨D,0,none⟩)] W fun e w'=>e = .returned (.tuple #[]) ∧ Hid (PatchEnd D R iv ch Tb Mb wb M d x n w (.error (c,i)) (.returned (.tuple #[.int .i64 i,.int .i64 c])) w'):=by
 refine (takeBack_any h.j (fun k hk=>⟨(hMb k hk).1,Nat.lt_of_lt_of_le (hMb k hk).2 hX.size⟩)).mono ?_
 rintro e w' ⟨rfl,t1,t2,t3,t4,t5,t6⟩
 exact ⟨rfl,rfl,t1,t2,t3.trans hX.os,t4.trans hX.tape,t5.trans hX.output,Nat.le_trans hX.size t6⟩
set_option maxRecDepth 100000 in
set_option maxHeartbeats 8000000 in
theorem dPatch_any {ao:Option Addr} {g cap:Nat} {ops:List Sp.Op2} (h:JS w D R wp jn iv ch Tb Mb wb T a v M []) (hT:Laid w) (hM0:∀ k,k < NG → M k) (hMb:∀ k,Mb k → k ≠ D ∧ k < w.heap.size) (hd:d ≤ 100) (hv:Sp.Fit d x 200000 v) (hvl:(Sp.can top v).length ≤ 80000)
  (hgM:0 < ops.length → ao = some ⟨g,0,none⟩ ∧ M g) (hops:OpsMem w (GA (top + 1) Tb wb M) g ops) (hok:∀ o ∈ ops,Sp.OpOk (d + 2) x 200000 o) (hn:ops.length ≤ 400000000) :
  Calls Tryz.prog 84 #[.pointer (some ⟨D,0,none⟩),.slice ao ops.length cap,.int .i64 d] w (PatchEnd D R iv ch Tb Mb wb M d x ops.length w (Sp.dops d 0 v [] ops)):=by
 have HI0:Hid (PatI D R iv ch Tb Mb wb M d x w v ops 0 w):=⟨wp,jn,T,a,v,M,[],h,JEx.refl _ _,by simp,hv,hvl,fun o ho=>(by cases ho),rfl⟩
 have HLOW:=hide (fun k (hk:M k)=>(h.j.low k hk).1)
 obtain ⟨n,hnn⟩:∃ n,n = ops.length:=⟨_,rfl⟩
 obtain ⟨Q,hQ⟩:∃ Q,Q = PatchEnd D R iv ch Tb Mb wb M d x ops.length w (Sp.dops d 0 v [] ops):=⟨_,rfl⟩
 rw [← hQ,← hnn]
 have hn1:(n:Int) ≤ 400000000:=by omega
 have HT:=hide hT
 have HM0:=hide hM0
 have HMB:=hide hMb
 have HGM:=hide hgM
 have HOPS:=hide hops
 have HOK:=hide hok
 have HN:=hide hnn
 have HQ:=hide hQ
 clear h hT hM0 hMb hv hvl hgM hops hok hn hnn hQ
 go_enter Tryz.func84,Tryz.ntmps84
 go_wp2_with (fail)
 go_loopw [13] (fun i wr=>∃ k:Nat,k ≤ n ∧ i = .int .i64 k ∧ PatI D R iv ch Tb Mb wb M d x w v ops k wr) (fun i _=>n - (intOf i).toNat)
 case atStart=>exact ⟨0,by omega,rfl,unhide HI0⟩
 case round =>
  obtain ⟨k,hk,rfl,wp1,jn1,T1,a1,v1,M1,j1,i1,i2,i3,i4,i5,i6,i7⟩:=hrel
  by_cases hlt:k < n
  ·have hkl:k < ops.length:=by have:=unhide HN; omega
   obtain ⟨hao,hgm⟩:=unhide HGM (by omega)
   obtain ⟨pa,pl,pc,fa,fl,fc,y,r0,r1,r2,r3,r4⟩:=unhide HOPS k hkl
   have hmv:∀ o:Nat,wr.cell? ⟨g,o,none⟩ = w.cell? ⟨g,o,none⟩:=fun o=>World.cell?_of_block (w:=w) (i2.kept g hgm).2
   have c0:=(hmv _).trans r1
   have c1:=(hmv _).trans r2
   have c2:=(hmv _).trans r3
   have c3:=(hmv _).trans r4
   have HR:=hide (r0.move (w':=wr) (G':=GA (top + 1) Tb wb M1) fun q hq _=>⟨(i2.kept q hq.1).2,(i2.kept q hq.1).1,hq.2⟩)
   have HOKK:=hide (unhide HOK _ (List.getElem_mem hkl))
   have HEQ:=hide (show Sp.dops d 0 v [] ops = (match Sp.do1 v1 ops[k] with | .error c=>.error (c,k) | .ok (d',j')=>if Sp.meas d d' = 0 then Sp.dops d (k + 1) d' (j1 ++ j') (ops.drop (k + 1)) else .error (Sp.meas d d',k)) by
    rw [i7,List.drop_eq_getElem_cons hkl]; rfl)
   obtain ⟨o,ho⟩:∃ o,o = ops[k]:=⟨_,rfl⟩
   rw [← ho] at c0 HR HOKK HEQ
   have hlt2:(k:Int) < (n:Int):=by omega
   have HJ:=hide i1
   have HX:=hide i2
   have H3:=hide i3
   have H4:=hide i4
   have H6:=hide i6
   subst hao
   clear i1 i2 i3 i4 i5 i6 i7 r0 r1 r2 r3 r4 hmv HI0 ho
   obtain ⟨kk,hkk⟩:∃ kk:Nat,kk = o.1:=⟨_,rfl⟩
   rw [← hkk] at c0
   have hbx:Below wr.heap.size wr (wr.alloc (.cells #[.int .i64 kk,.slice pa pl pc,.slice fa fl fc,.pointer y] 178)):=(Below.refl _ _).alloc (Nat.le_refl _) _
   have HTw:=hide ((unhide HT).jex (unhide HM0) (unhide HX))
   have HBX:=hide hbx
   have HDO:=hide (do_doc (d:=d + 2) (B:=200000) ((unhide HJ).bel hbx) ((unhide HTw).bel hbx) (fun q hq=>((unhide HX).kept q (unhide HM0 q hq)).1) ((unhide H4).mono (by omega) (by omega) (Nat.le_refl _)) (by omega) (by have:=unhide H3; omega) ((unhide HR).move fun q hq hql=>⟨hbx.block q hql,hq⟩) (unhide HOKK))
   rw [← hkk] at HDO
   clear hbx hkk
   go_wp2_with (fail)
   refine (unhide HDO).mono ?_
   rintro e w2 he
   cases hdo:Sp.do1 v1 o with
   | error c =>
    rw [hdo] at he
    obtain ⟨rfl,wp2,jn2,T2,a2,v2,M2,j2,s1,s2⟩:=he
    have hc0:=Sp.do1_ne hdo
    have hX2:=(unhide HX).trans (JEx.below (unhide HBX) (fun q hq=>((unhide HJ).j.low q hq).1) s2)
    have HTB:=hide (takeBack_end (d:=d) (x:=x) (n:=ops.length) (c:=c) (i:=k) s1 hX2 (unhide HMB))
    have e1:((c:Int) == 0) = false:=by rw [beq_eq_false_iff_ne]; omega
    have e2:((c:Int) != 0) = true:=by rw [bne_iff_ne]; omega
    have HFIN:=hide (show Sp.dops d 0 v [] ops = .error (c,k) by have:=unhide HEQ; rw [hdo] at this; exact this)
    clear s1 s2 hX2 hdo hc0 HDO
    go_wp2_with (fail)
    refine (unhide HTB).mono ?_
    rintro e w3 ⟨rfl,hp⟩
    go_wp2_with (fail)
    show Q (.returned (.tuple #[.int .i64 k,.int .i64 c])) _
    rw [unhide HQ,unhide HFIN]
    exact unhide hp
   | ok vj =>
    obtain ⟨v2,j2⟩:=vj
    rw [hdo] at he
    obtain ⟨rfl,wp2,jn2,T2,a2,M2,s1,s2⟩:=he
    obtain ⟨f1,f2,f3⟩:=Sp.do1_fit (unhide H4) (unhide HOKK) hd hdo
    have hX2:=(unhide HX).trans (JEx.below (unhide HBX) (fun q hq=>((unhide HJ).j.low q hq).1) s2)
    have HJ2:=hide s1
    have HX2:=hide hX2
    have HMEAS:=hide (measure_doc (dp:=d) s1 ((unhide HT).jex (unhide HM0) hX2) f1 (by omega))
    have HLOW2:=hide (fun q (hq:M2 q)=>(s1.j.low q hq).1)
    have hE2:=unhide HEQ
    rw [hdo] at hE2
    have HE2:=hide hE2
    have HF:=hide (show (∀ o ∈ j1 ++ j2,Sp.OnOk d x 200000 o) ∧ (j1 ++ j2).length ≤ 2 * (k + 1) from ⟨fun o ho=>(List.mem_append.1 ho).elim (unhide H6 o) (f2 o),by have:=unhide H3; simp; omega⟩)
    have HF1:=hide f1
    clear s1 s2 hX2 hdo HDO f1 f2 f3 hE2
    go_wp2_with (fail)
    refine (unhide HMEAS).mono ?_
    rintro e w3 ⟨rfl,hb3⟩
    have HB3:=hide hb3
    clear hb3 HMEAS
    obtain ⟨m,hm⟩:∃ m,m = Sp.meas d v2:=⟨_,rfl⟩
    rw [← hm]
    by_cases hm0:m = 0
    ·have HG:=hide (show PatI D R iv ch Tb Mb wb M d x w v ops (k + 1) w3 from by
      obtain ⟨g1,g2⟩:=Sp.meas_fit (unhide HF1) hd (hm ▸ hm0)
      refine ⟨wp2,jn2,T2,a2,v2,M2,j1 ++ j2,(unhide HJ2).bel (unhide HB3),(unhide HX2).trans ((unhide HJ2).j.bel (unhide HB3)).2,(unhide HF).2,g1.mono (Int.le_refl _) (by omega) (by omega),by omega,(unhide HF).1,?_⟩
      have:=unhide HE2
      rw [this]
      try simp only []
      rw [if_pos (hm ▸ hm0)])
     clear hm
     subst hm0
     go_wp2_with (fail)
     exact ⟨⟨k + 1,by omega,by go_num,unhide HG⟩,by simp [intOf]; omega⟩
    ·have HTB:=hide (takeBack_end (d:=d) (x:=x) (n:=ops.length) (c:=m) (i:=k) ((unhide HJ2).bel (unhide HB3)) ((unhide HX2).trans ((unhide HJ2).j.bel (unhide HB3)).2) (unhide HMB))
     have e1:((m:Int) == 0) = false:=by rw [beq_eq_false_iff_ne]; omega
     have e2:((m:Int) != 0) = true:=by rw [bne_iff_ne]; omega
     have HFIN:=hide (show Sp.dops d 0 v [] ops = .error (m,k) by
      have:=unhide HE2
      rw [this]
      try simp only []
      rw [if_neg (hm ▸ hm0),hm])
     clear hm hm0
     go_wp2_with (fail)
     refine (unhide HTB).mono ?_
     rintro e w4 ⟨rfl,hp⟩
     go_wp2_with (fail)
     show Q (.returned (.tuple #[.int .i64 k,.int .i64 m])) _
     rw [unhide HQ,unhide HFIN]
     exact unhide hp
  ·have hkn:k = ops.length:=by have:=unhide HN; omega
   have HK:=hide (keep_any i1.j (by omega))
   have HFIN:=hide (show Sp.dops d 0 v [] ops = .ok (v1,j1) by rw [i7,List.drop_eq_nil_of_le (by omega)]; rfl)
   have HJ:=hide i1
   have HX:=hide i2
   have H4:=hide i4
   have H5:=hide i5
   have H6:=hide i6
   have H3:=hide i3
   have hlt2:¬ (k:Int) < (n:Int):=by omega
   clear i1 i2 i3 i4 i5 i6 i7 hkn HI0
   go_wp2_with (fail)
   refine (unhide HK).mono ?_
   rintro e w2 ⟨rfl,iv',k1,k2,k3⟩
   have HP:=hide (show PatchEnd D R iv ch Tb Mb wb M d x ops.length w (.ok (v1,j1)) (.returned (.tuple #[.int .i64 0,.int .i64 0])) w2 from ⟨rfl,wp1,jn1,T1,a1,M1,wr,iv',unhide HJ,unhide HX,k1,k2,k3,unhide H4,unhide H5,unhide H6,by have:=unhide H3; have:=unhide HN; omega⟩)
   clear k1 k2 k3
   go_wp2_with (fail)
   show Q (.returned (.tuple #[.int .i64 0,.int .i64 0])) _
   rw [unhide HQ,unhide HFIN]
   exact unhide HP
end
end Go.Proofs.YtdpomdelmdofmaaGreatDoor

namespace Go.Proofs.YtdpomdelmdofmaaGreatDoor
open Go.RowKit Go.Maps
def RowOps (w:World) (G:Nat → Prop) (xs:List Value) (ops:List Sp.Op2):Prop:=∀ i (h:i < ops.length),∃ pa pl pc fa fl fc y,Op2R w G ops[i] pa pl pc fa fl fc y ∧ xs[i * 4]? = some (.int .i64 ops[i].1) ∧ xs[i * 4 + 1]? = some (.slice pa pl pc) ∧ xs[i * 4 + 2]? = some (.slice fa fl fc) ∧ xs[i * 4 + 3]? = some (.pointer y)
theorem RowOps.move {w w':World} {G G':Nat → Prop} {xs:List Value} {ops:List Sp.Op2} (h:RowOps w G xs ops) (hk:∀ k,G k → k < w.heap.size → w'.heap[k]? = w.heap[k]? ∧ G' k):RowOps w' G' xs ops:=fun i hi=>by
 obtain ⟨pa,pl,pc,fa,fl,fc,y,h1,h2⟩:=h i hi
 exact ⟨pa,pl,pc,fa,fl,fc,y,h1.move hk,h2⟩
theorem RowOps.snoc {w:World} {G:Nat → Prop} {xs:List Value} {ops:List Sp.Op2} {o:Sp.Op2} {pa fa y:Option Addr} {pl pc fl fc:Nat} (h:RowOps w G xs ops) (hl:xs.length = ops.length * 4) (ho:Op2R w G o pa pl pc fa fl fc y) :
  RowOps w G (xs ++ [.int .i64 o.1,.slice pa pl pc,.slice fa fl fc,.pointer y]) (ops ++ [o]):=fun i hi=>by
 by_cases hlt:i < ops.length
 ·obtain ⟨pa,pl,pc,fa,fl,fc,y,h1,h2,h3,h4,h5⟩:=h i hlt
  rw [List.getElem_append_left hlt]
  exact ⟨pa,pl,pc,fa,fl,fc,y,h1,by rw [List.getElem?_append_left (by omega)]; exact h2,by rw [List.getElem?_append_left (by omega)]; exact h3,by rw [List.getElem?_append_left (by omega)]; exact h4,by rw [List.getElem?_append_left (by omega)]; exact h5⟩
 ·obtain rfl:i = ops.length:=by simp at hi; omega
  refine ⟨pa,pl,pc,fa,fl,fc,y,?_,?_,?_,?_,?_⟩
  ·simpa using ho
  ·rw [List.getElem?_append_right (by omega)]; simp [show ops.length * 4 - xs.length = 0 by omega]
  ·rw [List.getElem?_append_right (by omega)]; simp [show ops.length * 4 + 1 - xs.length = 1 by omega]
  ·rw [List.getElem?_append_right (by omega)]; simp [show ops.length * 4 + 2 - xs.length = 2 by omega]
  ·rw [List.getElem?_append_right (by omega)]; simp [show ops.length * 4 + 3 - xs.length = 3 by omega]
theorem owns_cell4 {w:World} {B e n:Nat} {v:Value} {xs:List Value} (h:w.ownsRow B e 4 v n xs):∃ ao cap g,v = .slice ao n cap ∧ (0 < n → ao = some ⟨g,0,none⟩ ∧ v.ownBlock = some g ∧ B ≤ g ∧ ∀ k (hk:k < xs.length),w.cell? ⟨g,k,none⟩ = some xs[k]):=by
 obtain ⟨hlen,h⟩:=h
 rcases h with ⟨h1,h0⟩ | ⟨g,cap,cur,h1,hB,h3,h4,h5,h6,h7⟩
 ·subst h0
  exact ⟨none,0,0,h1,fun h=>absurd h (by omega)⟩
 ·refine ⟨_,cap,g,h1,fun _=>⟨rfl,by rw [h1]; rfl,hB,fun k hk=>?_⟩⟩
  have h8:cur.toList[k]? = some xs[k]:=by
   have h9:(cur.toList.take (n * 4))[k]? = some xs[k]:=by rw [h7]; exact List.getElem?_eq_getElem hk
   rw [List.getElem?_take_of_lt (by omega)] at h9
   exact h9
  have h10:cur[k]? = some xs[k]:=by rw [← h8,Array.getElem?_toList]
  simp [World.cell?,h3,h10]
theorem RowOps.mem {w:World} {G:Nat → Prop} {xs:List Value} {ops:List Sp.Op2} (h:RowOps w G xs ops) {g:Nat} (hc:0 < ops.length → ∀ k (hk:k < xs.length),w.cell? ⟨g,k,none⟩ = some xs[k]):OpsMem w G g ops:=fun i hi=>by
 obtain ⟨pa,pl,pc,fa,fl,fc,y,h1,h2,h3,h4,h5⟩:=h i hi
 have hget:∀ k u,xs[k]? = some u → w.cell? ⟨g,k,none⟩ = some u:=fun k u hu=>by
  obtain ⟨hk,e⟩:=List.getElem?_eq_some_iff.1 hu
  rw [hc (by omega) k hk,e]
 exact ⟨pa,pl,pc,fa,fl,fc,y,h1,hget _ _ h2,hget _ _ h3,hget _ _ h4,hget _ _ h5⟩
def pareadEnd (F:Nat → Prop) (d:Sp.V) (w:World) (e:Ending) (w':World):Prop:=match Sp.pread d with
 | .error i=>e = .returned (.tuple #[.slice none 0 0,.int .i64 i,.bool false])
 | .ok l=>∃ ao g cap,e = .returned (.tuple #[.slice ao l.length cap,.int .i64 0,.bool true]) ∧ (0 < l.length → ao = some ⟨g,0,none⟩ ∧ w.heap.size ≤ g) ∧ OpsMem w' (fun k=>(F k ∧ k < w.heap.size) ∨ w.heap.size ≤ k) g l
structure RdI (F:Nat → Prop) (w1:World) (es:List Sp.V) (k:Nat) (pv:Value) (xs:List Value) (ops:List Sp.Op2) (W:World):Prop where
 len:ops.length = k
 own:W.ownsRow w1.heap.size 178 4 pv k xs
 bel:Below w1.heap.size w1 W
 rops:RowOps W (fun q=>((F q ∧ q < w1.heap.size) ∨ w1.heap.size ≤ q) ∧ pv.ownBlock ≠ some q) xs ops
 eq:Sp.pItems 0 es = match Sp.pItems k (es.drop k) with
  | .ok l=>.ok (ops ++ l)
  | .error c=>.error c
theorem RdI.next {F:Nat → Prop} {w1:World} {es:List Sp.V} {k:Nat} {pv pv':Value} {xs:List Value} {ops:List Sp.Op2} {W W4 W5:World} {o:Sp.Op2} {pa fa y:Option Addr} {pl pc fl fc:Nat} (h:RdI F w1 es k pv xs ops W) (hk:k < es.length) (ho:Sp.pItem es[k] = some o)
  (hb:Below W.heap.size W W4) (hop:Op2R W4 (fun q=>((F q ∧ q < w1.heap.size) ∧ q < W.heap.size) ∨ W.heap.size < q) o pa pl pc fa fl fc y)
  (hown:W5.ownsRow w1.heap.size 178 4 pv' (k + 1) (xs ++ [.int .i64 o.1,.slice pa pl pc,.slice fa fl fc,.pointer y])) (hg:W4.grownBy W5 pv.ownBlock) (hnb:pv'.ownBlock = pv.ownBlock ∨ pv'.ownBlock = some W4.heap.size) :
  RdI F w1 es (k + 1) pv' (xs ++ [.int .i64 o.1,.slice pa pl pc,.slice fa fl fc,.pointer y]) (ops ++ [o]) W5:=by
 have hsz:=h.bel.size
 have hrow:∀ g,pv.ownBlock = some g → g < W.heap.size ∧ w1.heap.size ≤ g:=fun g hg=>ownsN_lt h.own g hg
 have hne:∀ q,q < W4.heap.size → pv.ownBlock ≠ some q → pv'.ownBlock ≠ some q:=fun q hq h1 h2=>by
  rcases hnb with e | e
  ·exact h1 (e ▸ h2)
  ·rw [e] at h2; injection h2 with h2; omega
 refine ⟨by simp [h.len],hown,(h.bel.trans (hb.mono hsz)).grown hg (Nat.le_trans hsz hb.size) (fun g hgg=>(hrow g hgg).2),?_,?_⟩
 ·refine RowOps.snoc ((h.rops.move (w':=W4) (G':=fun q=>(((F q ∧ q < w1.heap.size) ∨ w1.heap.size ≤ q) ∧ pv.ownBlock ≠ some q)) fun q hq hql=>⟨hb.block q hql,hq⟩).move fun q hq hql=>⟨hg.block q hql fun e=>hq.2 e.symm,hq.1,hne q hql hq.2⟩) (by rw [h.own.1,h.len]) ?_
  refine hop.move fun q hq hql=>?_
  have hr:pv.ownBlock ≠ some q:=fun e=>by
   obtain ⟨a,b⟩:=hrow q e
   rcases hq with ⟨⟨_,h1⟩,_⟩ | h1 <;> omega
  refine ⟨hg.block q hql fun e=>hr e.symm,?_,hne q hql hr⟩
  rcases hq with ⟨h1,_⟩ | h1
  ·exact Or.inl h1
  ·exact Or.inr (by omega)
 ·rw [h.eq,List.drop_eq_getElem_cons hk,Sp.pItems,ho]
  simp only
  cases Sp.pItems (k + 1) (es.drop (k + 1)) <;> simp
end Go.Proofs.YtdpomdelmdofmaaGreatDoor
