/-
  Walks of a place: what stands there.
-/
import Derived.Test.YtdpomdelmdofmaaGreatDoorPart23
import Derived.Test.YtdpomdelmdofmaaGreatDoorPart16
namespace Go.Proofs.YtdpomdelmdofmaaGreatDoor
open Go.RowKit Go.Maps
abbrev plV (pth:Value) (b:Nat) (key:Sp.By) (i:Nat):Value:=.agg #[pth,.pointer (some ⟨b,0,none⟩),.string ⟨key.toArray⟩,.int .i64 i]
theorem below_box (w:World) (o:Obj) (q:Nat):Below w.heap.size w ((w.alloc o).drewN q):=by
 have h:=(Below.refl w.heap.size w).alloc (Nat.le_refl _) o
 exact ⟨h.os,h.tape,h.output,h.size,h.block⟩
section
variable {w:World} {b:Nat} {pth:Value} {key:Sp.By} {i:Nat}
set_option maxRecDepth 100000 in
set_option maxHeartbeats 4000000 in
theorem get_obj {m n:Nat} {D:List (Lit × DataW Value)} (hk:key.length ≤ 1048576) (h:VB w b 6 n0 [] (.slice none 0 0) (.map (some m))) (ho:w.ownsMap Tryz.prog 9 RV m n (.map D)) {x:Value} (hx:(DataW.map D).atKey (.string key) (.held (.pointer none)) = .held x) :
  Calls Tryz.prog 159 #[plV pth b key i] w fun e w'=>e = .returned x ∧ Below w.heap.size w w':=by
 have hbl:=h.lt
 have q0:∀ o,(w.alloc o).cell? ⟨b,0,none⟩ = some (.int .i64 6):=fun o=>(World.cell?_of_block (w:=w) (Below.heap_alloc w o b hbl)).trans h.c0
 have q6:∀ o,(w.alloc o).cell? ⟨b,6,none⟩ = some (.map (some m)):=fun o=>(World.cell?_of_block (w:=w) (Below.heap_alloc w o b hbl)).trans h.c6
 have hlk:∀ o q,(Instr.lookup 109 (.map (some m)) (.string ⟨key.toArray⟩) false).run Tryz.prog ((w.alloc o).drewN q) = .ok x ((w.alloc o).drewN q):=fun o q=>by
  obtain ⟨v,ps,hrun,hv⟩:=(map_kept (w':=(w.alloc o).drewN q) ho (Below.heap_alloc w o m (map_lt ho))).lookup mlaw Tryz.underlying109 (mzero _) (zd:=.held (.pointer none)) (zp:=[]) rfl (tkey key hk)
  rw [hx] at hv
  obtain ⟨rfl,_⟩:=rv_held hv rfl
  exact hrun
 have hl0:∀ o,(Instr.lookup 109 (.map (some m)) (.string ⟨key.toArray⟩) false).run Tryz.prog (w.alloc o) = .ok x (w.alloc o):=fun o=>hlk o 0
 clear h ho hx
 go_enter Tryz.func159,Tryz.ntmps159
 go_wp2_with (fail)
 go_quiet (fail)
 go_wp2_with (fail)
 go_ret
 exact ⟨rfl,below_box _ _ _⟩
set_option maxRecDepth 100000 in
set_option maxHeartbeats 4000000 in
theorem get_arr {sl:Value} {ps:List Value} (h:VB w b 5 n0 [] sl (.map none)) (ho:w.ownsRow 0 80 1 sl ps.length ps) (hi:i < ps.length) :
  Calls Tryz.prog 159 #[plV pth b key i] w fun e w'=>e = .returned ps[i] ∧ Below w.heap.size w w':=by
 have hbl:=h.lt
 have q0:∀ o,(w.alloc o).cell? ⟨b,0,none⟩ = some (.int .i64 5):=fun o=>(World.cell?_of_block (w:=w) (Below.heap_alloc w o b hbl)).trans h.c0
 have q5:∀ o,(w.alloc o).cell? ⟨b,5,none⟩ = some sl:=fun o=>(World.cell?_of_block (w:=w) (Below.heap_alloc w o b hbl)).trans h.c5
 obtain ⟨N,hN⟩:∃ N,N = ps.length:=⟨_,rfl⟩
 obtain ⟨g,cap,rfl,a1,a2,a3,hc⟩:=owns_cell1 ho (by omega)
 have qi:∀ o,(w.alloc o).cell? ⟨g,i,none⟩ = some ps[i]:=fun o=>(World.cell?_of_block (w:=w) (Below.heap_alloc w o g a3)).trans (hc i hi)
 rw [← hN] at q5 a1
 have hlt:i < N:=by omega
 have hlt2:(i:Int) < (N:Int):=by omega
 have hn1:(N:Int) ≤ 9223372036854775807:=by unfold maxLen at a2; omega
 generalize ps[i] = pv at *
 clear h ho hc hN hi
 go_enter Tryz.func159,Tryz.ntmps159
 go_wp2_with (fail)
 go_quiet (fail)
 go_wp2_with (fail)
 go_ret
 exact ⟨rfl,below_box _ _ _⟩
set_option maxRecDepth 100000 in
set_option maxHeartbeats 4000000 in
theorem set_arr {sl:Value} {pu:Option Addr} {ps:List Value} (h:VB w b 5 n0 [] sl (.map none)) (ho:w.ownsRow 0 80 1 sl ps.length ps) (hi:i < ps.length) :
  Calls Tryz.prog 250 #[plV pth b key i,.pointer pu] w fun e w'=>e = .returned (.tuple #[]) ∧ ∃ g,sl.ownBlock = some g ∧ w'.ownsRow 0 80 1 sl ps.length (ps.set i (.pointer pu)) ∧ w.grownBy w' (some g):=by
 have hbl:=h.lt
 have q0:∀ o,(w.alloc o).cell? ⟨b,0,none⟩ = some (.int .i64 5):=fun o=>(World.cell?_of_block (w:=w) (Below.heap_alloc w o b hbl)).trans h.c0
 have q5:∀ o,(w.alloc o).cell? ⟨b,5,none⟩ = some sl:=fun o=>(World.cell?_of_block (w:=w) (Below.heap_alloc w o b hbl)).trans h.c5
 obtain ⟨N,hN⟩:∃ N,N = ps.length:=⟨_,rfl⟩
 obtain ⟨g,cap,rfl,a1,a2,a3,hc⟩:=owns_cell1 ho (by omega)
 have qi:∀ o,(w.alloc o).cell? ⟨g,i,none⟩ = some ps[i]:=fun o=>(World.cell?_of_block (w:=w) (Below.heap_alloc w o g a3)).trans (hc i hi)
 have zi:∀ o,(w.alloc o).frozen? ⟨g,i,none⟩ = false:=fun o=>(ho.alloc o).frozenAt i
 have HFIN:Hid (∀ o,Value.ownBlock (.slice (some ⟨g,0,none⟩) ps.length cap) = some g ∧ (((w.setCell ⟨g,i,none⟩ (.pointer pu)).alloc o).drew).ownsRow 0 80 1 (.slice (some ⟨g,0,none⟩) ps.length cap) ps.length (ps.set i (.pointer pu)) ∧ w.grownBy (((w.setCell ⟨g,i,none⟩ (.pointer pu)).alloc o).drew) (some g)):=hide (fun o=>by
  have h1:=ho.stored i (.pointer pu)
  have h3:=h1.2.andThen (World.grownBy_alloc (w.setCell ⟨g,i,none⟩ (.pointer pu)) o none) (fun j hj=>by cases hj)
  exact ⟨rfl,h1.1.alloc o,⟨h3.os,h3.tape,h3.output,h3.size,h3.block⟩⟩)
 have qi':∀ o q,((w.alloc o).drewN q).cell? ⟨g,i,none⟩ = some ps[i]:=fun o _=>qi o
 have zi':∀ o q,((w.alloc o).drewN q).frozen? ⟨g,i,none⟩ = false:=fun o _=>zi o
 have qi2:∀ o,((w.alloc o).drew).cell? ⟨g,i,none⟩ = some ps[i]:=fun o=>qi o
 have zi2:∀ o,((w.alloc o).drew).frozen? ⟨g,i,none⟩ = false:=fun o=>zi o
 have hlt:i < N:=by omega
 have hlt2:(i:Int) < (N:Int):=by omega
 have hn1:(N:Int) ≤ 9223372036854775807:=by unfold maxLen at a2; omega
 rw [← hN] at q5 a1 HFIN ⊢
 generalize ps[i] = pv at *
 clear h ho hc hN hi
 go_enter Tryz.func250,Tryz.ntmps250
 go_wp2_with (fail)
 go_region_law (fail)
 all_goals exact bodyPost_end (results_none rfl _ _ _) rfl ⟨rfl,g,unhide HFIN _⟩
end
end Go.Proofs.YtdpomdelmdofmaaGreatDoor

namespace Go.Proofs.YtdpomdelmdofmaaGreatDoor
open Go.RowKit Go.Maps
section
variable {w:World} {b:Nat} {pth:Value} {key:Sp.By} {i:Nat}
theorem upd_runs {m n:Nat} {D:List (Lit × DataW Value)} {pu:Option Addr} (hk:key.length ≤ 1048576) (hn:n < maxLen) (ho:w.ownsMap Tryz.prog 9 RV m n (.map D)) (o:Obj) :
  ∃ w3,(Instr.mapUpdate 109 (.map (some m)) (.string ⟨key.toArray⟩) (.pointer pu)).run Tryz.prog ((w.alloc o).drew) = .ok () w3 ∧ w3.ownsMap Tryz.prog 9 RV m (n + 1) (DataW.put (.map D) (.string key) (.held (.pointer pu))) ∧ w.grownBy w3 (some m):=by
 have h0:((w.alloc o).drew).ownsMap Tryz.prog 9 RV m n (.map D):=(ho.alloc o).drew
 obtain ⟨w3,hrun,h1,h2⟩:=h0.update mlaw Tryz.underlying109 hn (tkey key hk) (val:=.pointer pu) (d:=.held (.pointer pu)) (ps:=[]) rfl
 have h3:=World.grownBy_alloc w o none
 have h4:w.grownBy ((w.alloc o).drew) none:=⟨h3.os,h3.tape,h3.output,h3.size,h3.block⟩
 refine ⟨w3,hrun,h1,?_⟩
 exact ⟨h2.os.trans h4.os,h2.tape.trans h4.tape,h2.output.trans h4.output,Nat.le_trans h4.size h2.size,fun j hj hne=>(h2.block j (Nat.lt_of_lt_of_le hj h4.size) hne).trans (h4.block j hj (by simp))⟩
set_option maxRecDepth 100000 in
set_option maxHeartbeats 4000000 in
theorem set_obj {m n:Nat} {D:List (Lit × DataW Value)} {pu:Option Addr} (hk:key.length ≤ 1048576) (hn:n < maxLen) (h:VB w b 6 n0 [] (.slice none 0 0) (.map (some m))) (ho:w.ownsMap Tryz.prog 9 RV m n (.map D)) :
  Calls Tryz.prog 250 #[plV pth b key i,.pointer pu] w fun e w'=>e = .returned (.tuple #[]) ∧ w'.ownsMap Tryz.prog 9 RV m (n + 1) (DataW.put (.map D) (.string key) (.held (.pointer pu))) ∧ w.grownBy w' (some m):=by
 have hbl:=h.lt
 have q0:∀ o,(w.alloc o).cell? ⟨b,0,none⟩ = some (.int .i64 6):=fun o=>(World.cell?_of_block (w:=w) (Below.heap_alloc w o b hbl)).trans h.c0
 have q6:∀ o,(w.alloc o).cell? ⟨b,6,none⟩ = some (.map (some m)):=fun o=>(World.cell?_of_block (w:=w) (Below.heap_alloc w o b hbl)).trans h.c6
 have HU:=upd_runs (pu:=pu) hk hn ho
 clear h ho
 obtain ⟨W,hW⟩:=Classical.axiomOfChoice HU
 have hrun:=fun o=>(hW o).1
 have HOWN:=hide (fun o=>(hW o).2.1)
 have HG:=hide (fun o=>(hW o).2.2)
 clear hW HU
 go_enter Tryz.func250,Tryz.ntmps250
 go_wp2_with (fail)
 go_region_law (fail)
 all_goals (
  go_wp2_with (fail)
  exact bodyPost_ret (results_none rfl _ _ _) rfl ⟨rfl,unhide HOWN _,unhide HG _⟩)
set_option maxRecDepth 100000 in
set_option maxHeartbeats 4000000 in
theorem insert_obj {m n:Nat} {D:List (Lit × DataW Value)} {pu:Option Addr} (hk:key.length ≤ 1048576) (hn:n < maxLen) (h:VB w b 6 n0 [] (.slice none 0 0) (.map (some m))) (ho:w.ownsMap Tryz.prog 9 RV m n (.map D)) :
  Calls Tryz.prog 249 #[plV pth b key i,.pointer pu] w fun e w'=>e = .returned (.tuple #[]) ∧ w'.ownsMap Tryz.prog 9 RV m (n + 1) (DataW.put (.map D) (.string key) (.held (.pointer pu))) ∧ w.grownBy w' (some m):=by
 have hbl:=h.lt
 have q0:∀ o,(w.alloc o).cell? ⟨b,0,none⟩ = some (.int .i64 6):=fun o=>(World.cell?_of_block (w:=w) (Below.heap_alloc w o b hbl)).trans h.c0
 have q6:∀ o,(w.alloc o).cell? ⟨b,6,none⟩ = some (.map (some m)):=fun o=>(World.cell?_of_block (w:=w) (Below.heap_alloc w o b hbl)).trans h.c6
 have HU:=upd_runs (pu:=pu) hk hn ho
 clear h ho
 obtain ⟨W,hW⟩:=Classical.axiomOfChoice HU
 have hrun:=fun o=>(hW o).1
 have HOWN:=hide (fun o=>(hW o).2.1)
 have HG:=hide (fun o=>(hW o).2.2)
 clear hW HU
 go_enter Tryz.func249,Tryz.ntmps249
 go_wp2_with (fail)
 go_region_law (fail)
 all_goals (
  go_wp2_with (fail)
  exact bodyPost_ret (results_none rfl _ _ _) rfl ⟨rfl,unhide HOWN _,unhide HG _⟩)
end
end Go.Proofs.YtdpomdelmdofmaaGreatDoor

namespace Go.Proofs.YtdpomdelmdofmaaGreatDoor
open Go.RowKit Go.Maps
section
variable {w:World} {b:Nat} {pth:Value} {key:Sp.By} {i:Nat}
theorem del_runs {m n:Nat} {D:List (Lit × DataW Value)} (hk:key.length ≤ 1048576) (ho:w.ownsMap Tryz.prog 9 RV m n (.map D)) (x:Obj × TypeId) :
  ∃ w3,(Builtin.delete_ #[109,9] x.2 #[.map (some m),.string ⟨key.toArray⟩]).run Tryz.prog ((w.alloc x.1).drew) = .ok (.tuple #[]) w3 ∧ w3.ownsMap Tryz.prog 9 RV m n (DataW.del (.map D) (.string key)) ∧ w.grownBy w3 (some m):=by
 have h0:((w.alloc x.1).drew).ownsMap Tryz.prog 9 RV m n (.map D):=(ho.alloc x.1).drew
 obtain ⟨w3,hrun,h1,h2⟩:=h0.drop mlaw Tryz.underlying109 (tkey key hk) x.2
 have h3:=World.grownBy_alloc w x.1 none
 have h4:w.grownBy ((w.alloc x.1).drew) none:=⟨h3.os,h3.tape,h3.output,h3.size,h3.block⟩
 have h5:=h2.grown
 refine ⟨w3,hrun,h1,?_⟩
 exact ⟨h5.os.trans h4.os,h5.tape.trans h4.tape,h5.output.trans h4.output,Nat.le_trans h4.size h5.size,fun j hj hne=>(h5.block j (Nat.lt_of_lt_of_le hj h4.size) hne).trans (h4.block j hj (by simp))⟩
set_option maxRecDepth 100000 in
set_option maxHeartbeats 4000000 in
theorem remove_obj {m n:Nat} {D:List (Lit × DataW Value)} (hk:key.length ≤ 1048576) (h:VB w b 6 n0 [] (.slice none 0 0) (.map (some m))) (ho:w.ownsMap Tryz.prog 9 RV m n (.map D)) :
  Calls Tryz.prog 246 #[plV pth b key i] w fun e w'=>e = .returned (.tuple #[]) ∧ w'.ownsMap Tryz.prog 9 RV m n (DataW.del (.map D) (.string key)) ∧ w.grownBy w' (some m):=by
 have hbl:=h.lt
 have q0:∀ o,(w.alloc o).cell? ⟨b,0,none⟩ = some (.int .i64 6):=fun o=>(World.cell?_of_block (w:=w) (Below.heap_alloc w o b hbl)).trans h.c0
 have q6:∀ o,(w.alloc o).cell? ⟨b,6,none⟩ = some (.map (some m)):=fun o=>(World.cell?_of_block (w:=w) (Below.heap_alloc w o b hbl)).trans h.c6
 have HU:=del_runs hk ho
 clear h ho
 obtain ⟨W,hW⟩:=Classical.axiomOfChoice HU
 have hrun:∀ o ty,(Builtin.delete_ #[109,9] ty #[.map (some m),.string ⟨key.toArray⟩]).run Tryz.prog ((w.alloc o).drew) = .ok (.tuple #[]) (W (o,ty)):=fun o ty=>(hW (o,ty)).1
 have HOWN:=hide (fun x=>(hW x).2.1)
 have HG:=hide (fun x=>(hW x).2.2)
 clear hW HU
 go_enter Tryz.func246,Tryz.ntmps246
 go_wp2_with (fail)
 go_region_law (fail)
 all_goals (
  go_wp2_with (fail)
  exact bodyPost_ret (results_none rfl _ _ _) rfl ⟨rfl,unhide HOWN _,unhide HG _⟩)
end
end Go.Proofs.YtdpomdelmdofmaaGreatDoor

namespace Go.Proofs.YtdpomdelmdofmaaGreatDoor
open Go.RowKit Go.Maps
def slotV (r:Except Nat Nat):Value:=match r with
 | .ok i=>.tuple #[.int .i64 i,.int .i64 0]
 | .error c=>.tuple #[.int .i64 0,.int .i64 c]
set_option maxHeartbeats 4000000 in
theorem slot_any {w:World} {b:Nat} {t:Sp.By} {sl:Value} {ps:List Value} (ht:t.length ≤ 1048576) (hr:Rng w) (h:VB w b 5 n0 [] sl (.map none)) (ho:w.ownsRow 0 80 1 sl ps.length ps) :
  Calls Tryz.prog 244 #[.pointer (some ⟨b,0,none⟩),.string ⟨t.toArray⟩] w fun e w'=>e = .returned (slotV (Sp.slot ps.length t)) ∧ Below w.heap.size w w':=by
 have c5:=h.c5
 have hI:=hide (Index_any t w ht hr)
 have hmx:=owns_max ho
 obtain ⟨N,hN⟩:∃ N,N = ps.length:=⟨_,rfl⟩
 obtain ⟨a,c,rfl⟩:=slice_form ho
 obtain ⟨V,hV⟩:∃ V,V = slotV (Sp.slot ps.length t):=⟨_,rfl⟩
 rw [← hV]
 rw [← hN] at c5 hV hmx
 have hn1:(N:Int) ≤ 9223372036854775807:=by unfold maxLen at hmx; omega
 by_cases hd:t = [45]
 ·have HV:=hide (show V = .tuple #[.int .i64 N,.int .i64 0] by rw [hV,Sp.slot,if_pos hd]; rfl)
  have e1:(t == [45]) = true:=by rw [hd]; rfl
  have e2:(t != [45]) = false:=by rw [hd]; rfl
  clear h ho hN hV hd hmx
  go_enter Tryz.func244,Tryz.ntmps244
  go_wp2_with (fail)
  go_ret2
  exact ⟨by rw [unhide HV]; rfl,Below.refl _ _⟩
 ·have e1:(t == [45]) = false:=by simpa using hd
  have e2:(t != [45]) = true:=by simpa using hd
  cases hi:Sp.idx t with
  | none =>
   have HV:=hide (show V = .tuple #[.int .i64 0,.int .i64 12] by rw [hV,Sp.slot,if_neg hd,hi]; rfl)
   rw [hi] at hI
   clear h ho hN hV hd hi hmx
   go_enter Tryz.func244,Tryz.ntmps244
   go_wp2_with (fail)
   refine (unhide hI).mono ?_
   rintro e w2 ⟨rfl,hb⟩
   unfold idxV
   go_wp2_with (fail)
   go_ret2
   exact ⟨by rw [unhide HV]; rfl,hb⟩
  | some i =>
   rw [hi] at hI
   by_cases hlt:N < i
   ·have HV:=hide (show V = .tuple #[.int .i64 0,.int .i64 11] by rw [hV,Sp.slot,if_neg hd,hi]; simp only; rw [if_pos hlt]; rfl)
    have hl2:(N:Int) < (i:Int):=by omega
    clear h ho hN hV hd hi hmx
    go_enter Tryz.func244,Tryz.ntmps244
    go_wp2_with (fail)
    refine (unhide hI).mono ?_
    rintro e w2 ⟨rfl,hb⟩
    unfold idxV
    go_wp2_with (fail)
    go_ret2
    exact ⟨by rw [unhide HV]; rfl,hb⟩
   ·have HV:=hide (show V = .tuple #[.int .i64 i,.int .i64 0] by rw [hV,Sp.slot,if_neg hd,hi]; simp only; rw [if_neg hlt]; rfl)
    have hl2:¬ (N:Int) < (i:Int):=by omega
    clear h ho hN hV hd hi hmx
    go_enter Tryz.func244,Tryz.ntmps244
    go_wp2_with (fail)
    refine (unhide hI).mono ?_
    rintro e w2 ⟨rfl,hb⟩
    unfold idxV
    go_wp2_with (fail)
    go_ret2
    exact ⟨by rw [unhide HV]; rfl,hb⟩
end Go.Proofs.YtdpomdelmdofmaaGreatDoor
