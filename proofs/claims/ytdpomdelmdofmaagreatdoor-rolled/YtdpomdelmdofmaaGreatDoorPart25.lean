/-
  Walks of a place in an array: remove, insert.
-/
import Derived.Test.YtdpomdelmdofmaaGreatDoorPart23
import Derived.Test.YtdpomdelmdofmaaGreatDoorPart24
import Derived.Deep.RegionHeld3
import Derived.Deep.DrawnRows
import Derived.Test.YtdpomdelmdofmaaGreatDoorPart20
import Derived.Test.YtdpomdelmdofmaaGreatDoorPart16
import Derived.Laws.MakeOwn
import Derived.Laws.OwnMore
namespace Go.Proofs.YtdpomdelmdofmaaGreatDoor
open Go.RowKit Go.Maps
attribute [local go_sem ↓] Go.wp_at_zero Go.wp_at_succ
theorem VB.set5 {w:World} {b:Nat} {k:Int} {n:Sp.Nm} {s:Sp.By} {sl mp:Value} (h:VB w b k n s sl mp) (v:Value):VB (w.setCell ⟨b,5,none⟩ v) b k n s v mp:=by
 simp only [VB,World.setCell,Array.getElem?_modify]
 rw [if_pos trivial,show w.heap[b]? = _ from h]; rfl
theorem VB.z {w:World} {b:Nat} {k:Int} {n:Sp.Nm} {s:Sp.By} {sl mp:Value} (h:VB w b k n s sl mp) (o:Nat):w.frozen? ⟨b,o,none⟩ = false:=by simp [World.frozen?,show w.heap[b]? = _ from h]
def ArrEnd (b:Nat) (sl:Value) (l':List (Option Addr)) (w:World) (e:Ending) (w':World):Prop :=
 e = .returned (.tuple #[]) ∧ ∃ g cap,VB w' b 5 n0 [] (.slice (some ⟨g,0,none⟩) l'.length cap) (.map none) ∧ w'.ownsRow 0 80 1 (.slice (some ⟨g,0,none⟩) l'.length cap) l'.length (l'.map Value.pointer) ∧
  (sl.ownBlock = some g ∨ w.heap.size ≤ g) ∧ KeptF (fun k=>k = b ∨ sl.ownBlock = some k) w w'
theorem ArrEnd.of {b:Nat} {sl:Value} {l':List (Option Addr)} {w w1 w2:World} {g cap n:Nat} (hn:n = l'.length) (hg:b ≠ g) (h1:VB w1 b 5 n0 [] sl (.map none)) (hB:Below w.heap.size w w1) (ho:w2.ownsRow 0 80 1 (.slice (some ⟨g,0,none⟩) n cap) n (l'.map Value.pointer)) (hk:w1.grownBy w2 sl.ownBlock) (hbs:sl.ownBlock ≠ some b) (hor:sl.ownBlock = some g ∨ w.heap.size ≤ g) :
  ArrEnd b sl l' w (.returned (.tuple #[])) (w2.setCell ⟨b,5,none⟩ (.slice (some ⟨g,0,none⟩) n cap)):=by
 subst hn
 have h2:VB w2 b 5 n0 [] sl (.map none):=h1.kept (hk.block b h1.lt (fun e=>hbs e.symm))
 refine ⟨rfl,g,cap,h2.set5 _,owns_kept ho fun k hk2=>?_,hor,?_⟩
 ·simp [Value.ownBlock] at hk2
  exact Below.heap_setCell _ _ _ _ (by show k ≠ b; omega)
 ·have h3:KeptF (fun k=>k = b ∨ sl.ownBlock = some k) w w1:=KeptF.of_below hB
  have h4:KeptF (fun k=>k = b ∨ sl.ownBlock = some k) w w2:=h3.trans (F':=fun k=>sl.ownBlock = some k) ⟨hk.os,hk.tape,hk.output,hk.size,fun k hk2 hne=>hk.block k hk2 (fun e=>hne e.symm)⟩ fun k _ h=>Or.inr h
  exact h4.setCell (p:=⟨b,5,none⟩) (Or.inl (Or.inl rfl)) _
section
variable {w:World} {b:Nat} {pth:Value} {key:Sp.By} {i:Nat}
set_option maxRecDepth 100000 in
set_option maxHeartbeats 4000000 in
theorem remove_arr {sl:Value} {l:List (Option Addr)} (h:VB w b 5 n0 [] sl (.map none)) (ho:w.ownsRow 0 80 1 sl l.length (l.map Value.pointer)) (hi:i < l.length) (hbs:sl.ownBlock ≠ some b) :
  Calls Tryz.prog 246 #[plV pth b key i] w (ArrEnd b sl (Sp.ldel i l) w):=by
 have hbl:=h.lt
 have q0:∀ o,(w.alloc o).cell? ⟨b,0,none⟩ = some (.int .i64 5):=fun o=>(World.cell?_of_block (w:=w) (Below.heap_alloc w o b hbl)).trans h.c0
 have q5:∀ o,(w.alloc o).cell? ⟨b,5,none⟩ = some sl:=fun o=>(World.cell?_of_block (w:=w) (Below.heap_alloc w o b hbl)).trans h.c5
 have hmx:=owns_max ho
 have hwr:IntKind.i64.wrap ((i:Int) + 1) = ((i + 1:Nat):Int):=by rw [IntKind.wrap_i64]; unfold maxLen at hmx; omega
 have HO:=hide ho
 have HV:=hide h
 have HI:=hide hi
 have HBS:=hide hbs
 have hlen:l.length - 1 = (Sp.ldel i l).length:=by have:=Sp.len_ldel hi; omega
 clear h ho hi hbs hmx
 go_enter Tryz.func246,Tryz.ntmps246
 go_wp2_with (fail)
 have hbx:=heap_alloc_new w (.cells #[pth,.pointer (some ⟨b,0,none⟩),.string ⟨key.toArray⟩,.int .i64 i] 185)
 have hba:=(Below.refl w.heap.size w).alloc (Nat.le_refl _) (.cells #[pth,.pointer (some ⟨b,0,none⟩),.string ⟨key.toArray⟩,.int .i64 i] 185)
 generalize w.alloc (.cells #[pth,.pointer (some ⟨b,0,none⟩),.string ⟨key.toArray⟩,.int .i64 i] 185) = wa at *
 clear q0 q5
 have hva:VB wa b 5 n0 [] sl (.map none):=(unhide HV).kept (hba.block b hbl)
 have b1:wa.cell? ⟨w.heap.size,1,none⟩ = some (.pointer (some ⟨b,0,none⟩)):=by simp [World.cell?,hbx]
 have b3:wa.cell? ⟨w.heap.size,3,none⟩ = some (.int .i64 i):=by simp [World.cell?,hbx]
 have b5:=hva.c5
 have hoa:=owns_kept (unhide HO) fun g hg=>hba.block g (owns_lt (unhide HO) g hg).1
 obtain ⟨g,cap,hsl,hc⟩:=slDel (i:=i) (show (wa.drew).ownsRow 0 80 1 sl l.length (l.map Value.pointer) from hoa) (unhide HI)
 have hsl2:sl.ownBlock = some g:=by rw [hsl]; rfl
 have hbg:b ≠ g:=fun e=>unhide HBS (by rw [hsl2,e])
 have hgl:g < w.heap.size:=(owns_lt (unhide HO) g hsl2).1
 have hbxl:w.heap.size < wa.heap.size:=(Array.getElem?_eq_some_iff.1 hbx).1
 have HC:=hide (hc.mono (R':=fun e w2=>e = .returned (.slice (some ⟨g,0,none⟩) (l.length - 1) cap) ∧ w2.cell? ⟨w.heap.size,1,none⟩ = some (.pointer (some ⟨b,0,none⟩)) ∧ w2.cell? ⟨w.heap.size,3,none⟩ = some (.int .i64 i) ∧ w2.cell? ⟨b,5,none⟩ = some sl ∧ w2.frozen? ⟨b,5,none⟩ = false ∧ ArrEnd b sl (Sp.ldel i l) w (.returned (.tuple #[])) (w2.setCell ⟨b,5,none⟩ (.slice (some ⟨g,0,none⟩) (l.length - 1) cap))) (by
  rintro e w2 ⟨rfl,ho2,hk2⟩
  have hkb:w2.heap[b]? = wa.heap[b]?:=hk2.block b hva.lt (fun e=>hbg (Option.some.inj e))
  have hkx:w2.heap[w.heap.size]? = wa.heap[w.heap.size]?:=hk2.block _ hbxl (fun e=>by have:=Option.some.inj e; omega)
  have hv2:VB w2 b 5 n0 [] sl (.map none):=hva.kept hkb
  refine ⟨rfl,(World.cell?_of_block (a:=⟨w.heap.size,1,none⟩) hkx).trans b1,(World.cell?_of_block (a:=⟨w.heap.size,3,none⟩) hkx).trans b3,hv2.c5,hv2.z 5,?_⟩
  exact ArrEnd.of hlen hbg hva hba ho2 (by rw [hsl2]; exact ⟨hk2.os,hk2.tape,hk2.output,hk2.size,hk2.block⟩) (unhide HBS) (Or.inl hsl2)))
 clear hc hoa hbx hba hva HV HO HI HBS hlen hsl2 hgl hbxl hbg hsl
 have hn1:¬ w.heap.size = b:=by omega
 have hn2:¬ b = w.heap.size:=by omega
 clear hbl
 go_region_with (go_at_call 290; refine (unhide HC).mono ?_; rintro e w2 ⟨rfl,k1,k3,k5,kz,kend⟩; have KEND:=hide kend; clear kend)
 all_goals exact bodyPost_end (results_none rfl _ _ _) rfl (unhide KEND)
end
end Go.Proofs.YtdpomdelmdofmaaGreatDoor

namespace Go.Proofs.YtdpomdelmdofmaaGreatDoor
open Go.RowKit Go.Maps
attribute [local go_sem ↓] Go.wp_at_zero Go.wp_at_succ
section
variable {w:World} {b:Nat} {pth:Value} {key:Sp.By} {i:Nat}
set_option maxRecDepth 100000 in
set_option maxHeartbeats 4000000 in
theorem insert_arr {sl:Value} {l:List (Option Addr)} {x:Option Addr} (h:VB w b 5 n0 [] sl (.map none)) (ho:w.ownsRow 0 80 1 sl l.length (l.map Value.pointer)) (hi:i ≤ l.length) (hb:l.length ≤ 1000000000000) (hbs:sl.ownBlock ≠ some b) :
  Calls Tryz.prog 249 #[plV pth b key i,.pointer x] w (ArrEnd b sl (Sp.lins i x l) w):=by
 have hbl:=h.lt
 have q0:∀ o,(w.alloc o).cell? ⟨b,0,none⟩ = some (.int .i64 5):=fun o=>(World.cell?_of_block (w:=w) (Below.heap_alloc w o b hbl)).trans h.c0
 have q5:∀ o,(w.alloc o).cell? ⟨b,5,none⟩ = some sl:=fun o=>(World.cell?_of_block (w:=w) (Below.heap_alloc w o b hbl)).trans h.c5
 have HO:=hide ho
 have HV:=hide h
 have HI:=hide hi
 have HBS:=hide hbs
 have hlen:l.length + 1 = (Sp.lins i x l).length:=(Sp.len_lins x hi).symm
 clear h ho hi hbs
 go_enter Tryz.func249,Tryz.ntmps249
 go_wp2_with (fail)
 have hbx:=heap_alloc_new w (.cells #[pth,.pointer (some ⟨b,0,none⟩),.string ⟨key.toArray⟩,.int .i64 i] 185)
 have hba:=(Below.refl w.heap.size w).alloc (Nat.le_refl _) (.cells #[pth,.pointer (some ⟨b,0,none⟩),.string ⟨key.toArray⟩,.int .i64 i] 185)
 generalize w.alloc (.cells #[pth,.pointer (some ⟨b,0,none⟩),.string ⟨key.toArray⟩,.int .i64 i] 185) = wa at *
 clear q0 q5
 have hva:VB wa b 5 n0 [] sl (.map none):=(unhide HV).kept (hba.block b hbl)
 have b1:wa.cell? ⟨w.heap.size,1,none⟩ = some (.pointer (some ⟨b,0,none⟩)):=by simp [World.cell?,hbx]
 have b3:wa.cell? ⟨w.heap.size,3,none⟩ = some (.int .i64 i):=by simp [World.cell?,hbx]
 have b5:=hva.c5
 have hoa:=owns_kept (unhide HO) fun g hg=>hba.block g (owns_lt (unhide HO) g hg).1
 have hbxl:w.heap.size < wa.heap.size:=(Array.getElem?_eq_some_iff.1 hbx).1
 have HC:=hide (show ∀ W:World,W.heap = (wa.alloc (.cells #[.pointer x] 80)).heap → W.os = wa.os → W.tape = wa.tape → W.output = wa.output → Calls Tryz.prog 291 #[sl,.int .i64 i,.slice (some ⟨wa.heap.size,0,none⟩) 1 1] W fun e w2=>∃ g cap,e = .returned (.slice (some ⟨g,0,none⟩) (l.length + 1) cap) ∧ w2.cell? ⟨w.heap.size,1,none⟩ = some (.pointer (some ⟨b,0,none⟩)) ∧ w2.cell? ⟨w.heap.size,3,none⟩ = some (.int .i64 i) ∧ w2.cell? ⟨b,5,none⟩ = some sl ∧ w2.frozen? ⟨b,5,none⟩ = false ∧ Hid (ArrEnd b sl (Sp.lins i x l) w (.returned (.tuple #[])) (w2.setCell ⟨b,5,none⟩ (.slice (some ⟨g,0,none⟩) (l.length + 1) cap))) from fun W hW e1 e2 e3=>by
  have hold:∀ k,k < wa.heap.size → W.heap[k]? = wa.heap[k]?:=fun k hk=>by rw [hW]; exact Below.heap_alloc wa _ k hk
  have hnew:W.heap[wa.heap.size]? = some (.cells #[.pointer x] 80 (0,0)):=by rw [hW]; exact heap_alloc_new wa _
  have hWs:wa.heap.size < W.heap.size:=(Array.getElem?_eq_some_iff.1 hnew).1
  have hoW:=owns_kept (w':=W) hoa fun g hg=>hold g (owns_lt hoa g hg).1
  refine (slIns hoW hnew (fun e=>by have:=(owns_lt hoa _ e).1; omega) (unhide HI) hb).mono ?_
  rintro e w2 ⟨g,cap,rfl,ho2,hk2,hor⟩
  have hne:∀ k,k < wa.heap.size → sl.ownBlock ≠ some k → w2.heap[k]? = wa.heap[k]?:=fun k hk hn=>(hk2.block k (by omega) (fun e=>hn e.symm)).trans (hold k hk)
  have hkb:=hne b hva.lt (unhide HBS)
  have hkx:=hne w.heap.size hbxl (fun e=>by have:=(owns_lt (unhide HO) _ e).1; omega)
  have hv2:VB w2 b 5 n0 [] sl (.map none):=hva.kept hkb
  refine ⟨g,cap,rfl,(World.cell?_of_block (a:=⟨w.heap.size,1,none⟩) hkx).trans b1,(World.cell?_of_block (a:=⟨w.heap.size,3,none⟩) hkx).trans b3,hv2.c5,hv2.z 5,?_⟩
  have hbg:b ≠ g:=fun e=>by
   rcases hor with h | h
   ·exact unhide HBS (by rw [h,e])
   ·have:=hva.lt; omega
  refine ArrEnd.of hlen hbg hva hba ho2 ⟨hk2.os.trans e1,hk2.tape.trans e2,hk2.output.trans e3,by have:=hk2.size; omega,fun k hk hn=>hne k hk (fun e=>hn e.symm)⟩ (unhide HBS) (hor.imp id fun h=>by have:=hba.size; omega))
 have d1:∀ o,(wa.alloc o).cell? ⟨w.heap.size,1,none⟩ = some (.pointer (some ⟨b,0,none⟩)):=fun o=>(World.cell?_of_block (a:=⟨w.heap.size,1,none⟩) (Below.heap_alloc wa o _ hbxl)).trans b1
 have d3:∀ o,(wa.alloc o).cell? ⟨w.heap.size,3,none⟩ = some (.int .i64 i):=fun o=>(World.cell?_of_block (a:=⟨w.heap.size,3,none⟩) (Below.heap_alloc wa o _ hbxl)).trans b3
 have d5:∀ o,(wa.alloc o).cell? ⟨b,5,none⟩ = some sl:=fun o=>(World.cell?_of_block (a:=⟨b,5,none⟩) (Below.heap_alloc wa o _ hva.lt)).trans b5
 clear hoa hbx hba hva HV HO HI HBS hlen
 have hn1:¬ w.heap.size = b:=by omega
 have hn2:¬ b = w.heap.size:=by omega
 clear hbl
 go_region_with (go_at_call 291; refine (unhide HC _ (by rfl) (by rfl) (by rfl) (by rfl)).mono ?_; rintro e w2 ⟨g,cap,rfl,k1,k3,k5,kz,KEND⟩)
 all_goals exact bodyPost_end (results_none rfl _ _ _) rfl (unhide KEND)
end
end Go.Proofs.YtdpomdelmdofmaaGreatDoor

namespace Go.Proofs.YtdpomdelmdofmaaGreatDoor
open Go.RowKit Go.Maps
namespace Sp
theorem dmax_nn:∀ l,0 ≤ dmax l
 | []=>Int.le_refl _
 | x :: r=>by have:=dmax_nn r; simp only [dmax]; omega
theorem dmax_snoc (x:Int):∀ l,dmax (l ++ [x]) = max (dmax l) x
 | []=>by simp only [List.nil_append,dmax]; omega
 | y :: r=>by have:=dmax_snoc x r; simp only [List.cons_append,dmax]; omega
theorem dmax_le {m:Int} (h0:0 ≤ m):∀ {l:List Int},(∀ x ∈ l,x ≤ m) → dmax l ≤ m
 | [],_=>h0
 | x :: r,h=>by
  have h1:=h x (by simp)
  have h2:=dmax_le h0 (l:=r) (fun y hy=>h y (by simp [hy]))
  simp only [dmax]; omega
theorem le_dmax {x:Int}:∀ {l:List Int},x ∈ l → x ≤ dmax l
 | y :: r,h=>by
  rcases List.mem_cons.1 h with rfl | h
  ·simp only [dmax]; omega
  ·have:=le_dmax h; simp only [dmax]; omega
theorem dep_arr (f:Nat) (es:List V):dep (f + 1) (vArr es) = 1 + dmax (es.map (dep f)):=rfl
theorem dep_obj (f:Nat) (es:List (Lit × V)):dep (f + 1) (vObj es) = 1 + dmax (es.map fun p=>dep f p.2):=rfl
theorem dep_le:∀ (f:Nat) (d:V),0 ≤ dep f d ∧ dep f d ≤ f
 | 0,_=>⟨Int.le_refl _,Int.le_refl _⟩
 | f + 1,d=>by
  unfold dep
  split
  ·rename_i es _
   have h1:=dmax_nn (es.map (dep f))
   have h2:=dmax_le (m:=f) (by omega) (l:=es.map (dep f)) (fun x hx=>by
    obtain ⟨y,_,rfl⟩:=List.mem_map.1 hx
    exact (dep_le f y).2)
   omega
  ·rename_i es
   have h1:=dmax_nn (es.map fun p=>dep f p.2)
   have h2:=dmax_le (m:=f) (by omega) (l:=es.map fun p=>dep f p.2) (fun x hx=>by
    obtain ⟨y,_,rfl⟩:=List.mem_map.1 hx
    exact (dep_le f y.2).2)
   omega
  ·omega
end Sp
theorem at_mem {es:List (Lit × Sp.V)} {k:Lit} (h:Maps.has (.map es:DataW Unit) k = true):∃ p ∈ es,(DataW.map es).atKey k .nil = p.2:=by
 rw [atKey_def]
 cases hf:es.find? (fun p=>p.1.sameKey k) with
 | none =>
  obtain ⟨p,hp,hs⟩:=List.any_eq_true.1 (show es.any (fun p=>p.1.sameKey k) = true from h)
  exact absurd hs (by simpa using List.find?_eq_none.1 hf p hp)
 | some p=>exact ⟨p,List.mem_of_find?_eq_some hf,rfl⟩
theorem all_at {es:List (Lit × Sp.V)} (c:Maps.Canon (.map es:DataW Unit)) {P:Sp.V → Prop} (h:∀ k,Maps.has (.map es:DataW Unit) k = true → P ((DataW.map es).atKey k .nil)):∀ p ∈ es,P p.2:=by
 obtain ⟨_,he,hp,hk⟩:=c
 injection he with he
 subst he
 intro p hpm
 have h1:=h p.1 (List.any_eq_true.2 ⟨p,hpm,WideAt.sameKey_self (hk p hpm)⟩)
 rwa [WideAt.atKey_mem .nil (hk p hpm) (apart_of_rising hp) (show (p.1,p.2) ∈ es from hpm)] at h1
def DepOk (f:Nat):Prop:=∀ (F:Nat → Prop) (w:World) (v:Value) (a:Sp.V),Rep f F w v a → Calls Tryz.prog 157 #[v] w fun e w'=>e = .returned (.int .i64 (Sp.dep f a)) ∧ Below w.heap.size w w'
section
variable {w:World} {b:Nat}
set_option maxHeartbeats 4000000 in
theorem dep_leaf {k:Int} {n:Sp.Nm} {s:Sp.By} {sl mp:Value} (h:VB w b k n s sl mp) (h5:k ≠ 5) (h6:k ≠ 6) :
  Calls Tryz.prog 157 #[.pointer (some ⟨b,0,none⟩)] w fun e w'=>e = .returned (.int .i64 1) ∧ Below w.heap.size w w':=by
 have c0:=h.c0
 have e5:(k == 5) = false:=beq_eq_false_iff_ne.2 h5
 have e6:(k == 6) = false:=beq_eq_false_iff_ne.2 h6
 clear h h5 h6
 go_enter Tryz.func157,Tryz.ntmps157
 go_wp2_with (fail)
 go_ret
 exact ⟨rfl,Below.refl _ _⟩
set_option maxRecDepth 100000 in
set_option maxHeartbeats 8000000 in
theorem dep_walkA {f:Nat} (hS:DepOk f) (hf:f ≤ 5000) {F:Nat → Prop} {sl:Value} {ps:List Value} {es:List Sp.V} (h:VB w b 5 n0 [] sl (.map none)) (ho:w.ownsRow 0 80 1 sl ps.length ps) (ha:Al (Rep f F w) ps es) :
  Calls Tryz.prog 157 #[.pointer (some ⟨b,0,none⟩)] w fun e w'=>e = .returned (.int .i64 (1 + Sp.dmax (es.map (Sp.dep f)))) ∧ Below w.heap.size w w':=by
 have c0:=h.c0
 have c5:=h.c5
 have hl:=ha.length
 have hmx:=owns_max ho
 obtain ⟨N,hN⟩:∃ N,N = ps.length:=⟨_,rfl⟩
 have hn1:(N:Int) ≤ 9223372036854775807:=by unfold maxLen at hmx; omega
 by_cases h0:N = 0
 ·obtain ⟨a,c,rfl⟩:=slice_nil ho (by omega)
  have e1:es = []:=List.eq_nil_of_length_eq_zero (by omega)
  subst e1
  clear h ho ha hl hS hN hmx
  go_enter Tryz.func157,Tryz.ntmps157
  go_wp2_with (fail)
  refine wp_loop_rounds 1 ?_
  rw [rounds_succ]
  go_wp2_with (fail)
  go_ret
  exact ⟨rfl,Below.refl _ _⟩
 ·obtain ⟨g1,p1,rfl,a1,b1,l1,hc1⟩:=owns_cell1 ho (by omega)
  have HC1:=hide hc1
  have HA:=hide ha
  have HS:=hide hS
  have HN:=hide hN
  have HL:=hide hl
  have HF:=hide hf
  rw [← hN] at a1 c5
  clear h ho ha hl hS hN hc1 h0 hmx hf
  go_enter Tryz.func157,Tryz.ntmps157
  go_wp2_with (fail)
  go_loopw [3,19] (fun dv i wr=>∃ k:Nat,k ≤ N ∧ i = .int .i64 k ∧ dv = .int .i64 (Sp.dmax ((es.map (Sp.dep f)).take k)) ∧ Below w.heap.size w wr) (fun _ i _=>N - (intOf i).toNat)
  case atStart=>exact ⟨0,by omega,rfl,rfl,Below.refl _ _⟩
  case round =>
   obtain ⟨k,hk,rfl,rfl,hb⟩:=hrel
   have HB:=hide hb
   by_cases hlt:k < N
   ·have h1:k < ps.length:=by have:=unhide HN; omega
    have h3:k < es.length:=by have:=unhide HL; omega
    have q1:=(hb.cell (p:=⟨g1,k,none⟩) l1).trans (unhide HC1 k h1)
    have hcall:=hide (unhide HS F wr ps[k] es[k] (((unhide HA).get k h1 h3).bel hb))
    have HST:=hide (show Sp.dmax ((es.map (Sp.dep f)).take (k + 1)) = max (Sp.dmax ((es.map (Sp.dep f)).take k)) (Sp.dep f es[k]) from by
     rw [List.take_succ_eq_append_getElem (by simpa using h3),Sp.dmax_snoc,List.getElem_map])
    generalize ps[k] = pk at *
    generalize Sp.dmax ((es.map (Sp.dep f)).take k) = M at *
    generalize Sp.dep f es[k] = x at *
    clear hb
    go_wp2_with (fail)
    refine (unhide hcall).mono ?_
    rintro e w2 ⟨rfl,hb2⟩
    have HB2:=hide ((unhide HB).trans (hb2.mono (unhide HB).size))
    clear hb2 hcall
    go_wp2_with (fail)
    exact ⟨⟨k + 1,by omega,by go_num,by rw [unhide HST],unhide HB2⟩,by simp only [intOf]; omega⟩
   ·have hall:(es.map (Sp.dep f)).take k = es.map (Sp.dep f):=List.take_of_length_le (by have:=unhide HN; have:=unhide HL; simp only [List.length_map]; omega)
    rw [hall]
    have m1:=Sp.dmax_nn (es.map (Sp.dep f))
    have m2:Sp.dmax (es.map (Sp.dep f)) ≤ 5000:=Sp.dmax_le (by omega) (fun x hx=>by
     obtain ⟨y,_,rfl⟩:=List.mem_map.1 hx
     have:=(Sp.dep_le f y).2
     have:=unhide HF
     omega)
    obtain ⟨M,hM⟩:∃ M,M = Sp.dmax (es.map (Sp.dep f)):=⟨_,rfl⟩
    rw [← hM] at m1 m2 ⊢
    have HM:=hide hM
    clear hall hM
    go_wp2_with (fail)
    go_ret
    exact ⟨by rw [← unhide HM]; rfl,hb⟩
set_option maxRecDepth 100000 in
set_option maxHeartbeats 8000000 in
theorem dep_walkO {f:Nat} (hS:DepOk f) (hf:f ≤ 5000) {F:Nat → Prop} {m n:Nat} {D:List (Lit × DataW Value)} {es:List (Lit × Sp.V)} (h:VB w b 6 n0 [] (.slice none 0 0) (.map (some m))) (ho:w.ownsMap Tryz.prog 9 RV m n (.map D)) (hp:Pt (Rep f F w) D es) :
  Calls Tryz.prog 157 #[.pointer (some ⟨b,0,none⟩)] w fun e w'=>e = .returned (.int .i64 (1 + Sp.dmax (es.map fun p=>Sp.dep f p.2))) ∧ Below w.heap.size w w':=by
 have hml:=mlaw
 have hmz:=mzero
 have c0:=h.c0
 have c6:=h.c6
 have C1:=hide (hp.canon (ho.canon hml))
 have HP:=hide hp
 have HS:=hide hS
 have HF:=hide hf
 clear hp hS h hf
 go_enter Tryz.func157,Tryz.ntmps157
 go_wp2_with (first
  | (at_range; refine wpList_range_own _ rfl _ 109 rfl 9 80 hml Tryz.underlying109 RV m n _ rfl ho ?_; intro w0 hrg0 hg0 hs0)
  | go_in)
 go_frame
 go_loopw [3] (fun dv wr=>∃ (left:Lit → Bool) (cnt:Nat) (M:Int),dv = .int .i64 M ∧ 0 ≤ M ∧ M ≤ Sp.dmax (es.map fun p=>Sp.dep f p.2) ∧ wr.ranges Tryz.prog 9 RV m w.heap.size n (.map D) left cnt ∧ w.grownBy wr none ∧
   Hid (∀ k,Maps.has (.map es:DataW Unit) k = true → left k = false → Sp.dep f ((DataW.map es).atKey k .nil) ≤ M))
  (fun _ wr=>wr.rangeLeft m w.heap.size)
 case atStart =>
  refine ⟨_,_,0,rfl,Int.le_refl _,Sp.dmax_nn _,hrg0,hg0,?_⟩
  intro k hk hl
  rw [(unhide HP).has k,hk] at hl
  cases hl
 case round =>
  obtain ⟨left,cnt,M,rfl,hM0,hM1,hrg,hgw,G⟩:=hrel
  have HM1:=hide hM1
  clear hM1
  go_wp2_with (first
   | (at_next; refine wpList_next_ranges _ rfl _ rfl 9 hml RV id id (fun key _ _=>⟨key,rfl⟩) (fun v _ _=>⟨v,rfl⟩) m w.heap.size n _ _ _ rfl hrg ?_ ?_)
   | go_in)
  ·intro _ hl0
   have HV:=hide (show M = Sp.dmax (es.map fun p=>Sp.dep f p.2) from Int.le_antisymm (unhide HM1) (Sp.dmax_le hM0 (fun x hx=>by
    obtain ⟨p,hpm,rfl⟩:=List.mem_map.1 hx
    exact all_at (unhide C1) (P:=fun d=>Sp.dep f d ≤ M) (fun k hk=>unhide G k hk (hl0 k)) p hpm)))
   have m2:M ≤ 5000:=by
    have h1:=unhide HM1
    have h2:Sp.dmax (es.map fun p=>Sp.dep f p.2) ≤ 5000:=Sp.dmax_le (by omega) (fun x hx=>by
     obtain ⟨y,_,rfl⟩:=List.mem_map.1 hx
     have:=(Sp.dep_le f y.2).2
     have:=unhide HF
     omega)
    omega
   go_wp2_with (fail)
   go_ret
   exact ⟨by rw [← unhide HV]; rfl,below_of_grown hgw⟩
  ·intro x c kl yd yp w1 cnt1 hkey hlx hv hat hrg1 hlt hg1 hs1 hen
   have hgw1:w.grownBy w1 none:=hgw.andThen hg1 (fun j hj=>by cases hj; exact Or.inl (Nat.le_refl _))
   have hv2:DataW.held c = yd:=congrArg Prod.fst (Option.some.inj hv)
   subst hv2
   have hasD:Maps.has (.map D) kl = true:=has_true_of_atKey hat
   obtain ⟨c',e1,hrep⟩:=(unhide HP).at kl hasD
   have e2:c' = c:=by
    have e3:=(e1 .nil).symm.trans (hat .nil)
    injection e3
   subst e2
   have hasE:Maps.has (.map es:DataW Unit) kl = true:=by rw [← (unhide HP).has kl]; exact hasD
   have hcall:=hide (unhide HS F w1 c' _ (hrep.bel (below_of_grown hgw1)))
   have HX:=hide (show Sp.dep f ((DataW.map es).atKey kl .nil) ≤ Sp.dmax (es.map fun p=>Sp.dep f p.2) from by
    obtain ⟨p,hpm,e⟩:=at_mem hasE
    rw [e]
    exact Sp.le_dmax (List.mem_map.2 ⟨p,hpm,rfl⟩))
   obtain ⟨y,hy⟩:∃ y,y = Sp.dep f ((DataW.map es).atKey kl .nil):=⟨_,rfl⟩
   rw [← hy] at hcall HX
   have HY:=hide hy
   clear hat hrep hasE e1 hasD hv hy
   go_wp2_with (fail)
   refine (unhide hcall).mono ?_
   rintro e w2 ⟨rfl,hb2⟩
   go_wp2_with (fail)
   have hrg2:=hrg1.kept (grown_of_below hb2) (by simp) (by simp)
   have hgw2:=hgw1.andThen (grown_of_below hb2) (fun j hj=>by cases hj)
   go_roundw
   case rel =>
    refine ⟨_,cnt1,max M y,rfl,by omega,by have:=unhide HM1; have:=unhide HX; omega,hrg2,hgw2,?_⟩
    intro k hk hl
    cases h4:left k
    ·have:=unhide G k hk h4; omega
    ·have h5:(left k && !k.sameKey kl) = false:=hl
     rw [h4] at h5
     have:k = kl:=WideAt.sameKey_eq (by simpa using h5)
     subst this
     have:=unhide HY
     omega
   case measure=>rw [hrg2.left_eq,hrg.left_eq]; exact hlt
end
theorem dep_step {f:Nat} (hS:DepOk f) (hf:f ≤ 5000):DepOk (f + 1):=by
 intro F w v a ha
 obtain ⟨p,rfl,_,ha⟩:=ha
 rcases ha with ⟨k,hk,rfl,h⟩ | ⟨n,rfl,h,_⟩ | ⟨s,rfl,h⟩ | ⟨es,sl,ps,rfl,h,ho,_,hal⟩ | ⟨es,m,n,D,rfl,h,_,ho,hp⟩
 ·exact dep_leaf h (by omega) (by omega)
 ·exact dep_leaf h (by omega) (by omega)
 ·exact dep_leaf h (by omega) (by omega)
 ·exact dep_walkA hS hf h ho hal
 ·exact dep_walkO hS hf h ho hp
theorem Depth_any:∀ f,f ≤ 5000 → DepOk f
 | 0,_=>fun _ _ _ _ h=>h.elim
 | f + 1,h=>dep_step (Depth_any f (by omega)) (by omega)
end Go.Proofs.YtdpomdelmdofmaaGreatDoor

namespace Go.Proofs.YtdpomdelmdofmaaGreatDoor
open Go.RowKit Go.Maps
def CloneAt (f:Nat) (a:Sp.V):Prop:=∀ (F:Nat → Prop) (w:World) (v:Value),Rep f F w v a → Calls Tryz.prog 201 #[v] w fun e w'=>∃ p,e = .returned (.pointer (some p)) ∧ Below w.heap.size w w' ∧ Tr f w.heap.size w' (.pointer (some p)) a
set_option maxRecDepth 100000 in
theorem ptr_make (n:Nat) (hn:n * 8 ≤ 281474976710656) (w:World):(Instr.makeSlice 106 (.int .i64 n) (.int .i64 n)).run Tryz.prog w = .ok (.slice (some ⟨w.heap.size,0,none⟩) n n) (w.alloc (.cells (madeCells #[.pointer none] (n * 1)) 80)):=by
 obtain ⟨i,hi,h⟩:=Option.map_eq_some_iff.1 b_ptr
 injection h with h1 h2
 injection h2 with h2 h3
 have:=run_make (P:=Tryz.prog) w 106 80 i _ Tryz.underlying106 hi h1 .i64 .i64 n n (by omega) (by omega) (by rw [h3]; omega) (by omega)
 rw [h2] at this
 simpa [Value.cells] using this
section
variable {w:World} {b:Nat}
set_option maxHeartbeats 4000000 in
theorem clone_leaf {k:Int} {n:Sp.Nm} {s:Sp.By} (h:VB w b k n s (.slice none 0 0) (.map none)) (h5:k ≠ 5) (h6:k ≠ 6) :
  Calls Tryz.prog 201 #[.pointer (some ⟨b,0,none⟩)] w fun e w'=>e = .returned (.pointer (some ⟨w.heap.size,0,none⟩)) ∧ Below w.heap.size w w' ∧ VB w' w.heap.size k n s (.slice none 0 0) (.map none):=by
 have c0:=h.c0
 have c1:=h.c1
 have c2:=h.c2
 have c3:=h.c3
 have c4:=h.c4
 have c5:=h.c5
 have c6:=h.c6
 have d0:∀ o,(w.alloc o).cell? ⟨b,0,none⟩ = some (.int .i64 k):=fun o=>(World.cell?_of_block (w:=w) (Below.heap_alloc w o b h.lt)).trans c0
 have e5:(k == 5) = false:=beq_eq_false_iff_ne.2 h5
 have e6:(k == 6) = false:=beq_eq_false_iff_ne.2 h6
 clear h h5 h6
 go_enter Tryz.func201,Tryz.ntmps201
 go_wp2_with (fail)
 go_ret
 exact ⟨rfl,(Below.refl _ _).alloc (Nat.le_refl _) _,heap_new _ _ _ rfl⟩
structure ClA (f N:Nat) (w:World) (es:List Sp.V) (k:Nat) (wr:World):Prop where
 bel:Below w.heap.size w wr
 box:VB wr w.heap.size 5 n0 [] (.slice (some ⟨w.heap.size + 1,0,none⟩) N N) (.map none)
 el:∃ qs:List Value,qs.length = k ∧ wr.ownsRow (w.heap.size + 1) 80 1 (.slice (some ⟨w.heap.size + 1,0,none⟩) N N) N (qs ++ List.replicate (N - k) (.pointer none)) ∧ TrL f (w.heap.size + 1) (some (w.heap.size + 1)) wr qs (es.take k)
theorem ClA.step {f N k:Nat} {w wr w2:World} {es:List Sp.V} {p:Addr} (h:ClA f N w es k wr) (hk:k < N) (hke:k < es.length) (hb:Below wr.heap.size wr w2) (hv:Tr f wr.heap.size w2 (.pointer (some p)) es[k]) :
  ClA f N w es (k + 1) (w2.setCell ⟨w.heap.size + 1,k,none⟩ (.pointer (some p))):=by
 obtain ⟨qs,hq,ho,ht⟩:=h.el
 have hlt:=owns_lt ho (w.heap.size + 1) rfl
 have ho2:=owns_kept ho (w':=w2) (fun g hg=>hb.block g (owns_lt ho g hg).1)
 have hst:=ho2.stored k (.pointer (some p))
 have hs2:=hb.size
 refine ⟨?_,?_,qs ++ [.pointer (some p)],by simp [hq],?_,?_⟩
 ·refine ((h.bel.trans (hb.mono h.bel.size)).trans ⟨rfl,rfl,rfl,by simp [World.setCell],fun j hj=>Below.heap_setCell _ _ _ _ (show j ≠ w.heap.size + 1 by omega)⟩)
 ·exact (h.box.kept (hb.block _ h.box.lt)).kept (Below.heap_setCell _ _ _ _ (show w.heap.size ≠ w.heap.size + 1 by omega))
 ·have e:(qs ++ List.replicate (N - k) (Value.pointer none)).set k (.pointer (some p)) = qs ++ [.pointer (some p)] ++ List.replicate (N - (k + 1)) (.pointer none):=by
   obtain ⟨m,hm⟩:∃ m,N - k = m + 1:=⟨N - k - 1,by omega⟩
   rw [hm,show N - (k + 1) = m by omega,← hq,List.set_append_right _ _ (Nat.le_refl _)]
   simp [List.replicate_succ]
  rw [← e]
  exact hst.1
 ·rw [List.take_succ_eq_append_getElem hke]
  refine ht.snoc hv (by omega) ?_ ?_
  ·intro j h1 h2 h3
   exact ⟨(Below.heap_setCell _ _ _ _ (show j ≠ w.heap.size + 1 from fun e=>h2 (by rw [e]))).trans (hb.block j h3),h2⟩
  ·intro j h1 h2
   exact ⟨Below.heap_setCell _ _ _ _ (show j ≠ w.heap.size + 1 by omega),fun e=>by injection e; omega⟩
theorem ClA.done {f N:Nat} {w wr:World} {es:List Sp.V} (h:ClA f N w es N wr) (hn:N = es.length):Tr (f + 1) w.heap.size wr (.pointer (some ⟨w.heap.size,0,none⟩)) (Sp.vArr es):=by
 obtain ⟨qs,hq,ho,ht⟩:=h.el
 rw [Nat.sub_self,List.replicate_zero,List.append_nil] at ho
 rw [List.take_of_length_le (by omega)] at ht
 have ho':=owns_base ho (Nat.zero_le _)
 rw [show N = qs.length from hq.symm] at ho'
 have hb:=h.box
 rw [show N = qs.length from hq.symm] at hb
 exact TrL.arr (sl:=.slice (some ⟨w.heap.size + 1,0,none⟩) qs.length qs.length) ht (Nat.le_refl _) (by omega) hb ho' (fun g hg=>by
  have:g = w.heap.size + 1:=by simpa [Value.ownBlock] using hg.symm
  omega)
set_option maxRecDepth 100000 in
set_option maxHeartbeats 8000000 in
theorem clone_arr {f:Nat} {F:Nat → Prop} {sl:Value} {ps:List Value} {es:List Sp.V} (hS:∀ d ∈ es,CloneAt f d) (h:VB w b 5 n0 [] sl (.map none)) (ho:w.ownsRow 0 80 1 sl ps.length ps) (ha:Al (Rep f F w) ps es) (hsm:ps.length * 8 ≤ 281474976710656) :
  Calls Tryz.prog 201 #[.pointer (some ⟨b,0,none⟩)] w fun e w'=>e = .returned (.pointer (some ⟨w.heap.size,0,none⟩)) ∧ Below w.heap.size w w' ∧ Tr (f + 1) w.heap.size w' (.pointer (some ⟨w.heap.size,0,none⟩)) (Sp.vArr es):=by
 have c0:=h.c0
 have c1:=h.c1
 have c2:=h.c2
 have c3:=h.c3
 have c4:=h.c4
 have c5:=h.c5
 have c6:=h.c6
 have hbl:=h.lt
 have hl:=ha.length
 obtain ⟨N,hN⟩:∃ N,N = ps.length:=⟨_,rfl⟩
 have hn1:(N:Int) ≤ 9223372036854775807:=by omega
 rw [← hN] at hsm
 have hmk:=ptr_make N hsm
 have hMx:N ≤ maxLen:=by unfold maxLen; omega
 have HL:=hide (hN.trans hl)
 have old:∀ (o:Obj) (j:Nat),(w.alloc o).cell? ⟨b,j,none⟩ = w.cell? ⟨b,j,none⟩:=fun o j=>World.cell?_of_block (w:=w) (Below.heap_alloc w o b hbl)
 have d0:∀ o,(w.alloc o).cell? ⟨b,0,none⟩ = some (.int .i64 5):=fun o=>(old o 0).trans c0
 have d5:∀ o,(w.alloc o).cell? ⟨b,5,none⟩ = some sl:=fun o=>(old o 5).trans c5
 have hstart:Hid (∀ W,W = ((w.alloc (.cells #[.int .i64 5,.bool false,.string ⟨#[]⟩,.int .i64 0,.string ⟨#[]⟩,.slice (some ⟨w.heap.size + 1,0,none⟩) N N,.map none] 111)).alloc (.cells (madeCells #[.pointer none] N) 80)) → ClA f N w es 0 W):=by
  rintro W rfl
  have e1:(w.alloc (.cells #[.int .i64 5,.bool false,.string ⟨#[]⟩,.int .i64 0,.string ⟨#[]⟩,.slice (some ⟨w.heap.size + 1,0,none⟩) N N,.map none] 111)).heap.size = w.heap.size + 1:=by simp
  have hb1:=heap_alloc_new w (.cells #[.int .i64 5,.bool false,.string ⟨#[]⟩,.int .i64 0,.string ⟨#[]⟩,.slice (some ⟨w.heap.size + 1,0,none⟩) N N,.map none] 111)
  generalize hW:w.alloc (.cells #[.int .i64 5,.bool false,.string ⟨#[]⟩,.int .i64 0,.string ⟨#[]⟩,.slice (some ⟨w.heap.size + 1,0,none⟩) N N,.map none] 111) = W1 at *
  have hbel:Below w.heap.size w W1:=by rw [← hW]; exact (Below.refl _ _).alloc (Nat.le_refl _) _
  have hmc:(madeCells #[Value.pointer none] N).size = N * 1:=by simp [madeCells]
  have hrow:=World.ownsRow_lit (base:=w.heap.size + 1) (e:=80) (size:=1) W1 (madeCells #[.pointer none] N) N (by omega) hMx hmc
  have hvb:VB W1 w.heap.size 5 n0 [] (.slice (some ⟨w.heap.size + 1,0,none⟩) N N) (.map none):=hb1
  rw [e1] at hrow
  refine ⟨hbel.alloc (by omega) _,hvb.kept (Below.heap_alloc W1 _ _ hvb.lt),[],rfl,?_,TrL.nil _ _ _ _⟩
  have hx:(madeCells #[Value.pointer none] N).toList = [] ++ List.replicate (N - 0) (Value.pointer none):=by simp [madeCells,Nat.mod_one,List.map_const']
  rw [← hx]
  exact hrow
 have hcall:Hid (∀ (k:Nat) (h1:k < ps.length) (h3:k < es.length) (wr:World),Below w.heap.size w wr → Calls Tryz.prog 201 #[ps[k]] wr fun e w'=>∃ p,e = .returned (.pointer (some p)) ∧ Below wr.heap.size wr w' ∧ Tr f wr.heap.size w' (.pointer (some p)) es[k]) :=
  hide (fun k h1 h3 wr hb=>hS _ (List.getElem_mem h3) F wr ps[k] ((ha.get k h1 h3).bel hb))
 obtain ⟨a,c,rfl⟩:=slice_form ho
 have HC:Hid (∀ (k:Nat) (h1:k < ps.length),∃ g,a = some ⟨g,0,none⟩ ∧ g < w.heap.size ∧ w.cell? ⟨g,k,none⟩ = some ps[k]):=hide (fun k h1=>by
  obtain ⟨g1,p1,e,_,_,l1,hc1⟩:=owns_cell1 ho (by omega)
  injection e with e
  exact ⟨g1,e,l1,hc1 k h1⟩)
 rw [← hN] at c5 d5
 have HN:=hide hN
 clear h ho ha hS hl hN old
 go_enter Tryz.func201,Tryz.ntmps201
 go_wp2_with (fail)
 go_loopw [29] (fun i wr=>∃ k:Nat,k ≤ N ∧ i = .int .i64 k ∧ Hid (ClA f N w es k wr)) (fun i _=>N - (intOf i).toNat)
 case atStart=>exact ⟨0,by omega,rfl,unhide hstart _ rfl⟩
 case round =>
  obtain ⟨k,hk,rfl,HI⟩:=hrel
  by_cases hlt:k < N
  ·have h1:k < ps.length:=by have:=unhide HN; omega
   have h3:k < es.length:=by have:=unhide HL; omega
   obtain ⟨g,rfl,hg1,hgc⟩:=unhide HC k h1
   have q1:=((unhide HI).bel.cell (p:=⟨g,k,none⟩) hg1).trans hgc
   have qV:=(unhide HI).box.c5
   have hc1:=hide (unhide hcall k h1 h3)
   have HSTEP:Hid (∀ (w2:World) (p:Addr),Below wr.heap.size wr w2 → Tr f wr.heap.size w2 (.pointer (some p)) es[k] → ClA f N w es (k + 1) (w2.setCell ⟨w.heap.size + 1,k,none⟩ (.pointer (some p)))):=hide (fun w2 p hb hv=>(unhide HI).step hlt h3 hb hv)
   have HV2:Hid (∀ w2,Below wr.heap.size wr w2 → w2.cell? ⟨w.heap.size,5,none⟩ = some (.slice (some ⟨w.heap.size + 1,0,none⟩) N N) ∧ w2.frozen? ⟨w.heap.size + 1,k,none⟩ = false ∧ ∃ u,w2.cell? ⟨w.heap.size + 1,k,none⟩ = some u):=hide (fun w2 hb=>by
    obtain ⟨qs,hq,ho,ht⟩:=(unhide HI).el
    have ho2:=owns_kept ho (w':=w2) (fun g hg=>hb.block g (owns_lt ho g hg).1)
    refine ⟨((unhide HI).box.kept (hb.block _ (unhide HI).box.lt)).c5,ho2.frozenAt k,?_⟩
    have h5:=ho2.cellAt k (by omega)
    rw [h5]
    have hlen:k < (qs ++ List.replicate (N - k) (Value.pointer none)).length:=by simp; omega
    exact ⟨_,List.getElem?_eq_getElem hlen⟩)
   have HB:=hide (unhide HI).bel
   generalize ps[k] = pk at *
   clear HC
   go_wp2_with (fail)
   go_region_with (go_at_call 201; refine (unhide hc1 _ ?_).mono ?_; exact ⟨(unhide HB).os,(unhide HB).tape,(unhide HB).output,(unhide HB).size,(unhide HB).block⟩; rintro e w2 ⟨p,rfl,hb2,hv2⟩; have hb3:Below wr.heap.size wr w2:=⟨hb2.os,hb2.tape,hb2.output,hb2.size,hb2.block⟩; obtain ⟨y1,y2,u,y3⟩:=unhide HV2 w2 hb3)
   all_goals (
    go_wp2_with (fail)
    exact ⟨⟨k + 1,by omega,by go_num,unhide HSTEP w2 p hb3 hv2⟩,by simp only [intOf]; omega⟩)
  ·have HD:=hide (show Tr (f + 1) w.heap.size wr (.pointer (some ⟨w.heap.size,0,none⟩)) (Sp.vArr es) from (show ClA f N w es N wr from by have:=unhide HI; rwa [show k = N by omega] at this).done (unhide HL))
   have HB:=hide (unhide HI).bel
   clear HC
   go_wp2_with (fail)
   go_ret
   exact ⟨rfl,unhide HB,unhide HD⟩
end
end Go.Proofs.YtdpomdelmdofmaaGreatDoor
