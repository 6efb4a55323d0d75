/-
  Walks of a place in an object: remove.
-/
import Derived.Test.YtdpomdelmdofmaaGreatDoorMrg19
import Derived.Test.YtdpomdelmdofmaaGreatDoorMrg14
import Derived.Deep.RegionHeld3
import Derived.Deep.DrawnRows
import Derived.Test.YtdpomdelmdofmaaGreatDoorMrg15
import Derived.Test.YtdpomdelmdofmaaGreatDoorMrg11
namespace Go.Proofs.YtdpomdelmdofmaaGreatDoor
section
set_option maxRecDepth 100000
set_option maxHeartbeats 4000000
open Go.RowKit Go.Maps
section
variable {w:World} {b:Nat} {pth:Value} {key:Sp.By} {i:Nat}
theorem del_runs {m n:Nat} {D:List (Lit×DataW Value)} (hk:key.length≤1048576) (ho:w.ownsMap Tryz.prog 9 RV m n (.map D)) (x:Obj×TypeId) :
  ∃w3,(Builtin.delete_ #[109,9] x.2 #[.map (some m),.string ⟨key.toArray⟩]).run Tryz.prog ((w.alloc x.1).drew) = .ok (.tuple #[]) w3∧w3.ownsMap Tryz.prog 9 RV m n (DataW.del (.map D) (.string key))∧w.grownBy w3 (some m):=by
 have h0:((w.alloc x.1).drew).ownsMap Tryz.prog 9 RV m n (.map D):=(ho.alloc x.1).drew
 obtain⟨w3,hrun,h1,h2⟩:=h0.drop mlaw Tryz.underlying109 (tkey key hk) x.2
 have h3:=World.grownBy_alloc w x.1 none
 have h4:w.grownBy ((w.alloc x.1).drew) none:=⟨h3.os,h3.tape,h3.output,h3.size,h3.block⟩
 have h5:=h2.grown
 refine⟨w3,hrun,h1,?_⟩
 exact⟨h5.os.trans h4.os,h5.tape.trans h4.tape,h5.output.trans h4.output,Nat.le_trans h4.size h5.size,fun j hj hne=>(h5.block j (Nat.lt_of_lt_of_le hj h4.size) hne).trans (h4.block j hj (by simp))⟩
theorem remove_obj {m n:Nat} {D:List (Lit×DataW Value)} (hk:key.length≤1048576) (h:VB w b 6 n0 [] (.slice none 0 0) (.map (some m))) (ho:w.ownsMap Tryz.prog 9 RV m n (.map D)) :
  Calls Tryz.prog 246 #[plV pth b key i] w fun e w'=>e = .returned (.tuple #[])∧w'.ownsMap Tryz.prog 9 RV m n (DataW.del (.map D) (.string key))∧w.grownBy w' (some m):=by
 have hbl:=h.lt
 have q0:∀o,(w.alloc o).cell? ⟨b,0,none⟩=some (.int .i64 6):=fun o=>(World.cell?_of_block (w:=w) (Below.heap_alloc w o b hbl)).trans h.c0
 have q6:∀o,(w.alloc o).cell? ⟨b,6,none⟩=some (.map (some m)):=fun o=>(World.cell?_of_block (w:=w) (Below.heap_alloc w o b hbl)).trans h.c6
 have HU:=del_runs hk ho
 clear h ho
 obtain⟨W,hW⟩:=Classical.axiomOfChoice HU
 have hrun:∀o ty,(Builtin.delete_ #[109,9] ty #[.map (some m),.string ⟨key.toArray⟩]).run Tryz.prog ((w.alloc o).drew) = .ok (.tuple #[]) (W (o,ty)):=fun o ty=>(hW (o,ty)).1
 have HOWN:=hide (fun x=>(hW x).2.1)
 have HG:=hide (fun x=>(hW x).2.2)
 clear hW HU
 go_enter Tryz.func246,Tryz.ntmps246
 go_wp2_with (fail)
 go_region_law (fail)
 all_goals (
  go_wp2_with (fail)
  exact bodyPost_ret (results_none rfl _ _ _) rfl ⟨rfl,unhide HOWN _,unhide HG _⟩)
end
end

section
set_option maxRecDepth 100000
set_option maxHeartbeats 4000000
open Go.RowKit Go.Maps
attribute [local go_sem ↓] Go.wp_at_zero Go.wp_at_succ
theorem VB.set5 {w:World} {b:Nat} {k:Int} {n:Sp.Nm} {s:Sp.By} {sl mp:Value} (h:VB w b k n s sl mp) (v:Value):VB (w.setCell ⟨b,5,none⟩ v) b k n s v mp:=by
 simp only[VB,World.setCell,Array.getElem?_modify]
 rw[if_pos trivial,show w.heap[b]? = _ from h];rfl
theorem VB.z {w:World} {b:Nat} {k:Int} {n:Sp.Nm} {s:Sp.By} {sl mp:Value} (h:VB w b k n s sl mp) (o:Nat):w.frozen? ⟨b,o,none⟩=false:=by simp[World.frozen?,show w.heap[b]? = _ from h]
def ArrEnd (b:Nat) (sl:Value) (l':List (Option Addr)) (w:World) (e:Ending) (w':World):Prop :=
 e = .returned (.tuple #[]) ∧ ∃g cap,VB w' b 5 n0 [] (.slice (some ⟨g,0,none⟩) l'.length cap) (.map none)∧w'.ownsRow 0 80 1 (.slice (some ⟨g,0,none⟩) l'.length cap) l'.length (l'.map Value.pointer) ∧
  (sl.ownBlock=some g∨w.heap.size≤g)∧KeptF (fun k=>k=b∨sl.ownBlock=some k) w w'
theorem ArrEnd.of {b:Nat} {sl:Value} {l':List (Option Addr)} {w w1 w2:World} {g cap n:Nat} (hn:n=l'.length) (hg:b≠g) (h1:VB w1 b 5 n0 [] sl (.map none)) (hB:Below w.heap.size w w1) (ho:w2.ownsRow 0 80 1 (.slice (some ⟨g,0,none⟩) n cap) n (l'.map Value.pointer)) (hk:w1.grownBy w2 sl.ownBlock) (hbs:sl.ownBlock≠some b) (hor:sl.ownBlock=some g∨w.heap.size≤g) :
  ArrEnd b sl l' w (.returned (.tuple #[])) (w2.setCell ⟨b,5,none⟩ (.slice (some ⟨g,0,none⟩) n cap)):=by
 subst hn
 have h2:VB w2 b 5 n0 [] sl (.map none):=h1.kept (hk.block b h1.lt (fun e=>hbs e.symm))
 refine⟨rfl,g,cap,h2.set5 _,owns_kept ho fun k hk2=>?_,hor,?_⟩
 ·simp[Value.ownBlock] at hk2
  exact Below.heap_setCell _ _ _ _ (by show k≠b;omega)
 ·have h3:KeptF (fun k=>k=b∨sl.ownBlock=some k) w w1:=KeptF.of_below hB
  have h4:KeptF (fun k=>k=b∨sl.ownBlock=some k) w w2:=h3.trans (F':=fun k=>sl.ownBlock=some k) ⟨hk.os,hk.tape,hk.output,hk.size,fun k hk2 hne=>hk.block k hk2 (fun e=>hne e.symm)⟩ fun k _ h=>Or.inr h
  exact h4.setCell (p:=⟨b,5,none⟩) (Or.inl (Or.inl rfl)) _
section
variable {w:World} {b:Nat} {pth:Value} {key:Sp.By} {i:Nat}
theorem remove_arr {sl:Value} {l:List (Option Addr)} (h:VB w b 5 n0 [] sl (.map none)) (ho:w.ownsRow 0 80 1 sl l.length (l.map Value.pointer)) (hi:i<l.length) (hbs:sl.ownBlock≠some b) :
  Calls Tryz.prog 246 #[plV pth b key i] w (ArrEnd b sl (Sp.ldel i l) w):=by
 have hbl:=h.lt
 have q0:∀o,(w.alloc o).cell? ⟨b,0,none⟩=some (.int .i64 5):=fun o=>(World.cell?_of_block (w:=w) (Below.heap_alloc w o b hbl)).trans h.c0
 have q5:∀o,(w.alloc o).cell? ⟨b,5,none⟩=some sl:=fun o=>(World.cell?_of_block (w:=w) (Below.heap_alloc w o b hbl)).trans h.c5
 have hmx:=owns_max ho
 have hwr:IntKind.i64.wrap ((i:Int)+1)=((i+1:Nat):Int):=by rw[IntKind.wrap_i64];unfold maxLen at hmx;omega
 have HO:=hide ho
 have HV:=hide h
 have HI:=hide hi
 have HBS:=hide hbs
 have hlen:l.length-1=(Sp.ldel i l).length:=by have:=Sp.len_ldel hi;omega
 clear h ho hi hbs hmx
 go_enter Tryz.func246,Tryz.ntmps246
 go_wp2_with (fail)
 have hbx:=heap_alloc_new w (.cells #[pth,.pointer (some ⟨b,0,none⟩),.string ⟨key.toArray⟩,.int .i64 i] 185)
 have hba:=(Below.refl w.heap.size w).alloc (Nat.le_refl _) (.cells #[pth,.pointer (some ⟨b,0,none⟩),.string ⟨key.toArray⟩,.int .i64 i] 185)
 generalize w.alloc (.cells #[pth,.pointer (some ⟨b,0,none⟩),.string ⟨key.toArray⟩,.int .i64 i] 185)=wa at *
 clear q0 q5
 have hva:VB wa b 5 n0 [] sl (.map none):=(unhide HV).kept (hba.block b hbl)
 have b1:wa.cell? ⟨w.heap.size,1,none⟩=some (.pointer (some ⟨b,0,none⟩)):=by simp[World.cell?,hbx]
 have b3:wa.cell? ⟨w.heap.size,3,none⟩=some (.int .i64 i):=by simp[World.cell?,hbx]
 have b5:=hva.c5
 have hoa:=owns_kept (unhide HO) fun g hg=>hba.block g (owns_lt (unhide HO) g hg).1
 obtain⟨g,cap,hsl,hc⟩:=slDel (i:=i) (show (wa.drew).ownsRow 0 80 1 sl l.length (l.map Value.pointer) from hoa) (unhide HI)
 have hsl2:sl.ownBlock=some g:=by rw[hsl];rfl
 have hbg:b≠g:=fun e=>unhide HBS (by rw[hsl2,e])
 have hgl:g<w.heap.size:=(owns_lt (unhide HO) g hsl2).1
 have hbxl:w.heap.size<wa.heap.size:=(Array.getElem?_eq_some_iff.1 hbx).1
 have HC:=hide (hc.mono (R':=fun e w2=>e = .returned (.slice (some ⟨g,0,none⟩) (l.length-1) cap)∧w2.cell? ⟨w.heap.size,1,none⟩=some (.pointer (some ⟨b,0,none⟩))∧w2.cell? ⟨w.heap.size,3,none⟩=some (.int .i64 i)∧w2.cell? ⟨b,5,none⟩=some sl∧w2.frozen? ⟨b,5,none⟩=false∧ArrEnd b sl (Sp.ldel i l) w (.returned (.tuple #[])) (w2.setCell ⟨b,5,none⟩ (.slice (some ⟨g,0,none⟩) (l.length-1) cap))) (by
  rintro e w2 ⟨rfl,ho2,hk2⟩
  have hkb:w2.heap[b]? = wa.heap[b]?:=hk2.block b hva.lt (fun e=>hbg (Option.some.inj e))
  have hkx:w2.heap[w.heap.size]? = wa.heap[w.heap.size]?:=hk2.block _ hbxl (fun e=>by have:=Option.some.inj e;omega)
  have hv2:VB w2 b 5 n0 [] sl (.map none):=hva.kept hkb
  refine⟨rfl,(World.cell?_of_block (a:=⟨w.heap.size,1,none⟩) hkx).trans b1,(World.cell?_of_block (a:=⟨w.heap.size,3,none⟩) hkx).trans b3,hv2.c5,hv2.z 5,?_⟩
  exact ArrEnd.of hlen hbg hva hba ho2 (by rw[hsl2];exact⟨hk2.os,hk2.tape,hk2.output,hk2.size,hk2.block⟩) (unhide HBS) (Or.inl hsl2)))
 clear hc hoa hbx hba hva HV HO HI HBS hlen hsl2 hgl hbxl hbg hsl
 have hn1:¬ w.heap.size=b:=by omega
 have hn2:¬ b=w.heap.size:=by omega
 clear hbl
 go_region_with (go_at_call 290;refine (unhide HC).mono ?_;rintro e w2 ⟨rfl,k1,k3,k5,kz,kend⟩;have KEND:=hide kend;clear kend)
 all_goals exact bodyPost_end (results_none rfl _ _ _) rfl (unhide KEND)
end
end

section
set_option maxRecDepth 100000
set_option maxHeartbeats 4000000
open Go.RowKit Go.Maps
attribute [local go_sem ↓] Go.wp_at_zero Go.wp_at_succ
section
variable {w:World} {b:Nat} {pth:Value} {key:Sp.By} {i:Nat}
theorem insert_arr {sl:Value} {l:List (Option Addr)} {x:Option Addr} (h:VB w b 5 n0 [] sl (.map none)) (ho:w.ownsRow 0 80 1 sl l.length (l.map Value.pointer)) (hi:i≤l.length) (hb:l.length≤1000000000000) (hbs:sl.ownBlock≠some b) :
  Calls Tryz.prog 249 #[plV pth b key i,.pointer x] w (ArrEnd b sl (Sp.lins i x l) w):=by
 have hbl:=h.lt
 have q0:∀o,(w.alloc o).cell? ⟨b,0,none⟩=some (.int .i64 5):=fun o=>(World.cell?_of_block (w:=w) (Below.heap_alloc w o b hbl)).trans h.c0
 have q5:∀o,(w.alloc o).cell? ⟨b,5,none⟩=some sl:=fun o=>(World.cell?_of_block (w:=w) (Below.heap_alloc w o b hbl)).trans h.c5
 have HO:=hide ho
 have HV:=hide h
 have HI:=hide hi
 have HBS:=hide hbs
 have hlen:l.length+1=(Sp.lins i x l).length:=(Sp.len_lins x hi).symm
 clear h ho hi hbs
 go_enter Tryz.func249,Tryz.ntmps249
 go_wp2_with (fail)
 have hbx:=heap_alloc_new w (.cells #[pth,.pointer (some ⟨b,0,none⟩),.string ⟨key.toArray⟩,.int .i64 i] 185)
 have hba:=(Below.refl w.heap.size w).alloc (Nat.le_refl _) (.cells #[pth,.pointer (some ⟨b,0,none⟩),.string ⟨key.toArray⟩,.int .i64 i] 185)
 generalize w.alloc (.cells #[pth,.pointer (some ⟨b,0,none⟩),.string ⟨key.toArray⟩,.int .i64 i] 185)=wa at *
 clear q0 q5
 have hva:VB wa b 5 n0 [] sl (.map none):=(unhide HV).kept (hba.block b hbl)
 have b1:wa.cell? ⟨w.heap.size,1,none⟩=some (.pointer (some ⟨b,0,none⟩)):=by simp[World.cell?,hbx]
 have b3:wa.cell? ⟨w.heap.size,3,none⟩=some (.int .i64 i):=by simp[World.cell?,hbx]
 have b5:=hva.c5
 have hoa:=owns_kept (unhide HO) fun g hg=>hba.block g (owns_lt (unhide HO) g hg).1
 have hbxl:w.heap.size<wa.heap.size:=(Array.getElem?_eq_some_iff.1 hbx).1
 have HC:=hide (show ∀W:World,W.heap=(wa.alloc (.cells #[.pointer x] 80)).heap→W.os=wa.os→W.tape=wa.tape→W.output=wa.output→Calls Tryz.prog 291 #[sl,.int .i64 i,.slice (some ⟨wa.heap.size,0,none⟩) 1 1] W fun e w2=>∃g cap,e = .returned (.slice (some ⟨g,0,none⟩) (l.length+1) cap)∧w2.cell? ⟨w.heap.size,1,none⟩=some (.pointer (some ⟨b,0,none⟩))∧w2.cell? ⟨w.heap.size,3,none⟩=some (.int .i64 i)∧w2.cell? ⟨b,5,none⟩=some sl∧w2.frozen? ⟨b,5,none⟩=false∧Hid (ArrEnd b sl (Sp.lins i x l) w (.returned (.tuple #[])) (w2.setCell ⟨b,5,none⟩ (.slice (some ⟨g,0,none⟩) (l.length+1) cap))) from fun W hW e1 e2 e3=>by
  have hold:∀k,k<wa.heap.size→W.heap[k]? = wa.heap[k]?:=fun k hk=>by rw[hW];exact Below.heap_alloc wa _ k hk
  have hnew:W.heap[wa.heap.size]? = some (.cells #[.pointer x] 80 (0,0)):=by rw[hW];exact heap_alloc_new wa _
  have hWs:wa.heap.size<W.heap.size:=(Array.getElem?_eq_some_iff.1 hnew).1
  have hoW:=owns_kept (w':=W) hoa fun g hg=>hold g (owns_lt hoa g hg).1
  refine (slIns hoW hnew (fun e=>by have:=(owns_lt hoa _ e).1;omega) (unhide HI) hb).mono ?_
  rintro e w2 ⟨g,cap,rfl,ho2,hk2,hor⟩
  have hne:∀k,k<wa.heap.size→sl.ownBlock≠some k→w2.heap[k]? = wa.heap[k]?:=fun k hk hn=>(hk2.block k (by omega) (fun e=>hn e.symm)).trans (hold k hk)
  have hkb:=hne b hva.lt (unhide HBS)
  have hkx:=hne w.heap.size hbxl (fun e=>by have:=(owns_lt (unhide HO) _ e).1;omega)
  have hv2:VB w2 b 5 n0 [] sl (.map none):=hva.kept hkb
  refine⟨g,cap,rfl,(World.cell?_of_block (a:=⟨w.heap.size,1,none⟩) hkx).trans b1,(World.cell?_of_block (a:=⟨w.heap.size,3,none⟩) hkx).trans b3,hv2.c5,hv2.z 5,?_⟩
  have hbg:b≠g:=fun e=>by
   rcases hor with h|h
   ·exact unhide HBS (by rw[h,e])
   ·have:=hva.lt;omega
  refine ArrEnd.of hlen hbg hva hba ho2 ⟨hk2.os.trans e1,hk2.tape.trans e2,hk2.output.trans e3,by have:=hk2.size;omega,fun k hk hn=>hne k hk (fun e=>hn e.symm)⟩ (unhide HBS) (hor.imp id fun h=>by have:=hba.size;omega))
 have d1:∀o,(wa.alloc o).cell? ⟨w.heap.size,1,none⟩=some (.pointer (some ⟨b,0,none⟩)):=fun o=>(World.cell?_of_block (a:=⟨w.heap.size,1,none⟩) (Below.heap_alloc wa o _ hbxl)).trans b1
 have d3:∀o,(wa.alloc o).cell? ⟨w.heap.size,3,none⟩=some (.int .i64 i):=fun o=>(World.cell?_of_block (a:=⟨w.heap.size,3,none⟩) (Below.heap_alloc wa o _ hbxl)).trans b3
 have d5:∀o,(wa.alloc o).cell? ⟨b,5,none⟩=some sl:=fun o=>(World.cell?_of_block (a:=⟨b,5,none⟩) (Below.heap_alloc wa o _ hva.lt)).trans b5
 clear hoa hbx hba hva HV HO HI HBS hlen
 have hn1:¬ w.heap.size=b:=by omega
 have hn2:¬ b=w.heap.size:=by omega
 clear hbl
 go_region_with (go_at_call 291;refine (unhide HC _ (by rfl) (by rfl) (by rfl) (by rfl)).mono ?_;rintro e w2 ⟨g,cap,rfl,k1,k3,k5,kz,KEND⟩)
 all_goals exact bodyPost_end (results_none rfl _ _ _) rfl (unhide KEND)
end
end

section
open Go.RowKit Go.Maps
namespace Sp
def own (n:A):List Nat:=match n with
 | .agg [.lit (.int _ b),.lit (.int _ g),x]=>(match x with
  | .slice _ _=>b.toNat::(if g=0 then [] else [g.toNat])
  | .map _=>[b.toNat,g.toNat]
  | _=>[b.toNat])
 | _=>[]
theorem own_arr (b g:Nat) (al:List A):own (nd b g (.slice al []))=b::(if g=0 then [] else [g]):=by
 show (b:Int).toNat::(if (g:Int)=0 then [] else [(g:Int).toNat])=_
 by_cases h:g=0
 ·subst h;rfl
 ·rw[if_neg h,if_neg (by omega)];rfl
theorem own_obj (b g:Nat) (es:List (Lit×A)):own (nd b g (.map es))=[b,g]:=rfl
end Sp
theorem ptrs_of {f:Nat} {w:World}:∀ {ps:List Value} {al:List Sp.A},Al (TRep f w) ps al → ∃l:List (Option Addr),ps=l.map Value.pointer∧l.length=al.length
 | [],[],_=>⟨[],rfl,rfl⟩
 | _::_,_::_,⟨h,t⟩=>by
  obtain⟨b,rfl,_⟩:=h.ptr
  obtain⟨l,rfl,e⟩:=ptrs_of t
  exact⟨some ⟨b,0,none⟩::l,rfl,by simp[e]⟩
theorem Al.take {α β:Type} {P:α→β→Prop}:∀ {l:List α} {m:List β},Al P l m → ∀i,Al P (l.take i) (m.take i)
 | [],[],_,_=>by simp;trivial
 | _::_,_::_,_,0=>trivial
 | _::_,_::_,⟨a,b⟩,i+1=>⟨a,Al.take b i⟩
theorem Al.drop {α β:Type} {P:α→β→Prop}:∀ {l:List α} {m:List β},Al P l m → ∀i,Al P (l.drop i) (m.drop i)
 | [],[],_,_=>by simp;trivial
 | _::_,_::_,h,0=>h
 | _::_,_::_,⟨_,b⟩,i+1=>Al.drop b i
theorem Al.lins {α β:Type} {P:α→β→Prop} {l:List α} {m:List β} (h:Al P l m) (i:Nat) {a:α} {b:β} (hab:P a b):Al P (Sp.lins i a l) (Sp.lins i b m):=Al.append (h.take i) ⟨hab,h.drop i⟩
theorem Al.ldel {α β:Type} {P:α→β→Prop} {l:List α} {m:List β} (h:Al P l m) (i:Nat):Al P (Sp.ldel i l) (Sp.ldel i m):=Al.append (h.take i) (h.drop (i+1))
theorem Al.set {α β:Type} {P:α→β→Prop}:∀ {l:List α} {m:List β},Al P l m → ∀ (i:Nat) {a:α} {b:β},P a b→Al P (l.set i a) (m.set i b)
 | [],[],_,_,_,_,_=>trivial
 | _::_,_::_,⟨_,t⟩,0,_,_,h=>⟨h,t⟩
 | _::_,_::_,⟨h0,t⟩,i+1,_,_,h=>⟨h0,Al.set t i h⟩
theorem map_norm {w:World} {m n:Nat} {D:List (Lit×DataW Value)} (h:w.ownsMap Tryz.prog 9 RV m n (.map D)):w.ownsMap Tryz.prog 9 RV m D.length (.map D):=by
 obtain⟨es,clock,hb,F,hs,e⟩:=h
 refine⟨es,clock,hb,F,?_,e⟩
 injection e with e
 rw[e,length_read]
 exact Nat.le_refl _
structure EdOk (f:Nat) (w w':World) (u:Value) (n n':Sp.A) (Z:Nat→Prop):Prop where
 tr:TRep (f+1) w' u n'
 nd:(Sp.fp (f+1) n').Nodup
 sub:∀k∈Sp.fp (f+1) n',k∈Sp.fp (f+1) n∨Z k∨w.heap.size≤k
 kept:KeptF (fun k=>k∈Sp.own n) w w'
theorem own_fp {f:Nat} {w:World} {u:Value} {n:Sp.A} (h:TRep (f+1) w u n):∀k∈Sp.own n,k∈Sp.fp (f+1) n:=by
 obtain⟨b,g,x,rfl,hv,h⟩:=h
 rcases h with⟨j,_,_,rfl,h⟩|⟨n,_,rfl,h,hbd⟩|⟨s,_,rfl,h⟩|⟨al,sl,ps,rfl,_⟩|⟨es,n,D,rfl,_⟩
 ·intro k hk;exact hk
 ·intro k hk;exact hk
 ·intro k hk;exact hk
 ·intro k hk
  rw[Sp.own_arr] at hk
  rw[Sp.fp_arr]
  rcases List.mem_cons.1 hk with rfl|hk
  ·simp
  ·exact List.mem_cons_of_mem _ (List.mem_append_left _ hk)
 ·intro k hk
  rw[Sp.own_obj] at hk
  rw[Sp.fp_obj]
  rcases List.mem_cons.1 hk with rfl|hk
  ·simp
  ·have:k=g:=by simpa using hk
   subst this;simp
theorem own_kid {f:Nat} {n c:Sp.A} {w:World} {u:Value} (h:TRep (f+1) w u n) (hn:(Sp.fp (f+1) n).Nodup) (hc:c∈Sp.kids n):∀k∈Sp.own n,k ∉ Sp.fp f c:=by
 obtain⟨b,g,x,rfl,hv,h⟩:=h
 rcases h with⟨j,_,_,rfl,h⟩|⟨n,_,rfl,h,hbd⟩|⟨s,_,rfl,h⟩|⟨al,sl,ps,rfl,_⟩|⟨es,n,D,rfl,_⟩
 ·rw[Sp.kids_word] at hc;cases hc
 ·rw[Sp.kids_num] at hc;cases hc
 ·rw[Sp.kids_str] at hc;cases hc
 ·rw[Sp.kids_arr] at hc
  rw[Sp.fp_arr] at hn
  obtain⟨n1,n2⟩:=List.nodup_cons.1 hn
  obtain⟨_,_,n3⟩:=List.nodup_append.1 n2
  intro k hk hkc
  have hm:k∈al.flatMap (Sp.fp f):=List.mem_flatMap.2 ⟨c,hc,hkc⟩
  rw[Sp.own_arr] at hk
  rcases List.mem_cons.1 hk with rfl|hk
  ·exact n1 (List.mem_append_right _ hm)
  ·exact n3 k hk k hm rfl
 ·rw[Sp.kids_obj] at hc
  obtain⟨p,hp,rfl⟩:=List.mem_map.1 hc
  rw[Sp.fp_obj] at hn
  obtain⟨n1,n2⟩:=List.nodup_cons.1 hn
  obtain⟨n3,_⟩:=List.nodup_cons.1 n2
  intro k hk hkc
  have hm:k∈es.flatMap (fun p=>Sp.fp f p.2):=List.mem_flatMap.2 ⟨p,hp,hkc⟩
  rw[Sp.own_obj] at hk
  rcases List.mem_cons.1 hk with rfl|hk
  ·exact n1 (List.mem_cons_of_mem _ hm)
  ·have:k=g:=by simpa using hk
   subst this;exact n3 hm
theorem arr_ed {f b g g':Nat} {w w':World} {u:Value} {al al':List Sp.A} {l':List (Option Addr)} {sl':Value} {Z:Nat→Prop} (h:TRep (f+1) w u (Sp.nd b g (.slice al []))) (hvb:VB w' b 5 n0 [] sl' (.map none)) (ho:w'.ownsRow 0 80 1 sl' l'.length (l'.map Value.pointer)) (hs:sl'.ownBlock=if g'=0 then none else some g')
  (hal:Al (TRep f w') (l'.map Value.pointer) al') (hg:g'=g∨w.heap.size≤g') (hnd:(b::((if g'=0 then [] else [g'])++al'.flatMap (Sp.fp f))).Nodup) (hZ:∀k∈al'.flatMap (Sp.fp f),k∈al.flatMap (Sp.fp f)∨Z k) (hk:KeptF (fun k=>k∈Sp.own (Sp.nd b g (.slice al []))) w w') :
  EdOk f w w' u (Sp.nd b g (.slice al [])) (Sp.nd b g' (.slice al' [])) Z:=by
 obtain⟨b2,g2,x2,e,rfl,_⟩:=h
 unfold Sp.nd at e;injection e with e;injection e with e _;injection e with e;injection e with _ e
 obtain rfl:b=b2:=by omega
 refine⟨⟨b,g',_,rfl,rfl,Or.inr (Or.inr (Or.inr (Or.inl ⟨al',sl',l'.map Value.pointer,rfl,hvb,by rw[List.length_map];exact ho,hs,hal⟩)))⟩,by rw[Sp.fp_arr];exact hnd,?_,hk⟩
 intro k hkm
 rw[Sp.fp_arr] at hkm ⊢
 rcases List.mem_cons.1 hkm with rfl|hkm
 ·exact Or.inl (by simp)
 ·rcases List.mem_append.1 hkm with hkm|hkm
  ·split at hkm
   ·cases hkm
   ·rename_i h0
    obtain rfl:k=g':=by simpa using hkm
    rcases hg with rfl|hg
    ·exact Or.inl (by simp[h0])
    ·exact Or.inr (Or.inr hg)
  ·rcases hZ k hkm with h|h
   ·exact Or.inl (List.mem_cons_of_mem _ (List.mem_append_right _ h))
   ·exact Or.inr (Or.inl h)
end

section
open Go.RowKit Go.Maps
theorem flat_perm {α β:Type} (q:α→List β) {l m:List α} (h:l.Perm m):(l.flatMap q).Perm (m.flatMap q):=h.flatMap_right q
theorem nodup_make {b:Nat} {G Y:List Nat} (h1:Y.Nodup) (h2:b ∉ Y) (h3:b ∉ G) (h4:G.Nodup) (h5:∀k∈G,k ∉ Y):(b::(G++Y)).Nodup :=
 List.nodup_cons.2 ⟨fun hm=>(List.mem_append.1 hm).elim h3 h2,List.nodup_append.2 ⟨h4,h1,fun x hx _ hy e=>h5 x hx (e▸hy)⟩⟩
theorem one_nodup (g:Nat):(if g=0 then ([]:List Nat) else [g]).Nodup:=by split<;>simp
theorem arr_parts {f b g:Nat} {al:List Sp.A} (hn:(Sp.fp (f+1) (Sp.nd b g (.slice al []))).Nodup):(al.flatMap (Sp.fp f)).Nodup∧b ∉ al.flatMap (Sp.fp f)∧b≠(if g=0 then b+1 else g) ∧ ∀k∈(if g=0 then ([]:List Nat) else [g]),k ∉ al.flatMap (Sp.fp f):=by
 rw[Sp.fp_arr] at hn
 obtain⟨n1,n2⟩:=List.nodup_cons.1 hn
 obtain⟨n3,n4,n5⟩:=List.nodup_append.1 n2
 refine⟨n4,fun h=>n1 (List.mem_append_right _ h),?_,fun k hk h=>n5 k hk k h rfl⟩
 split
 ·omega
 ·rename_i h0
  rintro rfl
  exact n1 (List.mem_append_left _ (by simp[h0]))
theorem Al.bel {f:Nat} {w w':World} {ps:List Value} {al:List Sp.A} (h:Al (TRep f w) ps al) (hk:∀k∈al.flatMap (Sp.fp f),w'.heap[k]? = w.heap[k]?):Al (TRep f w') ps al :=
 Al.mem (fun _ c hc hu=>hu.move fun k hkc=>hk k (List.mem_flatMap.2 ⟨c,hc,hkc⟩)) h
section
variable {f:Nat} {w:World} {u:Value} {n c:Sp.A} {pth:Value} {b i:Nat} {key:Sp.By} {x:Option Addr}
theorem setA {g:Nat} {al:List Sp.A} (h:TRep (f+1) w u (Sp.nd b g (.slice al []))) (hn:(Sp.fp (f+1) (Sp.nd b g (.slice al []))).Nodup) (hi:i<al.length) (hc:TRep f w (.pointer x) c) (hcn:(Sp.fp f c).Nodup) (hcd:∀k∈Sp.fp f c,k ∉ Sp.fp (f+1) (Sp.nd b g (.slice al []))) :
  Calls Tryz.prog 250 #[plV pth b key i,.pointer x] w fun e w'=>e = .returned (.tuple #[])∧EdOk f w w' u (Sp.nd b g (.slice al [])) (Sp.nd b g (.slice (al.set i c) [])) (fun k=>k∈Sp.fp f c):=by
 have h0:=h
 obtain⟨p1,p2,p3,p4⟩:=arr_parts hn
 obtain⟨b2,g2,x2,e,hu,h⟩:=h
 unfold Sp.nd at e;injection e with e;injection e with e1 e;injection e with e2 e;injection e with e3 _
 injection e1 with e1;injection e1 with _ e1;injection e2 with e2;injection e2 with _ e2
 obtain rfl:b=b2:=by omega
 obtain rfl:g=g2:=by omega
 rcases h with⟨j,_,_,rfl,_⟩|⟨n,_,rfl,_⟩|⟨s,_,rfl,_⟩|⟨al2,sl,ps,rfl,hvb,ho,hs,ha⟩|⟨es,n,D,rfl,_⟩
 ·cases e3
 ·cases e3
 ·cases e3
 ·injection e3 with e3 _
  subst e3
  have hl:=ha.length
  refine (set_arr (pth:=pth) (key:=key) (pu:=x) hvb ho (show i<ps.length by omega)).mono ?_
  rintro e w' ⟨rfl,g3,hg3,ho',hk⟩
  obtain⟨rfl,h00⟩:=own_if hs hg3
  have hbg:b≠g3:=by rw[if_neg h00] at p3;exact p3
  have hold:∀k,k<w.heap.size→k≠g3→w'.heap[k]? = w.heap[k]?:=fun k hk1 hk2=>hk.block k hk1 (fun e=>hk2 (Option.some.inj e))
  have hgc:g3 ∉ Sp.fp f c:=fun hm=>hcd g3 hm (by rw[Sp.fp_arr];simp[h00])
  have ha':Al (TRep f w') ps al:=ha.bel fun k hkm=>hold k (ha.lts k hkm) (fun e=>p4 g3 (by simp[h00]) (e▸hkm))
  have hc':TRep f w' (.pointer x) c:=hc.move fun k hkm=>hold k (hc.lt k hkm) (fun e=>hgc (e▸hkm))
  obtain⟨l,hpl,hll⟩:=ptrs_of (ha'.set i hc')
  obtain⟨old,hold2⟩:∃old,al[i]? = some old:=⟨_,List.getElem?_eq_getElem hi⟩
  have q1:=flat_perm (Sp.fp f) (Sp.perm_lset c hold2)
  have q2:=flat_perm (Sp.fp f) (Sp.perm_ldel hold2)
  rw[List.flatMap_cons] at q1 q2
  have r1:=List.nodup_append.1 (q2.nodup_iff.1 p1)
  have hmem:∀k∈(al.set i c).flatMap (Sp.fp f),k∈al.flatMap (Sp.fp f)∨k∈Sp.fp f c:=fun k hkm=>by
   rcases List.mem_append.1 (q1.mem_iff.1 hkm) with h|h
   ·exact Or.inr h
   ·exact Or.inl (q2.mem_iff.2 (List.mem_append_right _ h))
  have hnin:∀k∈al.flatMap (Sp.fp f),k∈Sp.fp (f+1) (Sp.nd b g3 (.slice al [])):=fun k hkm=>by rw[Sp.fp_arr];exact List.mem_cons_of_mem _ (List.mem_append_right _ hkm)
  refine⟨rfl,arr_ed (l':=l) (sl':=sl) h0 (hvb.kept (hold b hvb.lt hbg)) ?_ hs (by rw[← hpl];exact ha'.set i hc') (Or.inl rfl) (nodup_make ?_ ?_ ?_ (one_nodup _) ?_) hmem ?_⟩
  ·rw[← hpl,hll]
   have:(al.set i c).length=ps.length:=by simp[hl]
   rw[this];exact ho'
  ·exact q1.nodup_iff.2 (List.nodup_append.2 ⟨hcn,r1.2.1,fun y hy z hz e=>hcd y hy (hnin _ (q2.mem_iff.2 (List.mem_append_right _ (e▸hz))))⟩)
  ·intro hm
   rcases hmem b hm with h|h
   ·exact p2 h
   ·exact hcd b h (by rw[Sp.fp_arr];simp)
  ·rw[if_neg h00];simpa using hbg
  ·intro k hk2 hm
   rcases hmem k hm with h|h
   ·exact p4 k hk2 h
   ·rw[if_neg h00] at hk2
    have:k=g3:=by simpa using hk2
    subst this;exact hgc h
  ·exact⟨hk.os,hk.tape,hk.output,hk.size,fun k hk1 hk2=>hold k hk1 (fun e=>hk2 (by rw[Sp.own_arr,if_neg h00,e];simp))⟩
 ·cases e3
theorem arrEnd_ed {g:Nat} {al al':List Sp.A} {sl:Value} {l l':List (Option Addr)} {w':World} {Z:Nat→Prop} {e:Ending} (h0:TRep (f+1) w u (Sp.nd b g (.slice al []))) (hn:(Sp.fp (f+1) (Sp.nd b g (.slice al []))).Nodup) (hs:sl.ownBlock=if g=0 then none else some g) (ha:Al (TRep f w) (l.map Value.pointer) al)
  (hend:ArrEnd b sl l' w e w') (hal:∀W:World,(∀k,k<w.heap.size→k≠b→sl.ownBlock≠some k→W.heap[k]? = w.heap[k]?)→Al (TRep f W) (l'.map Value.pointer) al') (hY:(al'.flatMap (Sp.fp f)).Nodup) (hmem:∀k∈al'.flatMap (Sp.fp f),k∈al.flatMap (Sp.fp f)∨Z k) (hZ:∀k,Z k→k<w.heap.size∧k ∉ Sp.fp (f+1) (Sp.nd b g (.slice al []))) (hpos:0<w.heap.size) :
  e = .returned (.tuple #[]) ∧ ∃g',(g'=g∨w.heap.size≤g')∧EdOk f w w' u (Sp.nd b g (.slice al [])) (Sp.nd b g' (.slice al' [])) Z:=by
 obtain⟨p1,p2,p3,p4⟩:=arr_parts hn
 obtain⟨rfl,g2,cap,hvb,ho,hor,hk⟩:=hend
 have hbm:b∈Sp.fp (f+1) (Sp.nd b g (.slice al [])):=by rw[Sp.fp_arr];simp
 have hg2:(sl.ownBlock=some g2∧g2=g∧g≠0)∨w.heap.size≤g2:=by
  rcases hor with h|h
  ·obtain⟨e1,e2⟩:=own_if hs h
   exact Or.inl ⟨h,e1,e2⟩
  ·exact Or.inr h
 have hg20:g2≠0:=by
  rcases hg2 with⟨_,rfl,h⟩|h
  ·exact h
  ·omega
 have hlt:∀k∈al.flatMap (Sp.fp f),k<w.heap.size:=ha.lts
 have hbl:b<w.heap.size:=h0.lt b hbm
 refine⟨rfl,g2,hg2.imp (fun h=>h.2.1) id,arr_ed (l':=l') h0 hvb ho (by rw[if_neg hg20];rfl) (hal w' fun k hk1 hk2 hk3=>hk.block k hk1 (fun h=>h.elim hk2 hk3)) (hg2.imp (fun h=>h.2.1) id) (nodup_make hY ?_ ?_ (one_nodup _) ?_) hmem ?_⟩
 ·intro hm
  rcases hmem b hm with h|h
  ·exact p2 h
  ·exact (hZ b h).2 hbm
 ·rw[if_neg hg20]
  intro hm
  obtain rfl:b=g2:=by simpa using hm
  rcases hg2 with⟨_,rfl,h⟩|h
  ·rw[if_neg h] at p3;exact p3 rfl
  ·omega
 ·intro k hk2 hm
  rw[if_neg hg20] at hk2
  obtain rfl:k=g2:=by simpa using hk2
  rcases hg2 with⟨_,rfl,h0⟩|h
  ·rcases hmem k hm with h|h
   ·exact p4 k (by simp[h0]) h
   ·exact (hZ k h).2 (by rw[Sp.fp_arr];simp[h0])
  ·rcases hmem k hm with h'|h'
   ·have:=hlt k h';omega
   ·have:=(hZ k h').1;omega
 ·refine hk.mono fun k hk2=>?_
  rw[Sp.own_arr]
  rcases hk2 with rfl|h
  ·simp
  ·obtain⟨rfl,h9⟩:=own_if hs h
   simp[h9]
theorem insA {g:Nat} {al:List Sp.A} (h:TRep (f+1) w u (Sp.nd b g (.slice al []))) (hn:(Sp.fp (f+1) (Sp.nd b g (.slice al []))).Nodup) (hi:i≤al.length) (hb:al.length≤1000000000000) (hc:TRep f w (.pointer x) c) (hcn:(Sp.fp f c).Nodup) (hcd:∀k∈Sp.fp f c,k ∉ Sp.fp (f+1) (Sp.nd b g (.slice al []))) :
  Calls Tryz.prog 249 #[plV pth b key i,.pointer x] w fun e w'=>e = .returned (.tuple #[]) ∧ ∃g',(g'=g∨w.heap.size≤g')∧EdOk f w w' u (Sp.nd b g (.slice al [])) (Sp.nd b g' (.slice (Sp.lins i c al) [])) (fun k=>k∈Sp.fp f c):=by
 have h0:=h
 obtain⟨b2,g2,x2,e,hu,h⟩:=h
 unfold Sp.nd at e;injection e with e;injection e with e1 e;injection e with e2 e;injection e with e3 _
 injection e1 with e1;injection e1 with _ e1;injection e2 with e2;injection e2 with _ e2
 obtain rfl:b=b2:=by omega
 obtain rfl:g=g2:=by omega
 rcases h with⟨j,_,_,rfl,_⟩|⟨n,_,rfl,_⟩|⟨s,_,rfl,_⟩|⟨al2,sl,ps,rfl,hvb,ho,hs,ha⟩|⟨es,n,D,rfl,_⟩
 ·cases e3
 ·cases e3
 ·cases e3
 ·injection e3 with e3 _
  subst e3
  obtain⟨l,rfl,hl⟩:=ptrs_of ha
  rw[List.length_map] at ho
  obtain⟨p1,p2,p3,p4⟩:=arr_parts hn
  have hbs:sl.ownBlock≠some b:=fun h=>by
   obtain⟨rfl,h9⟩:=own_if hs h
   rw[if_neg h9] at p3;exact p3 rfl
  refine (insert_arr (pth:=pth) (key:=key) (x:=x) hvb ho (show i≤l.length by omega) (by omega) hbs).mono ?_
  intro e w' hend
  have q1:=flat_perm (Sp.fp f) (Sp.perm_lins i c al)
  rw[List.flatMap_cons] at q1
  have hnin:∀k∈al.flatMap (Sp.fp f),k∈Sp.fp (f+1) (Sp.nd b g (.slice al [])):=fun k hkm=>by rw[Sp.fp_arr];exact List.mem_cons_of_mem _ (List.mem_append_right _ hkm)
  have hown:∀k,k=b∨sl.ownBlock=some k→k∈Sp.fp (f+1) (Sp.nd b g (.slice al [])):=fun k hk=>by
   rw[Sp.fp_arr]
   rcases hk with rfl|h
   ·simp
   ·obtain⟨rfl,h9⟩:=own_if hs h
    simp[h9]
  have hnot:∀k∈al.flatMap (Sp.fp f),k≠b∧sl.ownBlock≠some k:=fun k hkm=>⟨fun e=>p2 (e▸hkm),fun h=>by
   obtain⟨rfl,h9⟩:=own_if hs h
   exact p4 k (by simp[h9]) hkm⟩
  refine arrEnd_ed h0 hn hs ha hend (fun W hW=>?_) ?_ ?_ (fun k hk=>⟨hc.lt k hk,hcd k hk⟩) (by have:=hvb.lt;omega)
  ·have ha':Al (TRep f W) (l.map Value.pointer) al:=ha.bel fun k hkm=>hW k (ha.lts k hkm) (hnot k hkm).1 (hnot k hkm).2
   have hc':TRep f W (.pointer x) c:=hc.move fun k hkm=>hW k (hc.lt k hkm) (fun e=>hcd k hkm (hown k (Or.inl e))) (fun e=>hcd k hkm (hown k (Or.inr e)))
   rw[Sp.map_lins]
   exact ha'.lins i hc'
  ·exact q1.nodup_iff.2 (List.nodup_append.2 ⟨hcn,p1,fun y hy z hz e=>hcd y hy (hnin _ (e▸hz))⟩)
  ·intro k hkm
   rcases List.mem_append.1 (q1.mem_iff.1 hkm) with h|h
   ·exact Or.inr h
   ·exact Or.inl h
 ·cases e3
theorem remA {g:Nat} {al:List Sp.A} (h:TRep (f+1) w u (Sp.nd b g (.slice al []))) (hn:(Sp.fp (f+1) (Sp.nd b g (.slice al []))).Nodup) (hi:i<al.length) :
  Calls Tryz.prog 246 #[plV pth b key i] w fun e w'=>e = .returned (.tuple #[]) ∧ ∃g',(g'=g∨w.heap.size≤g')∧EdOk f w w' u (Sp.nd b g (.slice al [])) (Sp.nd b g' (.slice (Sp.ldel i al) [])) (fun _=>False):=by
 have h0:=h
 obtain⟨b2,g2,x2,e,hu,h⟩:=h
 unfold Sp.nd at e;injection e with e;injection e with e1 e;injection e with e2 e;injection e with e3 _
 injection e1 with e1;injection e1 with _ e1;injection e2 with e2;injection e2 with _ e2
 obtain rfl:b=b2:=by omega
 obtain rfl:g=g2:=by omega
 rcases h with⟨j,_,_,rfl,_⟩|⟨n,_,rfl,_⟩|⟨s,_,rfl,_⟩|⟨al2,sl,ps,rfl,hvb,ho,hs,ha⟩|⟨es,n,D,rfl,_⟩
 ·cases e3
 ·cases e3
 ·cases e3
 ·injection e3 with e3 _
  subst e3
  obtain⟨l,rfl,hl⟩:=ptrs_of ha
  rw[List.length_map] at ho
  obtain⟨p1,p2,p3,p4⟩:=arr_parts hn
  have hbs:sl.ownBlock≠some b:=fun h=>by
   obtain⟨rfl,h9⟩:=own_if hs h
   rw[if_neg h9] at p3;exact p3 rfl
  refine (remove_arr (pth:=pth) (key:=key) hvb ho (show i<l.length by omega) hbs).mono ?_
  intro e w' hend
  obtain⟨old,hold2⟩:∃old,al[i]? = some old:=⟨_,List.getElem?_eq_getElem hi⟩
  have q2:=flat_perm (Sp.fp f) (Sp.perm_ldel hold2)
  rw[List.flatMap_cons] at q2
  have r1:=List.nodup_append.1 (q2.nodup_iff.1 p1)
  have hnot:∀k∈al.flatMap (Sp.fp f),k≠b∧sl.ownBlock≠some k:=fun k hkm=>⟨fun e=>p2 (e▸hkm),fun h=>by
   obtain⟨rfl,h9⟩:=own_if hs h
   exact p4 k (by simp[h9]) hkm⟩
  refine arrEnd_ed h0 hn hs ha hend (fun W hW=>?_) r1.2.1 (fun k hkm=>Or.inl (q2.mem_iff.2 (List.mem_append_right _ hkm))) (fun _ h=>h.elim) (by have:=hvb.lt;omega)
  have ha':Al (TRep f W) (l.map Value.pointer) al:=ha.bel fun k hkm=>hW k (ha.lts k hkm) (hnot k hkm).1 (hnot k hkm).2
  rw[Sp.map_ldel]
  exact ha'.ldel i
 ·cases e3
end
end
end Go.Proofs.YtdpomdelmdofmaaGreatDoor
