/-
  DIFF: lengthsOf.
-/
import Derived.Test.YtdpomdelmdofmaaGreatDoorMrg42
import Derived.Test.YtdpomdelmdofmaaGreatDoorMrg14
import Derived.Test.YtdpomdelmdofmaaGreatDoorMrg25
import Derived.Test.YtdpomdelmdofmaaGreatDoorMrg40
import Derived.Test.YtdpomdelmdofmaaGreatDoorMrg39
import Derived.Test.YtdpomdelmdofmaaGreatDoorMrg41
namespace Go.Proofs.YtdpomdelmdofmaaGreatDoor
section
set_option maxRecDepth 100000
set_option maxHeartbeats 8000000
open Go.RowKit Go.Maps
attribute [local go_sem] Oper.semAt_some
theorem row_ptr {f:Nat} {F:Nat→Prop} {w:World} {sl:Value} {ps:List Value} {xs:List Sp.V} (h:w.ownsRow 0 80 1 sl ps.length ps) (a:Al (Rep f F w) ps xs):ps.length=xs.length∧xs.length≤maxLen ∧ ∃ (ao:Option Addr) (cap g:Nat) (c:Nat→Option Addr),sl = .slice ao xs.length cap∧(0<xs.length→ao=some ⟨g,0,none⟩∧g<w.heap.size)∧(∀k,k<xs.length→w.cell? ⟨g,k,none⟩=some (.pointer (c k))) ∧ ∀k (hk:k<xs.length),Rep f F w (.pointer (c k)) xs[k]:=by
 have hl:=a.length
 obtain⟨c,hc⟩:∃c:Nat→Option Addr,∀k (hk:k<xs.length),ps[k]'(by omega) = .pointer (c k):=by
  refine⟨fun k=>if hk:k<xs.length then (match ps[k]'(by omega) with | .pointer p=>p|_=>none) else none,fun k hk=>?_⟩
  obtain⟨b,e,_⟩:=Rep.ptr (a.get k (by omega) hk)
  simp only[hk,dif_pos,e]
 have hr:∀k (hk:k<xs.length),Rep f F w (.pointer (c k)) xs[k]:=fun k hk=>by
  rw[← hc k hk]
  exact a.get k (by omega) hk
 rcases Nat.eq_zero_or_pos xs.length with h0|hp
 ·obtain⟨ao,n,cap,e,hn,_⟩:∃ao n cap,sl = .slice ao n cap∧n=xs.length∧True:=by
   rcases h.2 with⟨e,h1⟩|⟨g,cap,cur,e,_⟩
   ·exact⟨_,_,_,e,by omega,trivial⟩
   ·exact⟨_,_,_,e,by omega,trivial⟩
  subst hn
  exact⟨hl,by unfold maxLen;omega,ao,cap,0,c,e,(fun hh=>by omega),(fun k hk=>by omega),hr⟩
 ·obtain⟨g,cap,e,h1,h2,h3,h4⟩:=owns_cell1 h (by omega)
  rw[hl] at e h1
  exact⟨hl,by omega,some ⟨g,0,none⟩,cap,g,c,e,fun _=>⟨rfl,h3⟩,fun k hk=>by rw[h4 k (by omega),hc k hk],hr⟩
theorem max_two (a b c:Nat) (h:c=max a b) (tys:Array TypeId) (ty:TypeId) (w:World):(Builtin.max_ tys ty #[.int .i64 a,.int .i64 b]).run Tryz.prog w = .ok (.int .i64 c) w:=by
 subst h
 by_cases h2:a≤b
 ·have e:max a b=b:=by omega
  rw[e]
  by_cases h3:(a:Int)<b
  ·simp[Builtin.max_,Builtin.max2,h3]
  ·have e2:a=b:=by omega
   subst e2
   simp[Builtin.max_,Builtin.max2]
 ·have e:max a b=a:=by omega
  rw[e]
  have h3:¬ (a:Int)<b:=by omega
  simp[Builtin.max_,Builtin.max2,h3]
structure OuA (w:World) (s1 s2:Value) (C:Nat) (V:Nat→Nat→Nat) (B X i:Nat) (x:Option Addr) (W:World):Prop where
 inv:LnI w s1 s2 C V W
 ne:B+1<X
 bi:W.heap[X]? = some (.cells #[.int .i64 i] 3 (0,0))
 bx:W.heap[X+1]? = some (.cells #[.pointer x] 80 (0,0))
theorem OuA.kept {w W W':World} {s1 s2:Value} {C:Nat} {V:Nat→Nat→Nat} {B X i:Nat} {x:Option Addr} (h:OuA w s1 s2 C V B X i x W) (hB:w.heap.size+4≤B) (e1:W'.os=W.os) (e2:W'.tape=W.tape) (e3:W'.output=W.output) (e4:W.heap.size≤W'.heap.size) (e5:∀j,j<W.heap.size→j≠B→j≠B+1→W'.heap[j]? = W.heap[j]?):OuA w s1 s2 C V B X i x W':=by
 have hn:=h.ne
 exact⟨h.inv.kept e1 e2 e3 e4 fun j hj=>e5 j (by have:=h.inv.sz;omega) (by omega) (by omega),hn,(e5 X (Array.getElem?_eq_some_iff.1 h.bi).1 (by omega) (by omega)).trans h.bi,(e5 (X+1) (Array.getElem?_eq_some_iff.1 h.bx).1 (by omega) (by omega)).trans h.bx⟩
structure InI (w:World) (s1 s2:Value) (C:Nat) (V:Nat→Nat→Nat) (B X i:Nat) (x:Option Addr) (W W2:World):Prop where
 inv:OuA w s1 s2 C V B X i x W2
 two:Two B W W2
 bac:W2.heap[W.heap.size]? = some (.cells #[s2] 106 (0,0))
theorem InI.kept {w W W2 W':World} {s1 s2:Value} {C:Nat} {V:Nat→Nat→Nat} {B X i:Nat} {x:Option Addr} (h:InI w s1 s2 C V B X i x W W2) (hB:w.heap.size+4≤B) (hW:X+1<W.heap.size) (e1:W'.os=W2.os) (e2:W'.tape=W2.tape) (e3:W'.output=W2.output) (e4:W2.heap.size≤W'.heap.size) (e5:∀j,j<W2.heap.size→j≠W.heap.size+1→j≠W.heap.size+1+1→W'.heap[j]? = W2.heap[j]?):InI w s1 s2 C V B X i x W W':=by
 have hn:=h.inv.ne
 have hb:=(Array.getElem?_eq_some_iff.1 h.bac).1
 refine⟨⟨h.inv.inv.kept e1 e2 e3 e4 fun j hj=>e5 j (by have:=h.inv.inv.sz;omega) (by omega) (by omega),hn,(e5 X (by omega) (by omega) (by omega)).trans h.inv.bi,(e5 (X+1) (by omega) (by omega) (by omega)).trans h.inv.bx⟩,⟨(e5 B (by omega) (by omega) (by omega)).trans h.two.1,(e5 (B+1) (by omega) (by omega) (by omega)).trans h.two.2⟩,(e5 _ hb (by omega) (by omega)).trans h.bac⟩
theorem InI.next {w W W2 W4:World} {s1 s2:Value} {C C':Nat} {V V':Nat→Nat→Nat} {B X i:Nat} {x:Option Addr} (h:InI w s1 s2 C V B X i x W W2) (hB:w.heap.size+4≤B) (hW:X+1<W.heap.size) (h4:LnI w s1 s2 C' V' W4) (hg:W2.grownBy W4 (some (w.heap.size+1))):InI w s1 s2 C' V' B X i x W W4:=by
 have hn:=h.inv.ne
 have hb:=(Array.getElem?_eq_some_iff.1 h.bac).1
 have hk:∀j,j<W2.heap.size→j≠w.heap.size+1→W4.heap[j]? = W2.heap[j]?:=fun j hj hne=>hg.block j hj (fun e=>hne (Option.some.inj e))
 exact⟨⟨h4,hn,(hk X (by omega) (by omega)).trans h.inv.bi,(hk (X+1) (by omega) (by omega)).trans h.inv.bx⟩,⟨(hk B (by omega) (by omega)).trans h.two.1,(hk (B+1) (by omega) (by omega)).trans h.two.2⟩,(hk _ hb (by omega)).trans h.bac⟩
theorem lengthsOf_any {f:Nat} {F F':Nat→Prop} {w:World} {sl1 sl2:Value} {ps1 ps2:List Value} {xs ys:List Sp.V} (o1:w.ownsRow 0 80 1 sl1 ps1.length ps1) (a1:Al (Rep f F w) ps1 xs) (o2:w.ownsRow 0 80 1 sl2 ps2.length ps2) (a2:Al (Rep f F' w) ps2 ys) (hn:(xs.length+1)*(ys.length+1)≤1000000) :
  Calls Tryz.prog 209 #[sl1,sl2] w fun e w'=>∃m cnt D,e = .returned (.map (some m))∧w.heap.size≤m∧w'.ownsMap Tryz.prog 273 IE m cnt D∧Tb D (fun i j=>Sp.lcs (xs.drop i) (ys.drop j))∧Below w.heap.size w w':=by
 obtain⟨_,hN,ao1,cap1,g1,c1,rfl,hg1,hc1,hr1⟩:=row_ptr o1 a1
 obtain⟨_,hM,ao2,cap2,g2,c2,rfl,hg2,hc2,hr2⟩:=row_ptr o2 a2
 obtain⟨N,hNe⟩:∃N,N=xs.length:=⟨_,rfl⟩
 obtain⟨M,hMe⟩:∃M,M=ys.length:=⟨_,rfl⟩
 have hN6:N≤1000000:=by
  have:(xs.length+1)*1≤(xs.length+1)*(ys.length+1):=Nat.mul_le_mul_left _ (by omega)
  omega
 have hM6:M≤1000000:=by
  have:1*(ys.length+1)≤(xs.length+1)*(ys.length+1):=Nat.mul_le_mul_right _ (by omega)
  omega
 have hNM:N*M≤1000000:=by
  have:xs.length*ys.length≤(xs.length+1)*(ys.length+1):=Nat.mul_le_mul (by omega) (by omega)
  rw[hNe,hMe];omega
 rw[← hNe] at hN hg1 hc1
 rw[← hMe] at hM hg2 hc2
 rw[← hNe,← hMe]
 obtain⟨wB,hwB⟩:∃wB,wB=((((w.alloc (.cells #[.slice ao2 M cap2] 106)).alloc (.map #[] 0)).alloc (.cells #[.map (some (w.heap.size+1))] 270)).alloc (.cells #[.slice ao1 N cap1] 106)):=⟨_,rfl⟩
 obtain⟨wB0,hwB0⟩:∃wB0,wB0=(w.alloc (.cells #[.slice ao2 M cap2] 106)).alloc (.map #[] 0):=⟨_,rfl⟩
 have hs0:wB0.heap.size=w.heap.size+2:=by rw[hwB0];simp
 have hbs:wB.heap.size=w.heap.size+4:=by rw[hwB,← hwB0];simp[hs0]
 have hb0:Below w.heap.size w wB:=by
  rw[hwB]
  exact ((((Below.refl _ w).alloc (Nat.le_refl _) _).alloc (by simp) _).alloc (by simp;omega) _).alloc (by simp;omega) _
 have hI0:LnI w (.slice ao1 N cap1) (.slice ao2 M cap2) 0 (Sp.lv xs ys 0 0) wB:=by
  have e1:∀j,j<w.heap.size+2→wB.heap[j]? = wB0.heap[j]?:=fun j hj=>by
   rw[hwB,← hwB0]
   exact (Below.heap_alloc _ _ j (by simp;omega)).trans (Below.heap_alloc _ _ j (by omega))
  refine⟨?_,?_,?_,⟨0,.map [],Nat.le_refl _,?_,⟨⟨_,rfl⟩,fun i j _ _=>by rw[Sp.lv_0];rfl⟩⟩,hb0⟩
  ·rw[e1 _ (by omega),hwB0]
   exact (Below.heap_alloc _ _ _ (by simp)).trans (heap_alloc_new w _)
  ·rw[hwB,← hwB0]
   have:=heap_alloc_new wB0 (.cells #[.map (some (w.heap.size+1))] 270)
   rw[hs0] at this
   exact (Below.heap_alloc _ _ _ (by simp;omega)).trans this
  ·rw[hwB,← hwB0]
   have:=heap_alloc_new (wB0.alloc (.cells #[.map (some (w.heap.size+1))] 270)) (.cells #[.slice ao1 N cap1] 106)
   rw[World.size_alloc,hs0] at this
   exact this
  ·refine tmap_kept (w:=wB0) ?_ (e1 _ (by omega))
   rw[hwB0]
   have:=World.ownsMap_made (w.alloc (.cells #[.slice ao2 M cap2] 106)) Tryz.prog 273 IE
   rw[World.size_alloc] at this
   exact this
 have hmm:=@run_makeMap Tryz.prog
 have HNe:=hide hNe
 have HMe:=hide hMe
 have HWB:=hide hwB
 have HI0:=hide hI0
 have HBS:=hide hbs
 have HG1:=hide hg1
 have HG2:=hide hg2
 have HC1:=hide hc1
 have HC2:=hide hc2
 have HR1:=hide hr1
 have HR2:=hide hr2
 clear o1 o2 a1 a2 hn hNe hMe hwB hwB0 hs0 hI0 hbs hg1 hg2 hc1 hc2 hr1 hr2 hb0
 refine (callsIn_wide (n:=0)).1 (callsIn_of_wp_marks Tryz.func209 rfl trivial ?_ rfl)
 simp only[Tryz.ntmps209,List.size_toArray,List.length_cons,List.length_nil,Nat.reduceAdd,Nat.reduceSub,Array.replicate_succ,Array.replicate_zero,List.push_toArray,List.append_toArray,List.nil_append,List.cons_append]
 gi_wp2_with (refine⟨trivial,rfl,?_⟩;gi_at_call 254;refine (callsIn_wide.2 backV_any).mono ?_;rintro e w' ⟨rfl,rfl⟩)
 simp only[Nat.add_assoc,Nat.reduceAdd]
 rw[← unhide HWB]
 refine range_turns (gf:=292) (lb:=#[.pointer (some ⟨w.heap.size+3,0,none⟩)]) rfl (ent_of Tryz.func292 (by kernel_rfl) rfl) N (fun k=>#[.int .i64 ((N-1-k:Nat):Int),.pointer (c1 (N-1-k))]) (fun _=>rfl) (fun k=>LnI w (.slice ao1 N cap1) (.slice ao2 M cap2) (k*M) (Sp.lv xs ys k 0))
  (fun k a' W=>∃X,OuA w (.slice ao1 N cap1) (.slice ao2 M cap2) (k*M) (Sp.lv xs ys k 0) wB.heap.size X (N-1-k) (c1 (N-1-k)) W∧a'={ tmps:=#[.slice ao1 N cap1,.slice ao2 M cap2,undef,.pointer (some ⟨w.heap.size,0,none⟩),.map none,.pointer (some ⟨w.heap.size+2,0,none⟩),.pointer (some ⟨X,0,none⟩),.pointer (some ⟨X+1,0,none⟩),undef,undef,.map (some (w.heap.size+1)),.slice ao1 N cap1,.func (.func 292) #[] #[.pointer (some ⟨w.heap.size+3,0,none⟩)],.int .i64 ((N-1-k:Nat):Int),.pointer (c1 (N-1-k)),undef,undef,undef,undef,undef,undef,undef,undef,undef,undef,undef,undef,undef,undef,undef,undef,undef,undef,undef,undef,undef,undef,undef,undef,undef,undef,undef,undef,undef,undef,undef,undef,undef,undef,undef,undef,undef],defers:=[] })
  ?hI ?hA (by rw[Nat.zero_mul];exact unhide HI0) ?hiter ?hassign ?hbody ?hdone
 case hI =>
  rw[unhide HBS]
  intro k W W' h e1 e2 e3 e4 e5
  exact h.kept e1 e2 e3 e4 fun j hj=>e5 j (by have:=h.sz;omega) (by omega) (by omega)
 case hA =>
  rintro k a' W W' ⟨X,hX,e⟩ e1 e2 e3 e4 e5
  exact⟨X,hX.kept (by rw[unhide HBS];omega) e1 e2 e3 e4 e5,e⟩
 case hiter =>
  intro l J W hJI hY hJ0
  refine back1V_in (cap:=cap1) (c:=c1) (g:=g1) hN (fun hp=>(unhide HG1 hp).1) (fun k W hj=>?_) hY hJ0
  have hi:=hJI k W hj
  refine⟨by have:=hi.bac;simp[World.cell?,this],fun j hj2=>?_⟩
  have hp:=unhide HG1 (by omega)
  exact (hi.bel.cell (p:=⟨g1,j,none⟩) hp.2).trans (unhide HC1 j hj2)
 case hassign =>
  intro l k W hk hi hsz
  have HII:=hide hi
  clear hi
  gi_wp2
  have hb:=((Below.refl W.heap.size W).alloc (Nat.le_refl _) (.cells #[.int .i64 ((N-1-k:Nat):Int)] 3)).alloc (by simp) (.cells #[.pointer (c1 (N-1-k))] 80)
  have h2:=heap_alloc_new (W.alloc (.cells #[.int .i64 ((N-1-k:Nat):Int)] 3)) (.cells #[.pointer (c1 (N-1-k))] 80)
  rw[World.size_alloc] at h2
  exact⟨⟨hb.block _ (by omega),hb.block _ hsz⟩,(unhide HII).low hb,hsz,(Below.heap_alloc _ _ _ (by simp)).trans (heap_alloc_new W _),h2⟩
 case hbody =>
  rintro l k a' W hk ⟨X,hX,rfl⟩ hsz ⟨hl,r0,hl0⟩
  have bx:=hX.inv.box
  have hws:=hX.inv.sz
  have bc:W.cell? ⟨w.heap.size,0,none⟩=some (.slice ao2 M cap2):=by simp[World.cell?,bx]
  have hXl:X+1<W.heap.size:=(Array.getElem?_eq_some_iff.1 hX.bx).1
  have HX:=hide hX
  have HL0:=hide hl0
  have HL:=hide hl
  obtain⟨W1,hW1⟩:∃W1,W1=W.alloc (.cells #[.slice ao2 M cap2] 106):=⟨_,rfl⟩
  have hs1:W1.heap.size=W.heap.size+1:=by rw[hW1];simp
  have hb1:Below W.heap.size W W1:=by rw[hW1];exact (Below.refl _ _).alloc (Nat.le_refl _) _
  have hI1:InI w (.slice ao1 N cap1) (.slice ao2 M cap2) (k*M) (Sp.lv xs ys k 0) wB.heap.size X (N-1-k) (c1 (N-1-k)) W W1:=by
   refine⟨hX.kept (by rw[unhide HBS];omega) hb1.os hb1.tape hb1.output hb1.size fun j hj _ _=>hb1.block j hj,⟨hb1.block _ (by omega),hb1.block _ hsz⟩,by rw[hW1];exact heap_alloc_new W _⟩
  have HW1:=hide hW1
  have HI1:=hide hI1
  have HB1:=hide hb1
  clear hX bx hl0 hl hW1 hI1 hb1
  gi_wp2_with (refine⟨trivial,rfl,?_⟩;gi_at_call 254;refine (callsIn_wide.2 backV_any).mono ?_;rintro e w' ⟨rfl,rfl⟩)
  rw[← unhide HW1]
  refine range_turns_in (r₀:=r0) (gf:=292) (lb:=#[.pointer (some ⟨W.heap.size,0,none⟩)]) ((unhide HB1).block l (by have:=unhide HL;omega) |>.trans (unhide HL0)) rfl (ent_of Tryz.func292 (by kernel_rfl) rfl) M (fun q=>#[.int .i64 ((M-1-q:Nat):Int),.pointer (c2 (M-1-q))]) (fun _=>rfl) (fun q=>InI w (.slice ao1 N cap1) (.slice ao2 M cap2) (k*M+q) (Sp.lv xs ys k q) wB.heap.size X (N-1-k) (c1 (N-1-k)) W)
   (fun q a' W2=>InI w (.slice ao1 N cap1) (.slice ao2 M cap2) (k*M+q) (Sp.lv xs ys k q) wB.heap.size X (N-1-k) (c1 (N-1-k)) W W2∧a'={ tmps:=#[.slice ao1 N cap1,.slice ao2 M cap2,undef,.pointer (some ⟨w.heap.size,0,none⟩),.map none,.pointer (some ⟨w.heap.size+2,0,none⟩),.pointer (some ⟨X,0,none⟩),.pointer (some ⟨X+1,0,none⟩),.int .i64 ((M-1-q:Nat):Int),.pointer (c2 (M-1-q)),.map (some (w.heap.size+1)),.slice ao1 N cap1,.func (.func 292) #[] #[.pointer (some ⟨w.heap.size+3,0,none⟩)],.int .i64 ((N-1-k:Nat):Int),.pointer (c1 (N-1-k)),.slice ao2 M cap2,.func (.func 292) #[] #[.pointer (some ⟨W.heap.size,0,none⟩)],.int .i64 ((M-1-q:Nat):Int),.pointer (c2 (M-1-q)),undef,undef,undef,undef,undef,undef,undef,undef,undef,undef,undef,undef,undef,undef,undef,undef,undef,undef,undef,undef,undef,undef,undef,undef,undef,undef,undef,undef,undef,undef,undef,undef,undef],defers:=[] })
   ?hI2 ?hA2 (unhide HI1) ?hiter2 ?hassign2 ?hbody2 ?hdone2
  case hI2 =>
   rw[hs1]
   intro q W2 W3 h e1 e2 e3 e4 e5
   exact h.kept (by rw[unhide HBS];omega) hXl e1 e2 e3 e4 fun j hj h1 h2=>e5 j hj h1 h2
  case hA2 =>
   rw[hs1]
   rintro q a' W2 W3 ⟨h,e⟩ e1 e2 e3 e4 e5
   exact⟨h.kept (by rw[unhide HBS];omega) hXl e1 e2 e3 e4 fun j hj h1 h2=>e5 j hj h1 h2,e⟩
  case hiter2 =>
   intro l2 J W2 hJI hY hJ0
   refine back1V_in (cap:=cap2) (c:=c2) (g:=g2) hM (fun hp=>(unhide HG2 hp).1) (fun q W2 hj=>?_) hY hJ0
   have hi:=hJI q W2 hj
   refine⟨by have:=hi.bac;simp[World.cell?,this],fun j hj2=>?_⟩
   have hp:=unhide HG2 (by omega)
   exact (hi.inv.inv.bel.cell (p:=⟨g2,j,none⟩) hp.2).trans (unhide HC2 j hj2)
  case hassign2 =>
   intro l2 q W2 hq hi hsz2
   have HII:=hide hi
   clear hi
   gi_wp2
   exact unhide HII
  case hdone2 =>
   intro W2 hI2
   have h3:=hI2.inv.inv.as (C':=(k+1)*M) (V':=Sp.lv xs ys (k+1) 0) (by rw[Nat.succ_mul];omega) (fun i j=>by rw[unhide HMe];exact Sp.lv_row k i j)
   have HII:=hide (And.intro hI2.two h3)
   clear hI2 h3
   gi_wp2
   exact unhide HII
  case hbody2 =>
   rintro l2 q a' W2 hq ⟨hI2,rfl⟩ hsz2
   have xbx:=hI2.inv.bx
   have xc:W2.cell? ⟨X+1,0,none⟩=some (.pointer (c1 (N-1-k))):=by simp[World.cell?,xbx]
   have hbw:=hI2.inv.inv.bel
   have HSAME:=hide (Same_any f F F' W2 _ _ _ _ ((unhide HR1 (N-1-k) (by have:=unhide HNe;omega)).bel hbw) ((unhide HR2 (M-1-q) (by have:=unhide HMe;omega)).bel hbw))
   have HII:=hide hI2
   clear xbx hbw hI2
   obtain⟨i0,hi0⟩:∃i0,i0=N-1-k:=⟨_,rfl⟩
   obtain⟨j0,hj0⟩:∃j0,j0=M-1-q:=⟨_,rfl⟩
   have hi6:i0≤1000000:=by omega
   have hj6:j0≤1000000:=by omega
   have HSTEP:=hide (fun i j=>Sp.lv_step (xs:=xs) (ys:=ys) (k:=k) (q:=q) (by have:=unhide HNe;omega) (by have:=unhide HMe;omega) i j)
   have HCNT:=hide (show k*M+q<1000000000 by
    have:(k+1)*M≤N*M:=Nat.mul_le_mul_right _ (by omega)
    rw[Nat.succ_mul] at this
    omega)
   obtain⟨vq,hvq⟩:∃vq,vq=veq (xs[N-1-k]'(by have:=unhide HNe;omega)) (ys[M-1-q]'(by have:=unhide HMe;omega)):=⟨_,rfl⟩
   rw[← hvq] at HSAME
   simp only[← unhide HNe,← unhide HMe,← hvq] at HSTEP
   rw[← hi0,← hj0] at HSAME HSTEP
   rw[← hi0] at xc HII
   simp only[← hi0,← hj0]
   obtain⟨i1,hi1⟩:∃i1,i1=i0+1:=⟨_,rfl⟩
   obtain⟨j1,hj1⟩:∃j1,j1=j0+1:=⟨_,rfl⟩
   simp only[← hi1,← hj1] at HSTEP
   have w1:IntKind.i64.wrap ((i0:Int)+1)=(i1:Int):=by rw[IntKind.wrap_i64];omega
   have w2:IntKind.i64.wrap ((j0:Int)+1)=(j1:Int):=by rw[IntKind.wrap_i64];omega
   have hi7:i1≤1000000:=by have:=unhide HNe;omega
   have hj7:j1≤1000000:=by have:=unhide HMe;omega
   have HLE:=hide (fun i j=>show Sp.lv xs ys k q i j≤1000000 from Nat.le_trans (Sp.lv_le k q i j) (by have:=unhide HNe;omega))
   clear hvq hi0 hj0 hi1 hj1
   gi_wp2_with (refine⟨trivial,rfl,?_⟩;gi_at_call 82;refine (callsIn_wide.2 (unhide HSAME)).mono ?_;rintro e W3 ⟨rfl,hb3⟩;have HB3:=hide hb3;clear hb3;cases vq)
   case true =>
    have hb3:=unhide HB3
    have hI3:=(unhide HII).kept (by rw[unhide HBS];omega) hXl hb3.os hb3.tape hb3.output hb3.size fun j hj _ _=>hb3.block j hj
    obtain⟨u,hu⟩:∃u,u=Sp.lv xs ys k q i1 j1:=⟨_,rfl⟩
    have lk:=hI3.inv.inv.look (i:=i1) (j:=j1) hi7 hj7 (W':=W3.drew) rfl
    rw[← hu] at lk
    have hu6:u≤1000000:=by rw[hu];exact unhide HLE i1 j1
    obtain⟨u1,hu1⟩:∃u1,u1=1+u:=⟨_,rfl⟩
    have w3:IntKind.i64.wrap (1+(u:Int))=(u1:Int):=by rw[IntKind.wrap_i64];omega
    have hu7:u1≤1000000:=by
     have h8:=unhide HSTEP i0 j0
     rw[if_pos ⟨rfl,rfl⟩] at h8
     simp only[if_true] at h8
     have h9:=Sp.lv_le (xs:=xs) (ys:=ys) k (q+1) i0 j0
     have:=unhide HNe
     omega
    obtain⟨W4,hup,hI4,hg4⟩:=hI3.inv.inv.put (a:=i0) (b:=j0) (v:=u1) (unhide HCNT) hi6 hj6 (by omega)
    have r5:W3.drew.cell? ⟨w.heap.size+2,0,none⟩=some (.map (some (w.heap.size+1))):=(show W3.cell? _=_ from by have:=hI3.inv.inv.left;simp[World.cell?,this])
    have r6:W3.drew.cell? ⟨X,0,none⟩=some (.int .i64 i0):=(show W3.cell? _=_ from by have:=hI3.inv.bi;simp[World.cell?,this])
    have HEND:=hide (show W4.heap[W.heap.size+1]? = W2.heap[W.heap.size+1]? ∧ InI w (.slice ao1 N cap1) (.slice ao2 M cap2) (k*M+(q+1)) (Sp.lv xs ys k (q+1)) wB.heap.size X i0 (c1 i0) W W4 from by
     have h5:=hI4.as (V':=Sp.lv xs ys k (q+1)) (Nat.le_refl _) (fun i j=>by have h8:=unhide HSTEP i j;simp only[if_true] at h8;rw[hu1,hu];exact h8)
     refine⟨(hg4.block _ (by have:=hb3.size;omega) (fun e=>?_)).trans (hb3.block _ (by omega)),hI3.next (by rw[unhide HBS];omega) hXl h5 hg4⟩
     have:=Option.some.inj e
     omega)
    clear hI3 hI4 hg4 hb3 xc hu hu1
    gi_wp2
    refine wpIn_region_any (by kernel_rfl) ?_
    refine wpAnyIn_det (A:=fun L=>{ tmps:=#[.slice ao1 N cap1,.slice ao2 M cap2,undef,.pointer (some ⟨w.heap.size,0,none⟩),.map none,.pointer (some ⟨w.heap.size+2,0,none⟩),.pointer (some ⟨X,0,none⟩),.pointer (some ⟨X+1,0,none⟩),.int .i64 j0,.pointer (c2 j0),.map (some (w.heap.size+1)),.slice ao1 N cap1,.func (.func 292) #[] #[.pointer (some ⟨w.heap.size+3,0,none⟩)],.int .i64 i0,.pointer (c1 i0),.slice ao2 M cap2,.func (.func 292) #[] #[.pointer (some ⟨W.heap.size,0,none⟩)],.int .i64 j0,.pointer (c2 j0),.pointer (c1 i0),.pointer (c2 j0),.bool true,cond (L 0) (.map (some (w.heap.size+1))) undef,cond (L 1) (.int .i64 i0) undef,cond (L 2) (.int .i64 j0) undef,cond (L 3) (.agg #[.int .i64 i0,.int .i64 j0]) undef,cond (L 4) (.map (some (w.heap.size+1))) undef,cond (L 5) (.int .i64 i0) undef,cond (L 6) (.int .i64 i1) undef,cond (L 7) (.int .i64 j0) undef,cond (L 8) (.int .i64 j1) undef,cond (L 9) (.agg #[.int .i64 i1,.int .i64 j1]) undef,cond (L 10) (.int .i64 u) undef,cond (L 11) (.int .i64 u1) undef,undef,undef,undef,undef,undef,undef,undef,undef,undef,undef,undef,undef,undef,undef,undef,undef,undef,undef],defers:=[] }) (Wd:=fun L=>cond (L 12) W4 W3.drew) 13 rfl (by kernel_rfl) ?hs ?he
    case hs =>
     intro L i o ho hi hno haft hcl K hK
     have hcase:i=0∨i=1∨i=2∨i=3∨i=4∨i=5∨i=6∨i=7∨i=8∨i=9∨i=10∨i=11∨i=12:=by omega
     rcases hcase with rfl|rfl|rfl|rfl|rfl|rfl|rfl|rfl|rfl|rfl|rfl|rfl|rfl
     ·obtain rfl:=Option.some.inj ho
      have nl:L 12=false:=by
       cases h:L 12
       ·rfl
       ·exact absurd (hcl 12 _ rfl h ⟨0,.phase⟩ (by simp) rfl) (by rw[hno];decide)
      refine wpOpIn_step rfl fun K' hK'=>?_
      simp (decide:=true) only[upd,nl,hno,cond_true,cond_false,if_true,if_false] at hK ⊢
      go_simp
      exact hK' _ _ hK
     ·obtain rfl:=Option.some.inj ho
      have nl:L 12=false:=by
       cases h:L 12
       ·rfl
       ·exact absurd (hcl 12 _ rfl h ⟨1,.phase⟩ (by simp) rfl) (by rw[hno];decide)
      refine wpOpIn_step rfl fun K' hK'=>?_
      simp (decide:=true) only[upd,nl,hno,cond_true,cond_false,if_true,if_false] at hK ⊢
      go_simp
      exact hK' _ _ hK
     ·obtain rfl:=Option.some.inj ho
      have nl:L 12=false:=by
       cases h:L 12
       ·rfl
       ·exact absurd (hcl 12 _ rfl h ⟨2,.phase⟩ (by simp) rfl) (by rw[hno];decide)
      refine wpOpIn_step rfl fun K' hK'=>?_
      simp (decide:=true) only[upd,nl,hno,cond_true,cond_false,if_true,if_false] at hK ⊢
      go_simp
      exact hK' _ _ hK
     ·obtain rfl:=Option.some.inj ho
      have a1:=haft ⟨1,.data⟩ (by simp) rfl
      have a2:=haft ⟨2,.data⟩ (by simp) rfl
      have nl:L 12=false:=by
       cases h:L 12
       ·rfl
       ·exact absurd (hcl 12 _ rfl h ⟨3,.phase⟩ (by simp) rfl) (by rw[hno];decide)
      refine wpOpIn_step rfl fun K' hK'=>?_
      simp (decide:=true) only[upd,a1,a2,nl,hno,cond_true,cond_false,if_true,if_false] at hK ⊢
      go_simp
      exact hK' _ _ hK
     ·obtain rfl:=Option.some.inj ho
      have nl:L 12=false:=by
       cases h:L 12
       ·rfl
       ·exact absurd (hcl 12 _ rfl h ⟨4,.phase⟩ (by simp) rfl) (by rw[hno];decide)
      refine wpOpIn_step rfl fun K' hK'=>?_
      simp (decide:=true) only[upd,nl,hno,cond_true,cond_false,if_true,if_false] at hK ⊢
      go_simp
      exact hK' _ _ hK
     ·obtain rfl:=Option.some.inj ho
      have nl:L 12=false:=by
       cases h:L 12
       ·rfl
       ·exact absurd (hcl 12 _ rfl h ⟨5,.phase⟩ (by simp) rfl) (by rw[hno];decide)
      refine wpOpIn_step rfl fun K' hK'=>?_
      simp (decide:=true) only[upd,nl,hno,cond_true,cond_false,if_true,if_false] at hK ⊢
      go_simp
      exact hK' _ _ hK
     ·obtain rfl:=Option.some.inj ho
      have a5:=haft ⟨5,.data⟩ (by simp) rfl
      have nl:L 12=false:=by
       cases h:L 12
       ·rfl
       ·exact absurd (hcl 12 _ rfl h ⟨6,.phase⟩ (by simp) rfl) (by rw[hno];decide)
      refine wpOpIn_step rfl fun K' hK'=>?_
      simp (decide:=true) only[upd,a5,nl,hno,cond_true,cond_false,if_true,if_false] at hK ⊢
      go_simp
      exact hK' _ _ hK
     ·obtain rfl:=Option.some.inj ho
      have nl:L 12=false:=by
       cases h:L 12
       ·rfl
       ·exact absurd (hcl 12 _ rfl h ⟨7,.phase⟩ (by simp) rfl) (by rw[hno];decide)
      refine wpOpIn_step rfl fun K' hK'=>?_
      simp (decide:=true) only[upd,nl,hno,cond_true,cond_false,if_true,if_false] at hK ⊢
      go_simp
      exact hK' _ _ hK
     ·obtain rfl:=Option.some.inj ho
      have a7:=haft ⟨7,.data⟩ (by simp) rfl
      have nl:L 12=false:=by
       cases h:L 12
       ·rfl
       ·exact absurd (hcl 12 _ rfl h ⟨8,.phase⟩ (by simp) rfl) (by rw[hno];decide)
      refine wpOpIn_step rfl fun K' hK'=>?_
      simp (decide:=true) only[upd,a7,nl,hno,cond_true,cond_false,if_true,if_false] at hK ⊢
      go_simp
      exact hK' _ _ hK
     ·obtain rfl:=Option.some.inj ho
      have a6:=haft ⟨6,.data⟩ (by simp) rfl
      have a8:=haft ⟨8,.data⟩ (by simp) rfl
      have nl:L 12=false:=by
       cases h:L 12
       ·rfl
       ·exact absurd (hcl 12 _ rfl h ⟨9,.phase⟩ (by simp) rfl) (by rw[hno];decide)
      refine wpOpIn_step rfl fun K' hK'=>?_
      simp (decide:=true) only[upd,a6,a8,nl,hno,cond_true,cond_false,if_true,if_false] at hK ⊢
      go_simp
      exact hK' _ _ hK
     ·obtain rfl:=Option.some.inj ho
      have a4:=haft ⟨4,.data⟩ (by simp) rfl
      have a9:=haft ⟨9,.data⟩ (by simp) rfl
      have nl:L 12=false:=by
       cases h:L 12
       ·rfl
       ·exact absurd (hcl 12 _ rfl h ⟨10,.phase⟩ (by simp) rfl) (by rw[hno];decide)
      refine wpOpIn_step rfl fun K' hK'=>?_
      simp (decide:=true) only[upd,a4,a9,nl,hno,cond_true,cond_false,if_true,if_false] at hK ⊢
      go_simp
      exact hK' _ _ hK
     ·obtain rfl:=Option.some.inj ho
      have a10:=haft ⟨10,.data⟩ (by simp) rfl
      have nl:L 12=false:=by
       cases h:L 12
       ·rfl
       ·exact absurd (hcl 12 _ rfl h ⟨11,.phase⟩ (by simp) rfl) (by rw[hno];decide)
      refine wpOpIn_step rfl fun K' hK'=>?_
      simp (decide:=true) only[upd,a10,nl,hno,cond_true,cond_false,if_true,if_false] at hK ⊢
      go_simp
      exact hK' _ _ hK
     ·obtain rfl:=Option.some.inj ho
      have a0:=haft ⟨0,.data⟩ (by simp) rfl
      have a1:=haft ⟨1,.phase⟩ (by simp) rfl
      have a2:=haft ⟨2,.phase⟩ (by simp) rfl
      have a3:=haft ⟨3,.data⟩ (by simp) rfl
      have a4:=haft ⟨4,.phase⟩ (by simp) rfl
      have a5:=haft ⟨5,.phase⟩ (by simp) rfl
      have a6:=haft ⟨6,.phase⟩ (by simp) rfl
      have a7:=haft ⟨7,.phase⟩ (by simp) rfl
      have a8:=haft ⟨8,.phase⟩ (by simp) rfl
      have a9:=haft ⟨9,.phase⟩ (by simp) rfl
      have a10:=haft ⟨10,.phase⟩ (by simp) rfl
      have a11:=haft ⟨11,.data⟩ (by simp) rfl
      refine wpOpIn_step rfl fun K' hK'=>?_
      simp (decide:=true) only[upd,a0,a1,a2,a3,a4,a5,a6,a7,a8,a9,a10,a11,hno,cond_true,cond_false,if_true,if_false] at hK ⊢
      go_simp
      exact hK' _ _ hK
    case he =>
     intro L hL
     have h0:=hL 0 (by decide)
     have h1:=hL 1 (by decide)
     have h2:=hL 2 (by decide)
     have h3:=hL 3 (by decide)
     have h4:=hL 4 (by decide)
     have h5:=hL 5 (by decide)
     have h6:=hL 6 (by decide)
     have h7:=hL 7 (by decide)
     have h8:=hL 8 (by decide)
     have h9:=hL 9 (by decide)
     have h10:=hL 10 (by decide)
     have h11:=hL 11 (by decide)
     have h12:=hL 12 (by decide)
     simp only[h0,h1,h2,h3,h4,h5,h6,h7,h8,h9,h10,h11,h12,cond_true]
     clear hL h0 h1 h2 h3 h4 h5 h6 h7 h8 h9 h10 h11 h12
     gi_wp2
     exact unhide HEND
   case false =>
    have hb3:=unhide HB3
    have hI3:=(unhide HII).kept (by rw[unhide HBS];omega) hXl hb3.os hb3.tape hb3.output hb3.size fun j hj _ _=>hb3.block j hj
    obtain⟨a1,ha1⟩:∃a1,a1=Sp.lv xs ys k q i1 j0:=⟨_,rfl⟩
    obtain⟨a2,ha2⟩:∃a2,a2=Sp.lv xs ys k q i0 j1:=⟨_,rfl⟩
    have lk1:=hI3.inv.inv.look (i:=i1) (j:=j0) hi7 hj6 (W':=W3.drew) rfl
    have lk2:=hI3.inv.inv.look (i:=i0) (j:=j1) hi6 hj7 (W':=W3.drew) rfl
    rw[← ha1] at lk1
    rw[← ha2] at lk2
    have h61:a1≤1000000:=by rw[ha1];exact unhide HLE i1 j0
    have h62:a2≤1000000:=by rw[ha2];exact unhide HLE i0 j1
    obtain⟨a3,ha3⟩:∃a3,a3=max a1 a2:=⟨_,rfl⟩
    have hmx:∀tys ty wq,(Builtin.max_ tys ty #[.int .i64 a1,.int .i64 a2]).run Tryz.prog wq = .ok (.int .i64 a3) wq:=fun tys ty wq=>max_two a1 a2 a3 ha3 tys ty wq
    have h63:a3≤1000000:=by omega
    obtain⟨W4,hup,hI4,hg4⟩:=hI3.inv.inv.put (a:=i0) (b:=j0) (v:=a3) (unhide HCNT) hi6 hj6 (by omega)
    have r5:W3.drew.cell? ⟨w.heap.size+2,0,none⟩=some (.map (some (w.heap.size+1))):=(show W3.cell? _=_ from by have:=hI3.inv.inv.left;simp[World.cell?,this])
    have r6:W3.drew.cell? ⟨X,0,none⟩=some (.int .i64 i0):=(show W3.cell? _=_ from by have:=hI3.inv.bi;simp[World.cell?,this])
    have HEND:=hide (show W4.heap[W.heap.size+1]? = W2.heap[W.heap.size+1]? ∧ InI w (.slice ao1 N cap1) (.slice ao2 M cap2) (k*M+(q+1)) (Sp.lv xs ys k (q+1)) wB.heap.size X i0 (c1 i0) W W4 from by
     have h5:=hI4.as (V':=Sp.lv xs ys k (q+1)) (Nat.le_refl _) (fun i j=>by have h8:=unhide HSTEP i j;simp only[Bool.false_eq_true,if_false] at h8;rw[ha3,ha1,ha2];exact h8)
     refine⟨(hg4.block _ (by have:=hb3.size;omega) (fun e=>?_)).trans (hb3.block _ (by omega)),hI3.next (by rw[unhide HBS];omega) hXl h5 hg4⟩
     have:=Option.some.inj e
     omega)
    clear hI3 hI4 hg4 hb3 xc ha1 ha2 ha3
    gi_wp2
    refine wpIn_region_any (by kernel_rfl) ?_
    refine wpAnyIn_det (A:=fun L=>{ tmps:=#[.slice ao1 N cap1,.slice ao2 M cap2,undef,.pointer (some ⟨w.heap.size,0,none⟩),.map none,.pointer (some ⟨w.heap.size+2,0,none⟩),.pointer (some ⟨X,0,none⟩),.pointer (some ⟨X+1,0,none⟩),.int .i64 j0,.pointer (c2 j0),.map (some (w.heap.size+1)),.slice ao1 N cap1,.func (.func 292) #[] #[.pointer (some ⟨w.heap.size+3,0,none⟩)],.int .i64 i0,.pointer (c1 i0),.slice ao2 M cap2,.func (.func 292) #[] #[.pointer (some ⟨W.heap.size,0,none⟩)],.int .i64 j0,.pointer (c2 j0),.pointer (c1 i0),.pointer (c2 j0),.bool false,undef,undef,undef,undef,undef,undef,undef,undef,undef,undef,undef,undef,cond (L 0) (.map (some (w.heap.size+1))) undef,cond (L 1) (.int .i64 i0) undef,cond (L 2) (.int .i64 j0) undef,cond (L 3) (.agg #[.int .i64 i0,.int .i64 j0]) undef,cond (L 4) (.map (some (w.heap.size+1))) undef,cond (L 5) (.int .i64 i0) undef,cond (L 6) (.int .i64 i1) undef,cond (L 7) (.int .i64 j0) undef,cond (L 8) (.agg #[.int .i64 i1,.int .i64 j0]) undef,cond (L 9) (.int .i64 a1) undef,cond (L 10) (.map (some (w.heap.size+1))) undef,cond (L 11) (.int .i64 i0) undef,cond (L 12) (.int .i64 j0) undef,cond (L 13) (.int .i64 j1) undef,cond (L 14) (.agg #[.int .i64 i0,.int .i64 j1]) undef,cond (L 15) (.int .i64 a2) undef,cond (L 16) (.int .i64 a3) undef,undef],defers:=[] }) (Wd:=fun L=>cond (L 17) W4 W3.drew) 18 rfl (by kernel_rfl) ?hs ?he
    case hs =>
     intro L i o ho hi hno haft hcl K hK
     have hcase:i=0∨i=1∨i=2∨i=3∨i=4∨i=5∨i=6∨i=7∨i=8∨i=9∨i=10∨i=11∨i=12∨i=13∨i=14∨i=15∨i=16∨i=17:=by omega
     rcases hcase with rfl|rfl|rfl|rfl|rfl|rfl|rfl|rfl|rfl|rfl|rfl|rfl|rfl|rfl|rfl|rfl|rfl|rfl
     ·obtain rfl:=Option.some.inj ho
      have nl:L 17=false:=by
       cases h:L 17
       ·rfl
       ·exact absurd (hcl 17 _ rfl h ⟨0,.phase⟩ (by simp) rfl) (by rw[hno];decide)
      refine wpOpIn_step rfl fun K' hK'=>?_
      simp (decide:=true) only[upd,nl,hno,cond_true,cond_false,if_true,if_false] at hK ⊢
      go_simp
      exact hK' _ _ hK
     ·obtain rfl:=Option.some.inj ho
      have nl:L 17=false:=by
       cases h:L 17
       ·rfl
       ·exact absurd (hcl 17 _ rfl h ⟨1,.phase⟩ (by simp) rfl) (by rw[hno];decide)
      refine wpOpIn_step rfl fun K' hK'=>?_
      simp (decide:=true) only[upd,nl,hno,cond_true,cond_false,if_true,if_false] at hK ⊢
      go_simp
      exact hK' _ _ hK
     ·obtain rfl:=Option.some.inj ho
      have nl:L 17=false:=by
       cases h:L 17
       ·rfl
       ·exact absurd (hcl 17 _ rfl h ⟨2,.phase⟩ (by simp) rfl) (by rw[hno];decide)
      refine wpOpIn_step rfl fun K' hK'=>?_
      simp (decide:=true) only[upd,nl,hno,cond_true,cond_false,if_true,if_false] at hK ⊢
      go_simp
      exact hK' _ _ hK
     ·obtain rfl:=Option.some.inj ho
      have a1:=haft ⟨1,.data⟩ (by simp) rfl
      have a2:=haft ⟨2,.data⟩ (by simp) rfl
      have nl:L 17=false:=by
       cases h:L 17
       ·rfl
       ·exact absurd (hcl 17 _ rfl h ⟨3,.phase⟩ (by simp) rfl) (by rw[hno];decide)
      refine wpOpIn_step rfl fun K' hK'=>?_
      simp (decide:=true) only[upd,a1,a2,nl,hno,cond_true,cond_false,if_true,if_false] at hK ⊢
      go_simp
      exact hK' _ _ hK
     ·obtain rfl:=Option.some.inj ho
      have nl:L 17=false:=by
       cases h:L 17
       ·rfl
       ·exact absurd (hcl 17 _ rfl h ⟨4,.phase⟩ (by simp) rfl) (by rw[hno];decide)
      refine wpOpIn_step rfl fun K' hK'=>?_
      simp (decide:=true) only[upd,nl,hno,cond_true,cond_false,if_true,if_false] at hK ⊢
      go_simp
      exact hK' _ _ hK
     ·obtain rfl:=Option.some.inj ho
      have nl:L 17=false:=by
       cases h:L 17
       ·rfl
       ·exact absurd (hcl 17 _ rfl h ⟨5,.phase⟩ (by simp) rfl) (by rw[hno];decide)
      refine wpOpIn_step rfl fun K' hK'=>?_
      simp (decide:=true) only[upd,nl,hno,cond_true,cond_false,if_true,if_false] at hK ⊢
      go_simp
      exact hK' _ _ hK
     ·obtain rfl:=Option.some.inj ho
      have a5:=haft ⟨5,.data⟩ (by simp) rfl
      have nl:L 17=false:=by
       cases h:L 17
       ·rfl
       ·exact absurd (hcl 17 _ rfl h ⟨6,.phase⟩ (by simp) rfl) (by rw[hno];decide)
      refine wpOpIn_step rfl fun K' hK'=>?_
      simp (decide:=true) only[upd,a5,nl,hno,cond_true,cond_false,if_true,if_false] at hK ⊢
      go_simp
      exact hK' _ _ hK
     ·obtain rfl:=Option.some.inj ho
      have nl:L 17=false:=by
       cases h:L 17
       ·rfl
       ·exact absurd (hcl 17 _ rfl h ⟨7,.phase⟩ (by simp) rfl) (by rw[hno];decide)
      refine wpOpIn_step rfl fun K' hK'=>?_
      simp (decide:=true) only[upd,nl,hno,cond_true,cond_false,if_true,if_false] at hK ⊢
      go_simp
      exact hK' _ _ hK
     ·obtain rfl:=Option.some.inj ho
      have a6:=haft ⟨6,.data⟩ (by simp) rfl
      have a7:=haft ⟨7,.data⟩ (by simp) rfl
      have nl:L 17=false:=by
       cases h:L 17
       ·rfl
       ·exact absurd (hcl 17 _ rfl h ⟨8,.phase⟩ (by simp) rfl) (by rw[hno];decide)
      refine wpOpIn_step rfl fun K' hK'=>?_
      simp (decide:=true) only[upd,a6,a7,nl,hno,cond_true,cond_false,if_true,if_false] at hK ⊢
      go_simp
      exact hK' _ _ hK
     ·obtain rfl:=Option.some.inj ho
      have a4:=haft ⟨4,.data⟩ (by simp) rfl
      have a8:=haft ⟨8,.data⟩ (by simp) rfl
      have nl:L 17=false:=by
       cases h:L 17
       ·rfl
       ·exact absurd (hcl 17 _ rfl h ⟨9,.phase⟩ (by simp) rfl) (by rw[hno];decide)
      refine wpOpIn_step rfl fun K' hK'=>?_
      simp (decide:=true) only[upd,a4,a8,nl,hno,cond_true,cond_false,if_true,if_false] at hK ⊢
      go_simp
      exact hK' _ _ hK
     ·obtain rfl:=Option.some.inj ho
      have nl:L 17=false:=by
       cases h:L 17
       ·rfl
       ·exact absurd (hcl 17 _ rfl h ⟨10,.phase⟩ (by simp) rfl) (by rw[hno];decide)
      refine wpOpIn_step rfl fun K' hK'=>?_
      simp (decide:=true) only[upd,nl,hno,cond_true,cond_false,if_true,if_false] at hK ⊢
      go_simp
      exact hK' _ _ hK
     ·obtain rfl:=Option.some.inj ho
      have nl:L 17=false:=by
       cases h:L 17
       ·rfl
       ·exact absurd (hcl 17 _ rfl h ⟨11,.phase⟩ (by simp) rfl) (by rw[hno];decide)
      refine wpOpIn_step rfl fun K' hK'=>?_
      simp (decide:=true) only[upd,nl,hno,cond_true,cond_false,if_true,if_false] at hK ⊢
      go_simp
      exact hK' _ _ hK
     ·obtain rfl:=Option.some.inj ho
      have nl:L 17=false:=by
       cases h:L 17
       ·rfl
       ·exact absurd (hcl 17 _ rfl h ⟨12,.phase⟩ (by simp) rfl) (by rw[hno];decide)
      refine wpOpIn_step rfl fun K' hK'=>?_
      simp (decide:=true) only[upd,nl,hno,cond_true,cond_false,if_true,if_false] at hK ⊢
      go_simp
      exact hK' _ _ hK
     ·obtain rfl:=Option.some.inj ho
      have a12:=haft ⟨12,.data⟩ (by simp) rfl
      have nl:L 17=false:=by
       cases h:L 17
       ·rfl
       ·exact absurd (hcl 17 _ rfl h ⟨13,.phase⟩ (by simp) rfl) (by rw[hno];decide)
      refine wpOpIn_step rfl fun K' hK'=>?_
      simp (decide:=true) only[upd,a12,nl,hno,cond_true,cond_false,if_true,if_false] at hK ⊢
      go_simp
      exact hK' _ _ hK
     ·obtain rfl:=Option.some.inj ho
      have a11:=haft ⟨11,.data⟩ (by simp) rfl
      have a13:=haft ⟨13,.data⟩ (by simp) rfl
      have nl:L 17=false:=by
       cases h:L 17
       ·rfl
       ·exact absurd (hcl 17 _ rfl h ⟨14,.phase⟩ (by simp) rfl) (by rw[hno];decide)
      refine wpOpIn_step rfl fun K' hK'=>?_
      simp (decide:=true) only[upd,a11,a13,nl,hno,cond_true,cond_false,if_true,if_false] at hK ⊢
      go_simp
      exact hK' _ _ hK
     ·obtain rfl:=Option.some.inj ho
      have a10:=haft ⟨10,.data⟩ (by simp) rfl
      have a14:=haft ⟨14,.data⟩ (by simp) rfl
      have nl:L 17=false:=by
       cases h:L 17
       ·rfl
       ·exact absurd (hcl 17 _ rfl h ⟨15,.phase⟩ (by simp) rfl) (by rw[hno];decide)
      refine wpOpIn_step rfl fun K' hK'=>?_
      simp (decide:=true) only[upd,a10,a14,nl,hno,cond_true,cond_false,if_true,if_false] at hK ⊢
      go_simp
      exact hK' _ _ hK
     ·obtain rfl:=Option.some.inj ho
      have a9:=haft ⟨9,.data⟩ (by simp) rfl
      have a15:=haft ⟨15,.data⟩ (by simp) rfl
      have nl:L 17=false:=by
       cases h:L 17
       ·rfl
       ·exact absurd (hcl 17 _ rfl h ⟨16,.phase⟩ (by simp) rfl) (by rw[hno];decide)
      refine wpOpIn_step rfl fun K' hK'=>?_
      simp (decide:=true) only[upd,a9,a15,nl,hno,cond_true,cond_false,if_true,if_false] at hK ⊢
      go_simp
      exact hK' _ _ hK
     ·obtain rfl:=Option.some.inj ho
      have a0:=haft ⟨0,.data⟩ (by simp) rfl
      have a1:=haft ⟨1,.phase⟩ (by simp) rfl
      have a2:=haft ⟨2,.phase⟩ (by simp) rfl
      have a3:=haft ⟨3,.data⟩ (by simp) rfl
      have a4:=haft ⟨4,.phase⟩ (by simp) rfl
      have a5:=haft ⟨5,.phase⟩ (by simp) rfl
      have a6:=haft ⟨6,.phase⟩ (by simp) rfl
      have a7:=haft ⟨7,.phase⟩ (by simp) rfl
      have a8:=haft ⟨8,.phase⟩ (by simp) rfl
      have a9:=haft ⟨9,.phase⟩ (by simp) rfl
      have a10:=haft ⟨10,.phase⟩ (by simp) rfl
      have a11:=haft ⟨11,.phase⟩ (by simp) rfl
      have a12:=haft ⟨12,.phase⟩ (by simp) rfl
      have a13:=haft ⟨13,.phase⟩ (by simp) rfl
      have a14:=haft ⟨14,.phase⟩ (by simp) rfl
      have a15:=haft ⟨15,.phase⟩ (by simp) rfl
      have a16:=haft ⟨16,.data⟩ (by simp) rfl
      refine wpOpIn_step rfl fun K' hK'=>?_
      simp (decide:=true) only[upd,a0,a1,a2,a3,a4,a5,a6,a7,a8,a9,a10,a11,a12,a13,a14,a15,a16,hno,cond_true,cond_false,if_true,if_false] at hK ⊢
      go_simp
      exact hK' _ _ hK
    case he =>
     intro L hL
     have h0:=hL 0 (by decide)
     have h1:=hL 1 (by decide)
     have h2:=hL 2 (by decide)
     have h3:=hL 3 (by decide)
     have h4:=hL 4 (by decide)
     have h5:=hL 5 (by decide)
     have h6:=hL 6 (by decide)
     have h7:=hL 7 (by decide)
     have h8:=hL 8 (by decide)
     have h9:=hL 9 (by decide)
     have h10:=hL 10 (by decide)
     have h11:=hL 11 (by decide)
     have h12:=hL 12 (by decide)
     have h13:=hL 13 (by decide)
     have h14:=hL 14 (by decide)
     have h15:=hL 15 (by decide)
     have h16:=hL 16 (by decide)
     have h17:=hL 17 (by decide)
     simp only[h0,h1,h2,h3,h4,h5,h6,h7,h8,h9,h10,h11,h12,h13,h14,h15,h16,h17,cond_true]
     clear hL h0 h1 h2 h3 h4 h5 h6 h7 h8 h9 h10 h11 h12 h13 h14 h15 h16 h17
     gi_wp2
     exact unhide HEND
 case hdone =>
  intro W hI hK
  have hlc:W.cell? ⟨w.heap.size+2,0,none⟩=some (.map (some (w.heap.size+1))):=by have:=hI.left;simp[World.cell?,this]
  have HII:=hide hI
  clear hI
  gi_wp2
  have h1:=unhide HII
  obtain⟨cnt,D,_,m1,m2⟩:=h1.map
  have hBs:=unhide HBS
  refine⟨by simp,.inl ⟨_,_,rfl,run_takeDeferred hK,?_⟩⟩
  refine⟨_,results_tmp rfl _ _ _,w.heap.size+1,cnt,D,rfl,by omega,tmap_kept m1 (World.putObj_heap_other (by omega)),m2.as fun i j=>by rw[unhide HNe];exact Sp.lv_end i j,?_⟩
  exact⟨h1.bel.os,h1.bel.tape,h1.bel.output,by simpa[World.putObj] using h1.bel.size,fun j hj=>(World.putObj_heap_other (by omega)).trans (h1.bel.block j hj)⟩
end

section
open Go.RowKit Go.Maps
namespace Sp
theorem apart_fuel:∀ (f g:Nat) (a b:List V) (k j:Nat),a.length+b.length≤f→a.length+b.length≤g→apart f a b k j=apart g a b k j
 | 0,0,_,_,_,_,_,_=>rfl
 | 0,g+1,[],[],_,_,_,_=>rfl
 | f+1,0,[],[],_,_,_,_=>rfl
 | 0,g+1,x::a,b,_,_,h,_=>by simp at h
 | 0,g+1,[],y::b,_,_,h,_=>by simp at h
 | f+1,0,x::a,b,_,_,_,h=>by simp at h
 | f+1,0,[],y::b,_,_,_,h=>by simp at h
 | f+1,g+1,[],[],_,_,_,_=>rfl
 | f+1,g+1,x::a,[],k,j,h1,h2=>by
  simp only[List.length_cons,List.length_nil] at h1 h2
  rw[apart,apart,apart_fuel f g a [] k j (by simp;omega) (by simp;omega)]
 | f+1,g+1,[],y::b,k,j,h1,h2=>by
  simp only[List.length_cons,List.length_nil] at h1 h2
  rw[apart,apart,apart_fuel f g [] b k (j+1) (by simp;omega) (by simp;omega)]
 | f+1,g+1,x::a,y::b,k,j,h1,h2=>by
  simp only[List.length_cons] at h1 h2
  rw[apart,apart,apart_fuel f g a (y::b) k j (by simp;omega) (by simp;omega),apart_fuel f g (x::a) b k (j+1) (by simp;omega) (by simp;omega),apart_fuel f g a b (k+1) (j+1) (by omega) (by omega)]
noncomputable def prt (a b:List V) (k j:Nat):List Nat×List Nat:=apart (a.length+b.length) a b k j
theorem prt_nil (k j:Nat):prt [] [] k j=([],[]):=rfl
theorem prt_rem {x:V} {a b:List V} {k j:Nat} (h:lcs a b=lcs (x::a) b):prt (x::a) b k j=(k::(prt a b k j).1,(prt a b k j).2):=by
 unfold prt
 rw[show (x::a).length+b.length=(a.length+b.length)+1 by simp;omega]
 cases b with
 | nil=>rw[apart]
 | cons y b=>rw[apart,if_pos h]
theorem prt_mis {y:V} {a b:List V} {k j:Nat} (h1:a=[]∨lcs a.tail (y::b)≠lcs a (y::b)) (h2:lcs a b=lcs a (y::b)):prt a (y::b) k j=((prt a b k (j+1)).1,j::(prt a b k (j+1)).2):=by
 unfold prt
 rw[show a.length+(y::b).length=(a.length+b.length)+1 by simp;omega]
 cases a with
 | nil=>rw[apart]
 | cons x a =>
  rcases h1 with h1|h1
  ·cases h1
  ·rw[List.tail_cons] at h1
   rw[apart,if_neg h1,if_pos h2]
theorem prt_keep {x y:V} {a b:List V} {k j:Nat} (h1:lcs a (y::b)≠lcs (x::a) (y::b)) (h2:lcs (x::a) b≠lcs (x::a) (y::b)):prt (x::a) (y::b) k j=prt a b (k+1) (j+1):=by
 unfold prt
 rw[show (x::a).length+(y::b).length=(a.length+b.length+1)+1 by simp;omega,apart,if_neg h1,if_neg h2]
 exact apart_fuel _ _ _ _ _ _ (by omega) (by omega)
def Got (xs ys:List V) (i j kept:Nat) (rs ms:List Nat):Prop:=i≤xs.length∧j≤ys.length∧kept≤i∧prt xs ys 0 0=(rs++(prt (xs.drop i) (ys.drop j) kept j).1,ms++(prt (xs.drop i) (ys.drop j) kept j).2)
variable {xs ys:List V} {i j kept:Nat} {rs ms:List Nat}
theorem Got.start:Got xs ys 0 0 0 [] []:=⟨Nat.zero_le _,Nat.zero_le _,Nat.le_refl _,rfl⟩
theorem Got.rem (h:Got xs ys i j kept rs ms) (hi:i<xs.length) (he:lcs (xs.drop (i+1)) (ys.drop j)=lcs (xs.drop i) (ys.drop j)):Got xs ys (i+1) j kept (rs++[kept]) ms:=by
 obtain⟨h1,h2,h3,h4⟩:=h
 have e:=List.drop_eq_getElem_cons hi
 rw[e] at h4 he
 refine⟨hi,h2,by omega,?_⟩
 rw[h4,prt_rem he]
 simp
theorem Got.mis (h:Got xs ys i j kept rs ms) (hj:j<ys.length) (h1:¬ (i<xs.length∧lcs (xs.drop (i+1)) (ys.drop j)=lcs (xs.drop i) (ys.drop j))) (he:lcs (xs.drop i) (ys.drop (j+1))=lcs (xs.drop i) (ys.drop j)):Got xs ys i (j+1) kept rs (ms++[j]):=by
 obtain⟨g1,g2,g3,g4⟩:=h
 have e:=List.drop_eq_getElem_cons hj
 refine⟨g1,hj,g3,?_⟩
 rw[e] at g4 he
 rw[g4,prt_mis (b:=ys.drop (j+1)) ?_ he]
 ·simp
 ·by_cases hi:i<xs.length
  ·right
   rw[List.tail_drop]
   intro hh
   rw[← e] at hh
   exact h1 ⟨hi,hh⟩
  ·exact Or.inl (List.drop_eq_nil_of_le (by omega))
theorem Got.keep (h:Got xs ys i j kept rs ms) (hi:i<xs.length) (hj:j<ys.length) (h1:lcs (xs.drop (i+1)) (ys.drop j)≠lcs (xs.drop i) (ys.drop j)) (h2:lcs (xs.drop i) (ys.drop (j+1))≠lcs (xs.drop i) (ys.drop j)):Got xs ys (i+1) (j+1) (kept+1) rs ms:=by
 obtain⟨g1,g2,g3,g4⟩:=h
 refine⟨hi,hj,by omega,?_⟩
 have e1:=List.drop_eq_getElem_cons hi
 have e2:=List.drop_eq_getElem_cons hj
 rw[g4]
 rw[e1,e2] at h1 h2
 rw[e1,e2,prt_keep]
 ·exact h1
 ·exact h2
theorem Got.end_ (h:Got xs ys i j kept rs ms) (hi:¬ i<xs.length) (hj:¬ j<ys.length):prt xs ys 0 0=(rs,ms):=by
 obtain⟨g1,g2,g3,g4⟩:=h
 rw[g4,List.drop_eq_nil_of_le (by omega),show ys.drop j=[] from List.drop_eq_nil_of_le (by omega),prt_nil]
 simp
theorem Got.len (h:Got xs ys i j kept rs ms):rs.length≤xs.length∧ms.length≤ys.length ∧ ∀k∈ms,k<ys.length:=by
 have h1:=apart_len (xs.length+ys.length) xs ys 0 0
 have h2:=(apart_bd (xs.length+ys.length) xs ys 0 0).2
 have h4:=h.2.2.2
 unfold prt at h4
 rw[h4] at h1 h2
 simp only[List.length_append] at h1
 exact⟨by omega,by omega,fun k hk=>by have:=h2 k (List.mem_append_left _ hk);omega⟩
theorem lcs_end_i (h:¬ i<xs.length) (j j':Nat):lcs (xs.drop i) (ys.drop j)=lcs (xs.drop i) (ys.drop j'):=by
 rw[List.drop_eq_nil_of_le (by omega),lcs,lcs]
theorem lcs_end_j (h:¬ j<ys.length) (i i':Nat):lcs (xs.drop i) (ys.drop j)=lcs (xs.drop i') (ys.drop j):=by
 rw[show ys.drop j=[] from List.drop_eq_nil_of_le (by omega),lcs_nil,lcs_nil]
def remO (s:List By) (i:Nat):Opn:=(1,numb s i,.nil)
def addO (s:List By) (ys:List V) (i:Nat):Opn:=(0,numb s i,(ys[i]?).getD .nil)
theorem diffA_eq (s:List By):diffA s xs ys=(prt xs ys 0 0).1.map (remO s)++(prt xs ys 0 0).2.map (addO s ys):=rfl
end Sp
end

section
open Go.RowKit Go.Maps
def iv_ (i:Nat):Value:=.int .i64 i
structure DArI (w1:World) (Mk:Nat) (n:Int) (M1:Nat→Prop) (ops:List Sp.Opn) (s:List Sp.By) (xs ys:List Sp.V) (i j k:Nat) (mv:Value) (wr:World):Prop where
 ex:∃rs ms M',Sp.Got xs ys i j k rs ms∧MkK wr Mk n M' (fun b=>M' b∨mv.ownBlock=some b) (ops++rs.map (Sp.remO s))∧JEx M1 M' w1 wr∧wr.ownsRow 0 3 1 mv ms.length (ms.map iv_) ∧ ∀g,mv.ownBlock=some g → ¬ M' g
theorem n_int:(Tryz.prog.info? 3).map (fun i=>(i.zero,i.size,i.bytes))=some (some (.int .i64 0),1,8):=by kernel_rfl
theorem lay_more {wr w3:World} {Mk:Nat} {n:Int} {M' own:Nat→Prop} {ops':List Sp.Opn} (h:MkK wr Mk n M' (fun b=>M' b∨own b) ops') (ho:∀b,own b→b<wr.heap.size) (hb:Below wr.heap.size wr w3) :
  MkK w3 Mk n (fun b=>M' b∨(wr.heap.size≤b∧b<w3.heap.size)) (fun b=>(M' b∨(wr.heap.size≤b∧b<w3.heap.size))∨own b) ops'∧JEx M' (fun b=>M' b∨(wr.heap.size≤b∧b<w3.heap.size)) wr w3:=by
 have hs:=hb.size
 refine⟨h.moved (fun k hk _=>hb.block k hk) (fun k hk=>Or.inl hk) (fun k hk=>?_),⟨hb.os,hb.tape,hb.output,hs,fun k hk=>⟨Or.inl hk,hb.block k (h.low k (Or.inl hk))⟩⟩⟩
 rcases hk with (hk|hk)|hk
 ·have:=h.low k (Or.inl hk)
  exact⟨Or.inl (Or.inl hk),by omega⟩
 ·exact⟨Or.inr hk.1,hk.2⟩
 ·have:=ho k hk
  exact⟨Or.inl (Or.inr hk),by omega⟩
theorem lay_one {w1 wr w3:World} {Mk:Nat} {n:Int} {M1 M':Nat→Prop} {mv:Value} {ms:List Nat} {ops':List Sp.Opn} (h:MkK wr Mk n M' (fun b=>M' b∨mv.ownBlock=some b) ops') (hx:JEx M1 M' w1 wr) (ho:wr.ownsRow 0 3 1 mv ms.length (ms.map iv_)) (hnM:∀g,mv.ownBlock=some g → ¬ M' g) (hl:ops'.length≤1000000000)
  (hb:Below wr.heap.size wr w3) {o:Sp.Opn} {p:Addr} {pl pc:Nat} {x:Option Addr} (hk3:o.1<3) (htk:TokG w3 (fun b=>wr.heap.size≤b) (.slice (some p) pl pc) o.2.1) (hv:(o.1=1∧x=none)∨(o.1≠1∧Rep top M' wr (.pointer x) o.2.2)) :
  Calls Tryz.prog 169 #[.pointer (some ⟨Mk,0,none⟩),.int .i64 o.1,.slice (some p) pl pc,.pointer x] w3 fun e w4=>e = .returned (.tuple #[]) ∧ ∃M4,MkK w4 Mk n M4 (fun b=>M4 b∨mv.ownBlock=some b) (ops'++[o])∧JEx M1 M4 w1 w4∧w4.ownsRow 0 3 1 mv ms.length (ms.map iv_) ∧ ∀g,mv.ownBlock=some g → ¬ M4 g:=by
 obtain⟨h3,hx3⟩:=lay_more h (fun b hb=>(ownsN_lt ho b hb).1) hb
 refine (mLay_anyK h3 (fun _ hk=>Or.inl hk) hl ⟨rfl,hk3,htk.move fun b hb1 hb2=>⟨rfl,Or.inr ⟨hb1,hb2⟩⟩,rfl,?_⟩).mono ?_
 ·rcases hv with⟨e1,e2⟩|⟨e1,e2⟩
  ·exact Or.inl ⟨e1,by rw[e2]⟩
  ·exact Or.inr ⟨e1,e2.move fun b hb1 hb2=>⟨hb.block b hb2,Or.inl hb1⟩⟩
 ·rintro e w4 ⟨rfl,h4,hx4⟩
  have hx5:JEx M' (fun b=>M' b∨(wr.heap.size≤b∧b<w3.heap.size)) wr w4:=⟨hx4.os.trans hx3.os,hx4.tape.trans hx3.tape,hx4.output.trans hx3.output,Nat.le_trans hx3.size hx4.size,fun b hbm=>⟨Or.inl hbm,(hx4.kept b (Or.inl (Or.inl hbm))).2.trans (hx3.kept b hbm).2⟩⟩
  refine⟨rfl,_,h4,hx.trans hx5,ownsN_kept ho fun g hg=>(hx4.kept g (Or.inr hg)).2.trans (hb.block g (ownsN_lt ho g hg).1),fun g hg hm=>?_⟩
  rcases hm with hm|hm
  ·exact hnM g hg hm
  ·have:=(ownsN_lt ho g hg).1;omega
section
variable {w1 wr w3:World} {Mk:Nat} {n:Int} {M1:Nat→Prop} {ops:List Sp.Opn} {s:List Sp.By} {xs ys:List Sp.V} {i j k:Nat} {mv:Value}
theorem DArI.rem (h:DArI w1 Mk n M1 ops s xs ys i j k mv wr) (hi:i<xs.length) (he:Sp.lcs (xs.drop (i+1)) (ys.drop j)=Sp.lcs (xs.drop i) (ys.drop j)) (hops:ops.length≤500000000) (hxl:xs.length≤1000000) (hb:Below wr.heap.size wr w3) {p:Addr} {pl pc:Nat} (htk:TokG w3 (fun b=>wr.heap.size≤b) (.slice (some p) pl pc) (Sp.numb s k)) :
  Calls Tryz.prog 169 #[.pointer (some ⟨Mk,0,none⟩),.int .i64 1,.slice (some p) pl pc,.pointer none] w3 fun e w4=>e = .returned (.tuple #[])∧DArI w1 Mk n M1 ops s xs ys (i+1) j k mv w4:=by
 obtain⟨rs,ms,M',h1,h2,h3,h4,h5⟩:=h.ex
 have hl:=h1.len
 refine (lay_one (o:=Sp.remO s k) h2 h3 h4 h5 (by rw[List.length_append,List.length_map];omega) hb (by show 1<3;decide) htk (Or.inl ⟨rfl,rfl⟩)).mono ?_
 rintro e w4 ⟨rfl,M4,k1,k2,k3,k4⟩
 exact⟨rfl,⟨rs++[k],ms,M4,h1.rem hi he,by simpa using k1,k2,k3,k4⟩⟩
theorem DArI.mis (h:DArI w1 Mk n M1 ops s xs ys i j k mv wr) (hj:j<ys.length) (hn:¬ (i<xs.length∧Sp.lcs (xs.drop (i+1)) (ys.drop j)=Sp.lcs (xs.drop i) (ys.drop j))) (he:Sp.lcs (xs.drop i) (ys.drop (j+1))=Sp.lcs (xs.drop i) (ys.drop j)) :
  ∃ms:List Nat,ms.length≤ys.length∧wr.ownsRow 0 3 1 mv ms.length (ms.map iv_) ∧ ∀ (g cap:Nat) (o:Obj) (w3:World),w3.ownsRow 0 3 1 (.slice (some ⟨g,0,none⟩) (ms.length+1) cap) (ms.length+1) (ms.map iv_++[iv_ j])→(wr.alloc o).grownBy w3 mv.ownBlock→(mv.ownBlock=some g∨g=wr.heap.size+1)→DArI w1 Mk n M1 ops s xs ys i (j+1) k (.slice (some ⟨g,0,none⟩) (ms.length+1) cap) w3:=by
 obtain⟨rs,ms,M',h1,h2,h3,h4,h5⟩:=h.ex
 refine⟨ms,h1.len.2.1,h4,fun g cap o w3 ho hg hat=>?_⟩
 have hs:wr.heap.size+1≤w3.heap.size:=by have:=hg.size;simpa using this
 have hk:∀b,b<wr.heap.size→mv.ownBlock≠some b→w3.heap[b]? = wr.heap[b]?:=fun b hb hne=>(hg.block b (by simp;omega) (fun e=>hne e.symm)).trans (Below.heap_alloc wr o b hb)
 have hgl:g<w3.heap.size:=(ownsN_lt ho g rfl).1
 refine⟨rs,ms++[j],M',h1.mis hj hn he,h2.moved (fun b hb hor=>hk b hb fun e=>?_) (fun _ hb=>hb) (fun b hb=>?_),h3.trans ⟨hg.os,hg.tape,hg.output,by omega,fun b hb=>⟨hb,hk b (h2.low b (Or.inl hb)) fun e=>h5 b e hb⟩⟩,by simpa using ho,fun q hq hm=>?_⟩
 ·rcases hor with hor|hor
  ·exact hor (Or.inr e)
  ·exact h5 b e hor
 ·rcases hb with hb|hb
  ·have:=h2.low b (Or.inl hb)
   exact⟨Or.inl (Or.inl hb),by omega⟩
  ·simp[Value.ownBlock] at hb
   subst hb
   rcases hat with e|e
   ·exact⟨Or.inl (Or.inr e),hgl⟩
   ·exact⟨Or.inr (by omega),hgl⟩
 ·simp[Value.ownBlock] at hq
  subst hq
  rcases hat with e|e
  ·exact h5 _ e hm
  ·have:=h2.low _ (Or.inl hm);omega
theorem DArI.keep (h:DArI w1 Mk n M1 ops s xs ys i j k mv wr) (hi:i<xs.length) (hj:j<ys.length) (e1:Sp.lcs (xs.drop (i+1)) (ys.drop j)≠Sp.lcs (xs.drop i) (ys.drop j)) (e2:Sp.lcs (xs.drop i) (ys.drop (j+1))≠Sp.lcs (xs.drop i) (ys.drop j)):DArI w1 Mk n M1 ops s xs ys (i+1) (j+1) (k+1) mv wr:=by
 obtain⟨rs,ms,M',h1,h2⟩:=h.ex
 exact⟨rs,ms,M',h1.keep hi hj e1 e2,h2⟩
end
structure DLo (w1:World) (Mk:Nat) (n:Int) (M1:Nat→Prop) (ops':List Sp.Opn) (s:List Sp.By) (ys:List Sp.V) (ms:List Nat) (mv:Value) (t:Nat) (wr:World):Prop where
 ex:∃M',MkK wr Mk n M' (fun b=>M' b∨mv.ownBlock=some b) (ops'++(ms.take t).map (Sp.addO s ys))∧JEx M1 M' w1 wr∧wr.ownsRow 0 3 1 mv ms.length (ms.map iv_) ∧ ∀g,mv.ownBlock=some g → ¬ M' g
theorem DLo.add {w1 wr w3:World} {Mk:Nat} {n:Int} {M1:Nat→Prop} {ops':List Sp.Opn} {s:List Sp.By} {ys:List Sp.V} {ms:List Nat} {mv:Value} {t q:Nat} {p:Addr} {pl pc:Nat} {x:Option Addr} (h:DLo w1 Mk n M1 ops' s ys ms mv t wr) (ht:t<ms.length) (hq:ms[t]=q) (hqy:q<ys.length) (hl:ops'.length+ms.length≤1000000000) (hb:Below wr.heap.size wr w3) (htk:TokG w3 (fun b=>wr.heap.size≤b) (.slice (some p) pl pc) (Sp.numb s q)) (hv:Rep top M1 w1 (.pointer x) ys[q]) :
  Calls Tryz.prog 169 #[.pointer (some ⟨Mk,0,none⟩),.int .i64 0,.slice (some p) pl pc,.pointer x] w3 fun e w4=>e = .returned (.tuple #[])∧DLo w1 Mk n M1 ops' s ys ms mv (t+1) w4:=by
 obtain⟨M',h2,h3,h4,h5⟩:=h.ex
 have e1:(Sp.addO s ys q).2.2=ys[q]:=by
  show (ys[q]?).getD .nil=_
  rw[List.getElem?_eq_getElem hqy];rfl
 have e2:ms.take (t+1)=ms.take t++[q]:=by rw[List.take_succ_eq_append_getElem ht,hq]
 refine (lay_one (o:=Sp.addO s ys q) h2 h3 h4 h5 (by rw[List.length_append,List.length_map,List.length_take];omega) hb (by show 0<3;decide) htk (Or.inr ⟨by show 0≠1;decide,by rw[e1];exact hv.move fun b hb1 _=>⟨(h3.kept b hb1).2,(h3.kept b hb1).1⟩⟩)).mono ?_
 rintro e w4 ⟨rfl,M4,k1,k2,k3,k4⟩
 exact⟨rfl,⟨M4,by rw[e2];simpa using k1,k2,k3,k4⟩⟩
end

section
set_option maxRecDepth 100000
set_option maxHeartbeats 8000000
open Go.RowKit Go.Maps
theorem mArrays_any {f:Nat} {F F':Nat→Prop} {w:World} {Mk:Nat} {n:Int} {M:Nat→Prop} {ops:List Sp.Opn} {sl1 sl2:Value} {ps1 ps2:List Value} {xs ys:List Sp.V} {pa:Option Addr} {pl pc:Nat} {s:List Sp.By} (h:MkD w Mk n M ops) (hT:Laid w) (hNG:∀k,k<NG→M k) (hf:f≤top) (hF':∀k,F' k→M k) (hn2:(xs.length+1)*(ys.length+1)≤1000000) (hops:ops.length≤500000000)
  (o1:w.ownsRow 0 80 1 sl1 ps1.length ps1) (a1:Al (Rep f F w) ps1 xs) (o2:w.ownsRow 0 80 1 sl2 ps2.length ps2) (hg2:∀g,sl2.ownBlock=some g→F' g) (a2:Al (Rep f F' w) ps2 ys) (hp:TokG w M (.slice pa pl pc) s) (hpl:s.length≤100000000) (hnil:s=[] → ∃c,(Value.slice pa pl pc) = .slice none 0 c) :
  Calls Tryz.prog 168 #[.pointer (some ⟨Mk,0,none⟩),.slice pa pl pc,sl1,sl2] w (DfEnd Mk n M ops (Sp.diffA s xs ys) w):=by
 have HLEN:=hide (lengthsOf_any o1 a1 o2 a2 hn2)
 obtain⟨_,hN,ao1,cap1,g1,c1,rfl,_,_,_⟩:=row_ptr o1 a1
 obtain⟨_,hM,ao2,cap2,g2,c2,rfl,hg2',hc2,hr2⟩:=row_ptr o2 a2
 obtain⟨N,hNe⟩:∃N,N=xs.length:=⟨_,rfl⟩
 obtain⟨K,hKe⟩:∃K,K=ys.length:=⟨_,rfl⟩
 have hN6:N+1≤1000000:=by
  have:(xs.length+1)*1≤(xs.length+1)*(ys.length+1):=Nat.mul_le_mul_left _ (by omega)
  omega
 have hK6:K+1≤1000000:=by
  have:1*(ys.length+1)≤(xs.length+1)*(ys.length+1):=Nat.mul_le_mul_right _ (by omega)
  omega
 rw[← hNe,← hKe] at HLEN ⊢
 obtain⟨Q,hQ⟩:∃Q,Q=DfEnd Mk n M ops (Sp.diffA s xs ys) w:=⟨_,rfl⟩
 rw[← hQ]
 have HQ:=hide hQ
 have HH:=hide h
 have HT:=hide hT
 have HNG:=hide hNG
 have HF:=hide hF'
 have HPA:=hide hp
 have HPL:=hide hpl
 have HNL:=hide hnil
 have HNe:=hide hNe
 have HKe:=hide hKe
 have HOPS:=hide hops
 have HG2:=hide (show 0<K→ao2=some ⟨g2,0,none⟩∧g2<w.heap.size∧M g2 from fun hp=>by
  obtain⟨e,h2⟩:=hg2' (by omega)
  exact⟨e,h2,hF' _ (hg2 g2 (by rw[e];rfl))⟩)
 have HC2:=hide hc2
 have HR2:=hide hr2
 clear hQ h hT hNG hF' hp hpl hnil hNe hKe hops hg2 hg2' hc2 hr2 o1 a1 o2 a2 hn2 hN hM
 go_enter Tryz.func168,Tryz.ntmps168
 go_wp2_with (fail)
 refine (unhide HLEN).mono ?_
 rintro e w1 ⟨m,cnt,D,rfl,hm,hmap,htb,hb1⟩
 have hml:m<w1.heap.size:=by obtain⟨es,clock,hb,_⟩:=hmap;exact (Array.getElem?_eq_some_iff.1 hb).1
 obtain⟨hd1,hX1⟩:=(unhide HH).grow hb1 (fun b=>w.heap.size≤b∧b<w1.heap.size) (fun _ h=>h)
 obtain⟨M1,eM1⟩:∃M1,M1=fun b=>M b∨(w.heap.size≤b∧b<w1.heap.size):=⟨_,rfl⟩
 rw[← eM1] at hd1 hX1
 have HMM:=hide (show M1 m from by rw[eM1];exact Or.inr ⟨hm,hml⟩)
 have HI0:=hide (show DArI w1 Mk n M1 ops s xs ys 0 0 0 (.slice none 0 0) w1 from⟨⟨[],[],M1,Sp.Got.start,by
  simpa using hd1.less (K':=fun b=>M1 b∨(Value.slice none 0 0).ownBlock=some b) (fun b hb=>hb.elim id fun e=>by cases e),JEx.refl _ _,⟨rfl,Or.inl ⟨rfl,rfl⟩⟩,fun g hg=>by cases hg⟩⟩)
 have HX1:=hide hX1
 have HTB:=hide (And.intro hmap htb)
 clear hm hmap htb hb1 hml hd1 hX1 eM1 HLEN
 go_wp2_with (fail)
 go_loopw [9,10,11,12] (fun mv vi vj vk wr=>∃ (i j k ul uc:Nat) (ua:Option Addr),mv = .slice ua ul uc∧vi = .int .i64 i∧vj = .int .i64 j∧vk = .int .i64 k∧Hid (DArI w1 Mk n M1 ops s xs ys i j k (.slice ua ul uc) wr)∧i≤N∧j≤K∧k≤i) (fun _ vi vj _ _=>(N-(intOf vi).toNat)+(K-(intOf vj).toNat))
 case atStart=>exact⟨0,0,0,0,0,none,rfl,rfl,rfl,rfl,HI0,by omega,by omega,by omega⟩
 case round =>
  obtain⟨i,j,k,ul,uc,ua,rfl,rfl,rfl,rfl,HI,hiN,hjK,hki⟩:=hrel
  obtain⟨u0,hu0⟩:∃u0,u0=Sp.lcs (xs.drop i) (ys.drop j):=⟨_,rfl⟩
  obtain⟨u1,hu1⟩:∃u1,u1=Sp.lcs (xs.drop (i+1)) (ys.drop j):=⟨_,rfl⟩
  obtain⟨u2,hu2⟩:∃u2,u2=Sp.lcs (xs.drop i) (ys.drop (j+1)):=⟨_,rfl⟩
  obtain⟨i1,hi1⟩:∃i1,i1=i+1:=⟨_,rfl⟩
  obtain⟨j1,hj1⟩:∃j1,j1=j+1:=⟨_,rfl⟩
  obtain⟨k1,hk1⟩:∃k1,k1=k+1:=⟨_,rfl⟩
  have w1':IntKind.i64.wrap ((i:Int)+1)=(i1:Int):=by rw[IntKind.wrap_i64];omega
  have w2':IntKind.i64.wrap ((j:Int)+1)=(j1:Int):=by rw[IntKind.wrap_i64];omega
  have w3':IntKind.i64.wrap ((k:Int)+1)=(k1:Int):=by rw[IntKind.wrap_i64];omega
  have hmb:wr.heap[m]? = w1.heap[m]?:=by
   obtain⟨rs,ms,M',_,_,hx,_⟩:=(unhide HI).ex
   exact (hx.kept m (unhide HMM)).2
  have L0:=tb_look (unhide HTB).1 (unhide HTB).2 (i:=i) (j:=j) (by omega) (by omega) hmb
  have L1:=tb_look (unhide HTB).1 (unhide HTB).2 (i:=i1) (j:=j) (by omega) (by omega) hmb
  have L2:=tb_look (unhide HTB).1 (unhide HTB).2 (i:=i) (j:=j1) (by omega) (by omega) hmb
  rw[← hu0] at L0
  simp only[hi1,← hu1] at L1
  simp only[hj1,← hu2] at L2
  rw[← hi1] at L1
  rw[← hj1] at L2
  have HU:=hide (show u0=Sp.lcs (xs.drop i) (ys.drop j)∧u1=Sp.lcs (xs.drop (i+1)) (ys.drop j)∧u2=Sp.lcs (xs.drop i) (ys.drop (j+1))∧i1=i+1∧j1=j+1∧k1=k+1 from⟨hu0,hu1,hu2,hi1,hj1,hk1⟩)
  clear hu0 hu1 hu2 hi1 hj1 hk1 hmb
  have HLW:=hide (show Laid wr∧TokG wr M1 (.slice pa pl pc) s ∧ ∀b,M1 b→b<wr.heap.size from by
   obtain⟨rs,ms,M',_,h2,hx,_⟩:=(unhide HI).ex
   have hxx:=(unhide HX1).trans hx
   exact⟨(unhide HT).below ⟨hxx.os,hxx.tape,hxx.output,hxx.size,fun b hb=>(hxx.kept b (unhide HNG b hb)).2⟩,(unhide HPA).move fun b hb _=>⟨(hxx.kept b hb).2,((unhide HX1).kept b hb).1⟩,fun b hb=>h2.low b (Or.inl (hx.kept b hb).1)⟩)
  by_cases hA:i<N∧u1=u0
  ·obtain⟨hiN2,e1⟩:=hA
   have hlt1:(i:Int)<(N:Int):=by omega
   have eq1:((u1:Int) == (u0:Int))=true:=by simp[e1]
   have HREM:=hide (fun (w3:World) (hb:Below wr.heap.size wr w3) (p:Addr) (pl pc:Nat) (htk:TokG w3 (fun b=>wr.heap.size≤b) (.slice (some p) pl pc) (Sp.numb s k))=>(unhide HI).rem (by have:=unhide HNe;omega) (by obtain⟨a1,a2,_⟩:=unhide HU;rw[← a1,← a2];exact e1) (unhide HOPS) (by have:=unhide HNe;omega) hb htk)
   clear L2 e1
   go_wp2_with (fail)
   refine (Tryz.strconv_Itoa k (by omega) (by omega) wr (unhide HLW).1.tab).mono ?_
   rintro e w2 ⟨rfl,kk,os,rfl⟩
   have hb2:=grow_below wr kk os
   generalize Sort.grow (wr.drewN kk) os=w2 at *
   have HB2:=hide hb2
   have hs2:=hb2.size
   have HTO:=hide (pTo_any (t:=Lib.itoa (k:Int)) ((unhide HLW).2.1.move fun b hb hbl=>⟨hb2.block b hbl,hb⟩) (unhide HPL) (unhide HNL))
   clear hb2
   go_wp2_with (fail)
   refine (unhide HTO).mono ?_
   rintro e w3 ⟨g',cap',rfl,hg',htk,hb3⟩
   have HLAY:=hide (unhide HREM w3 ((unhide HB2).trans (hb3.mono hs2)) ⟨g',0,none⟩ (s.length+1) cap' (htk.move fun b hb _=>⟨rfl,Nat.le_trans hs2 hb⟩))
   clear htk hb3 HREM HTO
   go_wp2_with (fail)
   refine (unhide HLAY).mono ?_
   rintro e w4 ⟨rfl,hI4⟩
   have HI4:=hide (show DArI w1 Mk n M1 ops s xs ys i1 j k (.slice ua ul uc) w4 from by rw[(unhide HU).2.2.2.1];exact hI4)
   have hi1:=(unhide HU).2.2.2.1
   have hi1N:i1≤N:=by omega
   have hki1:k≤i1:=by omega
   have hme:(N-i1)<N-i:=by omega
   clear hI4 hi1 HLAY
   go_wp2_with (fail)
   exact⟨⟨i1,j,k,ul,uc,ua,rfl,rfl,rfl,rfl,HI4,hi1N,hjK,hki1⟩,by simp[intOf];omega⟩
  by_cases hB:j<K∧u2=u0
  ·obtain⟨hjK2,e2⟩:=hB
   have hlt2:(j:Int)<(K:Int):=by omega
   have eq2:((u2:Int) == (u0:Int))=true:=by simp[e2]
   obtain⟨ms,hml,hrow,hnext⟩:=(unhide HI).mis (by have:=unhide HKe;omega) (fun ⟨q1,q2⟩=>hA ⟨by have:=unhide HNe;omega,by obtain⟨a1,a2,_⟩:=unhide HU;rw[a1,a2];exact q2⟩) (by obtain⟨a1,_,a3,_⟩:=unhide HU;rw[← a1,← a3];exact e2)
   obtain⟨i0,hi0,h0⟩:=Option.map_eq_some_iff.1 n_int
   injection h0 with hz h0
   injection h0 with hz2 hz3
   obtain⟨z0,hz9⟩:∃z0,z0=Value.int .i64 0:=⟨_,rfl⟩
   rw[← hz9] at hz
   have hz1:z0.cells.size=1:=by rw[hz9];rfl
   have hml6:ms.length+1≤1000000:=by have:=unhide HKe;omega
   have HROW:=hide hrow
   have HNEXT:=hide hnext
   have hAB:(i<N∧u1≠u0) ∨ ¬ i<N:=by
    by_cases hi:i<N
    ·exact Or.inl ⟨hi,fun e=>hA ⟨hi,e⟩⟩
    ·exact Or.inr hi
   clear hrow hnext e2 hml hA hz9
   have hj1:=(unhide HU).2.2.2.2.1
   have hj1K:j1≤K:=by omega
   have hme:(K-j1)<K-j:=by omega
   rcases hAB with⟨hiN2,e1⟩|hiN2
   ·have hlt1:(i:Int)<(N:Int):=by omega
    have eq1:((u1:Int) == (u0:Int))=false:=by simp;omega
    clear e1 hj1
    go_wp2_with (at_builtin;refine wpList_append_lies _ rfl _ _ _ rfl 0 3 i0 z0 1 8 Tryz.underlying27 hi0 hz hz2 hz3 hz1 (by decide) (.slice ua ul uc) ms.length (ms.map iv_) rfl ((unhide HROW).alloc _) ⟨wr.heap.size,0,none⟩ 1 1 [.int .i64 j] rfl rfl (World.news_of_block (cs:=#[.int .i64 j]) (t:=3) (fr:=(0,0)) (heap_alloc_new wr _)) (by simp[Value.oneCell']) (by decide) (by unfold maxLen;omega) (by omega) (Nat.zero_le _) (wr.heap.size+1) (by simp) ?_;intro g cap w3 hown3 hgrow hat hlt;have HI4:=hide (unhide HNEXT g cap _ w3 hown3 hgrow hat);clear hown3 hgrow hat hlt)
    refine⟨⟨i,j1,k,ms.length+1,cap,some ⟨g,0,none⟩,rfl,rfl,rfl,rfl,?_,hiN,hj1K,hki⟩,by simp[intOf];omega⟩
    rw[(unhide HU).2.2.2.2.1]
    exact HI4
   ·have hlt1:¬ (i:Int)<(N:Int):=by omega
    clear L1 hj1
    go_wp2_with (at_builtin;refine wpList_append_lies _ rfl _ _ _ rfl 0 3 i0 z0 1 8 Tryz.underlying27 hi0 hz hz2 hz3 hz1 (by decide) (.slice ua ul uc) ms.length (ms.map iv_) rfl ((unhide HROW).alloc _) ⟨wr.heap.size,0,none⟩ 1 1 [.int .i64 j] rfl rfl (World.news_of_block (cs:=#[.int .i64 j]) (t:=3) (fr:=(0,0)) (heap_alloc_new wr _)) (by simp[Value.oneCell']) (by decide) (by unfold maxLen;omega) (by omega) (Nat.zero_le _) (wr.heap.size+1) (by simp) ?_;intro g cap w3 hown3 hgrow hat hlt;have HI4:=hide (unhide HNEXT g cap _ w3 hown3 hgrow hat);clear hown3 hgrow hat hlt)
    refine⟨⟨i,j1,k,ms.length+1,cap,some ⟨g,0,none⟩,rfl,rfl,rfl,rfl,?_,hiN,hj1K,hki⟩,by simp[intOf];omega⟩
    rw[(unhide HU).2.2.2.2.1]
    exact HI4
  by_cases hiN2:i<N
  ·have e1:u1≠u0:=fun e=>hA ⟨hiN2,e⟩
   have hjK2:j<K:=by
    by_cases hj:j<K
    ·exact hj
    ·exfalso
     obtain⟨a1,a2,_⟩:=unhide HU
     exact e1 (by rw[a1,a2];exact Sp.lcs_end_j (by have:=unhide HKe;omega) _ _)
   have e2:u2≠u0:=fun e=>hB ⟨hjK2,e⟩
   have hlt1:(i:Int)<(N:Int):=by omega
   have hlt2:(j:Int)<(K:Int):=by omega
   have eq1:((u1:Int) == (u0:Int))=false:=by simp;omega
   have eq2:((u2:Int) == (u0:Int))=false:=by simp;omega
   have HI4:=hide (show DArI w1 Mk n M1 ops s xs ys i1 j1 k1 (.slice ua ul uc) wr from by
    obtain⟨a1,a2,a3,a4,a5,a6⟩:=unhide HU
    rw[a4,a5,a6]
    exact (unhide HI).keep (by have:=unhide HNe;omega) (by have:=unhide HKe;omega) (by rw[← a1,← a2];exact e1) (by rw[← a1,← a3];exact e2))
   have hnx:i1≤N∧j1≤K∧k1≤i1∧N-i1<N-i∧K-j1<K-j:=by
    obtain⟨_,_,_,a4,a5,a6⟩:=unhide HU
    omega
   clear e1 e2 hA hB
   go_wp2_with (fail)
   exact⟨⟨i1,j1,k1,ul,uc,ua,rfl,rfl,rfl,rfl,HI4,hnx.1,hnx.2.1,hnx.2.2.1⟩,by simp[intOf];omega⟩
  ·have hjK2:¬ j<K:=fun hj=>by
    obtain⟨a1,_,a3,_⟩:=unhide HU
    exact hB ⟨hj,by rw[a1,a3];exact Sp.lcs_end_i (by have:=unhide HNe;omega) _ _⟩
   have hlt1:¬ (i:Int)<(N:Int):=by omega
   have hlt2:¬ (j:Int)<(K:Int):=by omega
   obtain⟨rs,ms,M',h1,h2,h3,h4,h5⟩:=(unhide HI).ex
   have hprt:=h1.end_ (by have:=unhide HNe;omega) (by have:=unhide HKe;omega)
   have hlen:=h1.len
   obtain⟨ops',hops'⟩:∃ops',ops'=ops++rs.map (Sp.remO s):=⟨_,rfl⟩
   rw[← hops'] at h2
   have HD0:=hide (show DLo w1 Mk n M1 ops' s ys ms (.slice ua ul uc) 0 wr from⟨M',by simpa using h2,h3,h4,h5⟩)
   have HROW:=hide h4
   have HP:=hide (show ops++Sp.diffA s xs ys=ops'++ms.map (Sp.addO s ys) by rw[Sp.diffA_eq,hprt,hops',List.append_assoc])
   have HL:=hide (show ops'.length+ms.length≤1000000000 ∧ ∀q∈ms,q<ys.length from by
    have:=unhide HOPS
    have:=unhide HNe
    have:=unhide HKe
    rw[hops',List.length_append,List.length_map]
    exact⟨by omega,hlen.2.2⟩)
   clear hA hB L0 L1 L2 h1 h2 h3 h4 h5 hprt hlen hops'
   obtain⟨g,hul,hua⟩:∃g,ul=ms.length∧(0<ms.length→ua=some ⟨g,0,none⟩):=by
    rcases (unhide HROW).2 with⟨e,h0⟩|⟨g,cap,cur,e,_⟩
    ·injection e with q1 q2 q3
     exact⟨0,by omega,fun hp=>by omega⟩
    ·injection e with q1 q2 q3
     exact⟨g,q2,fun _=>q1⟩
   subst hul
   have HUA:=hide hua
   have hmlk:ms.length≤1000000000:=by have:=(unhide HL).1;omega
   clear hua
   go_wp2_with (fail)
   go_loopw [86] (fun vt wr2=>∃t:Nat,t≤ms.length∧vt = .int .i64 t∧Hid (DLo w1 Mk n M1 ops' s ys ms (.slice ua ms.length uc) t wr2)) (fun vt _=>ms.length-(intOf vt).toNat)
   case atStart=>exact⟨0,by omega,rfl,HD0⟩
   case round =>
    obtain⟨t,ht,rfl,HD⟩:=hrel
    by_cases htl:t<ms.length
    ·have htl2:(t:Int)<(ms.length:Int):=by omega
     obtain rfl:=unhide HUA (by omega)
     obtain⟨q,hq⟩:∃q,q=ms[t]:=⟨_,rfl⟩
     have hqy:q<ys.length:=(unhide HL).2 q (by rw[hq];exact List.getElem_mem htl)
     have hqK:q<K:=by have:=unhide HKe;omega
     have hqK2:(q:Int)<(K:Int):=by omega
     obtain⟨M',m2,m3,m4,m5⟩:=(unhide HD).ex
     have hxx:=(unhide HX1).trans m3
     have ct:wr.cell? ⟨g,t,none⟩=some (.int .i64 q):=by
      obtain⟨g',cap',e,_,_,_,hc⟩:=owns_cell1 m4 (by omega)
      injection e with e
      injection e with e
      injection e with e
      subst e
      rw[hc t (by simpa using htl),hq]
      simp[iv_]
     obtain⟨ha2,hg2l,hg2M⟩:=unhide HG2 (by omega)
     subst ha2
     have cq:wr.cell? ⟨g2,q,none⟩=some (.pointer (c2 q)):=(World.cell?_of_block (a:=⟨g2,q,none⟩) (hxx.kept g2 hg2M).2).trans (unhide HC2 q hqy)
     have hrq:Rep top M1 w1 (.pointer (c2 q)) ys[q]:=((unhide HR2 q hqy).move fun b hb hbl=>⟨((unhide HX1).kept b (unhide HF b hb)).2,((unhide HX1).kept b (unhide HF b hb)).1⟩).up hf
     have hLw:Laid wr:=(unhide HT).below ⟨hxx.os,hxx.tape,hxx.output,hxx.size,fun b hb=>(hxx.kept b (unhide HNG b hb)).2⟩
     have hpw:TokG wr M1 (.slice pa pl pc) s:=(unhide HPA).move fun b hb _=>⟨(hxx.kept b hb).2,((unhide HX1).kept b hb).1⟩
     have HIT:=hide (fun w1 (hb:Below wr.heap.size wr w1)=>show Calls Tryz.prog 94 #[.int .i64 q] w1 fun e w'=>e = .returned (.string ⟨(Lib.itoa (q:Int)).toArray⟩)∧Below w1.heap.size w1 w' from (Tryz.strconv_Itoa q (by omega) (by omega) w1 (hLw.below (hb.mono hLw.ng)).tab).mono (by
      rintro e w' ⟨rfl,kk,os,rfl⟩
      exact⟨rfl,grow_below _ _ _⟩))
     have HTO:=hide (fun w1 (hb:Below wr.heap.size wr w1)=>pTo_any (w:=w1) (t:=Lib.itoa (q:Int)) (hpw.move fun b hb1 hbl=>⟨hb.block b hbl,hb1⟩) (unhide HPL) (unhide HNL))
     have HADD:=hide (fun w3 (hb:Below wr.heap.size wr w3) (p:Addr) (pl pc:Nat) (htk:TokG w3 (fun b=>wr.heap.size≤b) (.slice (some p) pl pc) (Sp.numb s q))=>(unhide HD).add (x:=c2 q) htl hq.symm hqy (unhide HL).1 hb htk hrq)
     have hgl:g<wr.heap.size:=(ownsN_lt m4 g rfl).1
     obtain⟨wl,hwl⟩:∃wl,wl=w1:=⟨_,rfl⟩
     rw[← hwl] at HADD
     have HWL:=hide hwl
     clear hwl
     have hg2w:g2<wr.heap.size:=Nat.lt_of_lt_of_le hg2l hxx.size
     have hqs:=hide hq
     clear m2 m3 m4 m5 hxx hg2M hrq hLw hpw hg2l hq
     go_upto_region 15 with (fail)
     refine wp_region_any (by kernel_rfl) ?_
     refine wpAny_invC (fun lJ aJ wJ=>lJ.size=10∧(lJ.getD 9 false=false→Below (wr).heap.size wr wJ) ∧ ∃x90 x91 x92 x93 x94 x95 x96 x97 x98 x99,aJ={ tmps:=#[.pointer (some ⟨Mk,0,none⟩),.slice pa pl pc,.slice ao1 N cap1,.slice (some ⟨g2,0,none⟩) K cap2,undef,undef,undef,undef,.map (some m),.slice (some ⟨g,0,none⟩) ms.length uc,.int .i64 ↑i,.int .i64 ↑j,.int .i64 ↑k,u13,undef,.int .i64 ↑q,.slice ao1 N cap1,.slice (some ⟨g2,0,none⟩) K cap2,.map (some m),.int .i64 ↑i,.slice ao1 N cap1,.int .i64 ↑N,.bool false,.bool false,.int .i64 ↑j,.slice (some ⟨g2,0,none⟩) K cap2,.int .i64 ↑K,.bool false,.bool false,u29,u30,u31,u32,u33,u34,u35,u36,u37,u38,u39,u40,u41,u42,u43,u44,u45,u46,u47,u48,u49,u50,u51,u52,u53,u54,u55,u56,u57,u58,u59,u60,u61,u62,u63,u64,u65,u66,u67,u68,u69,u70,u71,u72,u73,u74,u75,u76,u77,u78,u79,u80,u81,u82,u83,.slice (some ⟨g,0,none⟩) ms.length uc,.int .i64 ↑ms.length,.int .i64 ↑t,.bool true,.pointer (some ⟨g,t,none⟩),.int .i64 ↑q,x90,x91,x92,x93,x94,x95,x96,x97,x98,x99,u100],defers:=[] }∧(lJ.getD 0 false=true→x90 = .pointer (some ⟨Mk,0,none⟩))∧(lJ.getD 1 false=true→x91 = .slice pa pl pc)∧(lJ.getD 2 false=true→x92 = .int .i64 q)∧(lJ.getD 3 false=true→x93 = .string ⟨(Lib.itoa (q:Int)).toArray⟩)∧(lJ.getD 4 false=true→lJ.getD 9 false=false→(fun w x=>(∃xa xl xc,x = .slice (some xa) xl xc)∧TokG w (fun b=>wr.heap.size≤b) x (Sp.numb s q)) wJ x94)∧(lJ.getD 5 false=true→x95 = .slice (some ⟨g2,0,none⟩) K cap2)∧(lJ.getD 6 false=true→x96 = .int .i64 q)∧(lJ.getD 7 false=true→x97 = .pointer (some ⟨g2,q,none⟩))∧(lJ.getD 8 false=true→x98 = .pointer (c2 q))∧(lJ.getD 9 false=true→(fun w _=>DLo wl Mk n M1 ops' s ys ms (.slice (some ⟨g,0,none⟩) ms.length uc) (t+1) w) wJ x99)) ?hs ?he _ _ _ ?h0
     case h0 =>
      refine⟨rfl,fun _=>⟨rfl,rfl,rfl,Nat.le_refl _,fun _ _=>rfl⟩,_,_,_,_,_,_,_,_,_,_,rfl,?_⟩
      refine⟨?_,?_,?_,?_,?_,?_,?_,?_,?_,?_⟩<;>(intro h;exact absurd h (by decide))
     case he =>
      intro l a w1 hJ hr
      have hall:=ready_none hJ.1 (by kernel_rfl) hr
      obtain⟨hsz,hbel,x90,x91,x92,x93,x94,x95,x96,x97,x98,x99,rfl,e0,e1,e2,e3,e4,e5,e6,e7,e8,e9⟩:=hJ
      have f0:=e0 (hall 0 (by decide))
      have f1:=e1 (hall 1 (by decide))
      have f2:=e2 (hall 2 (by decide))
      have f3:=e3 (hall 3 (by decide))
      have f4:=e4 (hall 4 (by decide))
      have f5:=e5 (hall 5 (by decide))
      have f6:=e6 (hall 6 (by decide))
      have f7:=e7 (hall 7 (by decide))
      have f8:=e8 (hall 8 (by decide))
      have f9:=e9 (hall 9 (by decide))
      clear e0 e1 e2 e3 e4 e5 e6 e7 e8 e9 hall hr
      clear f0 f1 f2 f3 f4 f5 f6 f7 f8
      have HFI:=hide f9
      clear f9
      go_wp2_with (fail)
      exact⟨⟨t+1,by omega,by go_num,by rw[← unhide HWL];exact HFI⟩,by simp[intOf];omega⟩
     case hs =>
      intro l a w1 hcl hJ i hi
      obtain⟨hno,haft⟩:=ready_after hi
      have hi12:i<10:=by
       obtain⟨_,o,ho,_⟩:=mem_ready.1 hi
       exact (Array.getElem?_eq_some_iff.1 ho).1
      obtain⟨hsz,hbel,x90,x91,x92,x93,x94,x95,x96,x97,x98,x99,rfl,e0,e1,e2,e3,e4,e5,e6,e7,e8,e9⟩:=hJ
      clear hi
      have hcase:i=0∨i=1∨i=2∨i=3∨i=4∨i=5∨i=6∨i=7∨i=8∨i=9:=by omega
      rcases hcase with rfl|rfl|rfl|rfl|rfl|rfl|rfl|rfl|rfl|rfl
      ·have hni:l.getD 0 false=false:=by simpa[Array.getD,hsz] using hno
       have hnl:l.getD 9 false=false:=by
        cases h:l.getD 9 false
        ·rfl
        ·have h0:=hcl 9 _ rfl h ⟨0,.data⟩ (by simp) rfl
         exact absurd h0 (by rw[hni];decide)
       have hb:=hbel hnl
       refine wpOp_step rfl fun K hK=>?_
       go_simp
       exact hK _ _ ⟨by simp[hsz],fun h=>hbel ((getD_set_ne _ (by decide)).symm.trans h),_,_,_,_,_,_,_,_,_,_,rfl,fun _=>rfl,setN (by decide) e1,setN (by decide) e2,setN (by decide) e3,fun h h'=>e4 ((getD_set_ne _ (by decide)).symm.trans h) ((getD_set_ne _ (by decide)).symm.trans h'),setN (by decide) e5,setN (by decide) e6,setN (by decide) e7,setN (by decide) e8,setN (by decide) e9⟩
      ·have hni:l.getD 1 false=false:=by simpa[Array.getD,hsz] using hno
       have hnl:l.getD 9 false=false:=by
        cases h:l.getD 9 false
        ·rfl
        ·have h0:=hcl 9 _ rfl h ⟨4,.data⟩ (by simp) rfl
         have h1:=hcl 4 _ rfl h0 ⟨1,.data⟩ (by simp) rfl
         exact absurd h1 (by rw[hni];decide)
       have hb:=hbel hnl
       refine wpOp_step rfl fun K hK=>?_
       go_simp
       exact hK _ _ ⟨by simp[hsz],fun h=>hbel ((getD_set_ne _ (by decide)).symm.trans h),_,_,_,_,_,_,_,_,_,_,rfl,setN (by decide) e0,fun _=>rfl,setN (by decide) e2,setN (by decide) e3,fun h h'=>e4 ((getD_set_ne _ (by decide)).symm.trans h) ((getD_set_ne _ (by decide)).symm.trans h'),setN (by decide) e5,setN (by decide) e6,setN (by decide) e7,setN (by decide) e8,setN (by decide) e9⟩
      ·have hni:l.getD 2 false=false:=by simpa[Array.getD,hsz] using hno
       have hnl:l.getD 9 false=false:=by
        cases h:l.getD 9 false
        ·rfl
        ·have h0:=hcl 9 _ rfl h ⟨4,.data⟩ (by simp) rfl
         have h1:=hcl 4 _ rfl h0 ⟨3,.data⟩ (by simp) rfl
         have h2:=hcl 3 _ rfl h1 ⟨2,.data⟩ (by simp) rfl
         exact absurd h2 (by rw[hni];decide)
       have hb:=hbel hnl
       refine wpOp_step rfl fun K hK=>?_
       go_simp
       exact hK _ _ ⟨by simp[hsz],fun h=>hbel ((getD_set_ne _ (by decide)).symm.trans h),_,_,_,_,_,_,_,_,_,_,rfl,setN (by decide) e0,setN (by decide) e1,fun _=>rfl,setN (by decide) e3,fun h h'=>e4 ((getD_set_ne _ (by decide)).symm.trans h) ((getD_set_ne _ (by decide)).symm.trans h'),setN (by decide) e5,setN (by decide) e6,setN (by decide) e7,setN (by decide) e8,setN (by decide) e9⟩
      ·have hni:l.getD 3 false=false:=by simpa[Array.getD,hsz] using hno
       have hnl:l.getD 9 false=false:=by
        cases h:l.getD 9 false
        ·rfl
        ·have h0:=hcl 9 _ rfl h ⟨4,.data⟩ (by simp) rfl
         have h1:=hcl 4 _ rfl h0 ⟨3,.data⟩ (by simp) rfl
         exact absurd h1 (by rw[hni];decide)
       obtain rfl:=e2 (haft _ rfl ⟨2,.data⟩ (by simp) rfl)
       have hb:=hbel hnl
       refine wpOp_step rfl fun K hK=>?_
       go_simp
       refine (unhide HIT w1 hb).mono ?_
       rintro e wn ⟨rfl,hb2⟩
       show K _ _
       exact hK _ _ ⟨by simp[hsz],fun _=>hb.trans (hb2.mono hb.size),_,_,_,_,_,_,_,_,_,_,rfl,setN (by decide) e0,setN (by decide) e1,setN (by decide) e2,fun _=>rfl,fun h h'=>(fun hb2 ⟨a,h⟩=>⟨a,h.move fun k hk hkl=>⟨hb2.block k hkl,hk⟩⟩) hb2 (e4 ((getD_set_ne _ (by decide)).symm.trans h) ((getD_set_ne _ (by decide)).symm.trans h')),setN (by decide) e5,setN (by decide) e6,setN (by decide) e7,setN (by decide) e8,fun h=>absurd ((getD_set_ne _ (by decide)).symm.trans h) (by rw[hnl];decide)⟩
      ·have hni:l.getD 4 false=false:=by simpa[Array.getD,hsz] using hno
       have hnl:l.getD 9 false=false:=by
        cases h:l.getD 9 false
        ·rfl
        ·have h0:=hcl 9 _ rfl h ⟨4,.data⟩ (by simp) rfl
         exact absurd h0 (by rw[hni];decide)
       obtain rfl:=e1 (haft _ rfl ⟨1,.data⟩ (by simp) rfl)
       obtain rfl:=e3 (haft _ rfl ⟨3,.data⟩ (by simp) rfl)
       have hb:=hbel hnl
       refine wpOp_step rfl fun K hK=>?_
       go_simp
       refine (unhide HTO w1 hb).mono ?_
       rintro e wn ⟨g',cap',rfl,hg',htk,hb2⟩
       show K _ _
       exact hK _ _ ⟨by simp[hsz],fun _=>hb.trans (hb2.mono hb.size),_,_,_,_,_,_,_,_,_,_,rfl,setN (by decide) e0,setN (by decide) e1,setN (by decide) e2,setN (by decide) e3,fun _=>fun _=>⟨⟨_,_,_,rfl⟩,htk.move fun k hk _=>⟨rfl,Nat.le_trans hb.size hk⟩⟩,setN (by decide) e5,setN (by decide) e6,setN (by decide) e7,setN (by decide) e8,fun h=>absurd ((getD_set_ne _ (by decide)).symm.trans h) (by rw[hnl];decide)⟩
      ·have hni:l.getD 5 false=false:=by simpa[Array.getD,hsz] using hno
       have hnl:l.getD 9 false=false:=by
        cases h:l.getD 9 false
        ·rfl
        ·have h0:=hcl 9 _ rfl h ⟨8,.data⟩ (by simp) rfl
         have h1:=hcl 8 _ rfl h0 ⟨7,.data⟩ (by simp) rfl
         have h2:=hcl 7 _ rfl h1 ⟨5,.data⟩ (by simp) rfl
         exact absurd h2 (by rw[hni];decide)
       have hb:=hbel hnl
       refine wpOp_step rfl fun K hK=>?_
       go_simp
       exact hK _ _ ⟨by simp[hsz],fun h=>hbel ((getD_set_ne _ (by decide)).symm.trans h),_,_,_,_,_,_,_,_,_,_,rfl,setN (by decide) e0,setN (by decide) e1,setN (by decide) e2,setN (by decide) e3,fun h h'=>e4 ((getD_set_ne _ (by decide)).symm.trans h) ((getD_set_ne _ (by decide)).symm.trans h'),fun _=>rfl,setN (by decide) e6,setN (by decide) e7,setN (by decide) e8,setN (by decide) e9⟩
      ·have hni:l.getD 6 false=false:=by simpa[Array.getD,hsz] using hno
       have hnl:l.getD 9 false=false:=by
        cases h:l.getD 9 false
        ·rfl
        ·have h0:=hcl 9 _ rfl h ⟨8,.data⟩ (by simp) rfl
         have h1:=hcl 8 _ rfl h0 ⟨7,.data⟩ (by simp) rfl
         have h2:=hcl 7 _ rfl h1 ⟨6,.data⟩ (by simp) rfl
         exact absurd h2 (by rw[hni];decide)
       have hb:=hbel hnl
       refine wpOp_step rfl fun K hK=>?_
       go_simp
       exact hK _ _ ⟨by simp[hsz],fun h=>hbel ((getD_set_ne _ (by decide)).symm.trans h),_,_,_,_,_,_,_,_,_,_,rfl,setN (by decide) e0,setN (by decide) e1,setN (by decide) e2,setN (by decide) e3,fun h h'=>e4 ((getD_set_ne _ (by decide)).symm.trans h) ((getD_set_ne _ (by decide)).symm.trans h'),setN (by decide) e5,fun _=>rfl,setN (by decide) e7,setN (by decide) e8,setN (by decide) e9⟩
      ·have hni:l.getD 7 false=false:=by simpa[Array.getD,hsz] using hno
       have hnl:l.getD 9 false=false:=by
        cases h:l.getD 9 false
        ·rfl
        ·have h0:=hcl 9 _ rfl h ⟨8,.data⟩ (by simp) rfl
         have h1:=hcl 8 _ rfl h0 ⟨7,.data⟩ (by simp) rfl
         exact absurd h1 (by rw[hni];decide)
       obtain rfl:=e5 (haft _ rfl ⟨5,.data⟩ (by simp) rfl)
       obtain rfl:=e6 (haft _ rfl ⟨6,.data⟩ (by simp) rfl)
       have hb:=hbel hnl
       refine wpOp_step rfl fun K hK=>?_
       go_simp
       exact hK _ _ ⟨by simp[hsz],fun h=>hbel ((getD_set_ne _ (by decide)).symm.trans h),_,_,_,_,_,_,_,_,_,_,rfl,setN (by decide) e0,setN (by decide) e1,setN (by decide) e2,setN (by decide) e3,fun h h'=>e4 ((getD_set_ne _ (by decide)).symm.trans h) ((getD_set_ne _ (by decide)).symm.trans h'),setN (by decide) e5,setN (by decide) e6,fun _=>rfl,setN (by decide) e8,setN (by decide) e9⟩
      ·have hni:l.getD 8 false=false:=by simpa[Array.getD,hsz] using hno
       have hnl:l.getD 9 false=false:=by
        cases h:l.getD 9 false
        ·rfl
        ·have h0:=hcl 9 _ rfl h ⟨8,.data⟩ (by simp) rfl
         exact absurd h0 (by rw[hni];decide)
       obtain rfl:=e7 (haft _ rfl ⟨7,.data⟩ (by simp) rfl)
       have hb:=hbel hnl
       have z:=(hb.cell (p:=⟨g2,q,none⟩) hg2w).trans cq
       refine wpOp_step rfl fun K hK=>?_
       go_simp
       exact hK _ _ ⟨by simp[hsz],fun h=>hbel ((getD_set_ne _ (by decide)).symm.trans h),_,_,_,_,_,_,_,_,_,_,rfl,setN (by decide) e0,setN (by decide) e1,setN (by decide) e2,setN (by decide) e3,fun h h'=>e4 ((getD_set_ne _ (by decide)).symm.trans h) ((getD_set_ne _ (by decide)).symm.trans h'),setN (by decide) e5,setN (by decide) e6,setN (by decide) e7,fun _=>rfl,setN (by decide) e9⟩
      ·have hni:l.getD 9 false=false:=by simpa[Array.getD,hsz] using hno
       have hnl:=hni
       obtain rfl:=e0 (haft _ rfl ⟨0,.data⟩ (by simp) rfl)
       have q4:=e4 (haft _ rfl ⟨4,.data⟩ (by simp) rfl) hnl
       obtain rfl:=e8 (haft _ rfl ⟨8,.data⟩ (by simp) rfl)
       have hb:=hbel hnl
       obtain⟨⟨xa,xl,xc,rfl⟩,htk⟩:=q4
       refine wpOp_step rfl fun K hK=>?_
       go_simp
       refine (unhide HADD w1 hb xa xl xc htk).mono ?_
       rintro e wn ⟨rfl,hM⟩
       show K _ _
       exact hK _ _ ⟨by simp[hsz],(fun h=>by rw[getT hsz 9 (by decide)] at h;cases h),_,_,_,_,_,_,_,_,_,_,rfl,(setN (by decide) e0),(setN (by decide) e1),(setN (by decide) e2),(setN (by decide) e3),(fun _ h'=>by rw[getT hsz 9 (by decide)] at h';cases h'),(setN (by decide) e5),(setN (by decide) e6),(setN (by decide) e7),(setN (by decide) e8),(fun _=>hM)⟩
    ·obtain rfl:t=ms.length:=by omega
     have hlt3:¬ ((ms.length:Nat):Int)<((ms.length:Nat):Int):=by omega
     have HFIN:=hide (show Q (.returned (.tuple #[])) wr from by
      obtain⟨M',m2,m3,_⟩:=(unhide HD).ex
      rw[unhide HQ]
      exact⟨rfl,M',by rw[unhide HP];rw[List.take_length] at m2;exact m2.less fun b hb=>Or.inl hb,(unhide HX1).trans m3⟩)
     go_wp2_with (fail)
     exact bodyPost_end (results_none rfl _ _ _) rfl (unhide HFIN)
end

section
open Go.RowKit Go.Maps
namespace Sp
theorem diffO_app (m:List By→V→V→List Opn) (s:List By) (xs bs:List (Lit×V)):∀l k:List By,diffO m s xs bs (l++k)=diffO m s xs bs l++diffO m s xs bs k
 | [],k=>rfl
 | a::l,k=>by rw[List.cons_append,diffO,diffO,diffO_app m s xs bs l k,List.append_assoc]
theorem ukeys_len (xs bs:List (Lit×V)):(ukeys xs bs).length≤xs.length+bs.length:=by
 unfold ukeys
 rw[List.length_map]
 have h:∀ (bs xs:List (Lit×V)),(bs.foldl (fun (l:List (Lit×V)) q=>mput q.1 .nil l) xs).length≤xs.length+bs.length:=fun bs=>by
  induction bs with
  | nil=>intro xs;simp
  | cons q r ih =>
   intro xs
   rw[List.foldl_cons,List.length_cons]
   have h1:=ih (mput q.1 .nil xs)
   have h2:=mput_len q.1 (.nil:V) xs
   omega
 exact h bs xs
theorem obj_len_sz (f:Nat) (es:List (Lit×V)):es.length≤sz (f+1) (.map es):=by
 show es.length≤2+(es.map fun p=>(quoT (strOf p.1)).length+2+sz f p.2).sum
 induction es with
 | nil=>exact Nat.zero_le _
 | cons p r ih =>
  simp only[List.map_cons,List.sum_cons,List.length_cons] at *
  omega
end Sp
def ValsOk (d x n:Int) (f:Nat):Prop:=∀ (lv:Int) (F F':Nat→Prop) (w:World) (Mk:Nat) (M:Nat→Prop) (av bv:Value) (a b:Sp.V) (s:List Sp.By) (pa:Option Addr) (pl pc:Nat) (ops:List Sp.Opn),MkD w Mk n M ops→Laid w→(∀k,k<NG→M k)→(∀k,F k→M k)→(∀k,F' k→M k)→Rep f F w av a→Rep f F' w bv b→Sp.gd d x f lv a→Sp.gd d x f lv b→s.length+Sp.sz f a≤400000→Sp.sz f b≤400000→(ops.length:Int)+1000000*(d+1-lv)≤400000000→TokG w M (.slice pa pl pc) s→(s=[] → ∃c,(Value.slice pa pl pc) = .slice none 0 c) →
  Calls Tryz.prog 123 #[.pointer (some ⟨Mk,0,none⟩),.slice pa pl pc,av,bv] w (DfEnd Mk n M ops (Sp.diff n f s a b) w)
theorem values_any {d x n:Int} (hn2:n≤2000):∀ (f:Nat),f≤top→ValsOk d x n f
 | 0,_=>fun _ _ _ _ _ _ _ _ _ _ _ _ _ _ _ _ _ _ _ _ h=>h.elim
 | f+1,hf=>by
  intro lv F F' w Mk M av bv a b s pa pl pc ops h hT hNG hF hF' ha hb ga gb hsa hsb hops hp hnil
  have hlv:lv≤d:=ga.1
  have hops2:ops.length≤400000000:=by omega
  refine mValues_any h ha hb hf hF' hp (by omega) (fun xs z e=>?_) (fun ys z e=>?_) ?_ ?_
  ·subst e
   have:=Sp.arr_len_sz f xs z
   omega
  ·subst e
   have:=Sp.arr_len_sz f ys z
   omega
  ·intro xs ys m1 n1 D1 m2 n2 D2 e1 e2 k1 k2 o1 p1 o2 p2 w1 hb1
   subst e1 e2
   obtain⟨h1,hx1⟩:=h.bel hb1
   have o1':=map_kept o1 (hb1.block m1 (map_lt o1))
   have o2':=map_kept o2 (hb1.block m2 (map_lt o2))
   have p1':=p1.mono fun _ _ hr=>hr.bel hb1
   have p2':=p2.mono fun _ _ hr=>hr.bel hb1
   have g1:=(Sp.gd_map ga).2
   have g2:=(Sp.gd_map gb).2
   have hmem:∀k,(∀c,(Lit.string k,c)∈xs→k.length+1+Sp.sz f c≤Sp.sz (f+1) (.map xs)) ∧ ∀c,(Lit.string k,c)∈ys→k.length+1+Sp.sz f c≤Sp.sz (f+1) (.map ys):=fun k=>by
    have hq:=Sp.quoT_ge k
    refine⟨fun c hm=>?_,fun c hm=>?_⟩
    ·have h3:(Sp.quoT k).length+2+Sp.sz f c≤Sp.sz (f+1) (.map xs):=Sp.sz_mem (f:=f) hm
     omega
    ·have h3:(Sp.quoT k).length+2+Sp.sz f c≤Sp.sz (f+1) (.map ys):=Sp.sz_mem (f:=f) hm
     omega
   have hlx:=Sp.obj_len_sz f xs
   have hly:=Sp.obj_len_sz f ys
   have hdl:∀t,(ops++Sp.diffO (Sp.diff n f) s xs ys ((Sp.ukeys xs ys).take t)).length≤ops.length+Sp.sz (f+1) (.map xs)+Sp.sz (f+1) (.map ys):=fun t=>by
    have h2:(Sp.diffO (Sp.diff n f) s xs ys (Sp.ukeys xs ys)).length≤Sp.sz (f+1) (.map xs)+Sp.sz (f+1) (.map ys):=Sp.diff_len (n:=n) (s:=s) ga gb
    have h3:=Sp.diffO_app (Sp.diff n f) s xs ys ((Sp.ukeys xs ys).take t) ((Sp.ukeys xs ys).drop t)
    rw[List.take_append_drop] at h3
    rw[h3,List.length_append] at h2
    rw[List.length_append]
    omega
   refine mObjects_any h1 (by omega) hF hF' (hF _ k1) (hF' _ k2) o1' p1' o2' p2' (hp.move fun k hk hkl=>⟨hb1.block k hkl,hk⟩) (by omega) hnil (Sp.ukeys xs ys) (fun k hk=>?_) ?_ (fun t=>by have:=hdl t;omega) (keysOf_any o1' p1' o2' p2' g1.skey g2.skey (by omega) (by omega)) ?_
   ·rcases (Sp.ukeys_mem g1.skey g2.skey).1 hk with⟨c,hm⟩|⟨c,hm⟩
    ·have:=(hmem k).1 c hm;omega
    ·have:=(hmem k).2 c hm;omega
   ·have:=Sp.ukeys_len xs ys
    omega
   ·rintro k hk u y hu hy M1 wr xv yv qa ql qc ops' ⟨t,rfl⟩ hm hx hrx hry htk
    have hmu:=Sp.get_mem g1.skey hu
    have hmy:=Sp.get_mem g2.skey hy
    have q1:=(hmem k).1 u hmu
    have q2:=(hmem k).2 y hmy
    have q3:=hdl t
    have q4:(Sp.diffO (Sp.diff n f) s xs ys ((Sp.ukeys xs ys).take t)).length≤1000000:=by rw[List.length_append] at q3;omega
    refine values_any hn2 f (by omega) (lv+1) _ _ _ _ _ _ _ _ _ _ _ _ _ _ hm ?_ (fun j hj=>(hx.kept j (hNG j hj)).1) (fun j hj=>(hx.kept j (hF j hj)).1) (fun j hj=>(hx.kept j (hF' j hj)).1) hrx hry (g1.2 _ hmu).2 (g2.2 _ hmy).2 ?_ (by omega) ?_ htk (fun e=>by simp at e)
    ·exact (hT.below (hb1.mono hT.ng)).below ⟨hx.os,hx.tape,hx.output,hx.size,fun j hj=>(hx.kept j (hNG j hj)).2⟩
    ·rw[List.length_append,List.length_singleton];omega
    ·omega
  ·intro xs ys sl1 sl2 ps1 ps2 e1 e2 hcc o1 a1 o2 k2 a2 w1 hb1
   subst e1 e2
   obtain⟨h1,hx1⟩:=h.bel hb1
   refine mArrays_any (F:=F) (F':=F') h1 (hT.below (hb1.mono hT.ng)) hNG (by omega) hF' ?_ (by omega) (ownsN_kept o1 fun g hg=>hb1.block g (ownsN_lt o1 g hg).1) (a1.mono fun _ _ hr=>hr.bel hb1) (ownsN_kept o2 fun g hg=>hb1.block g (ownsN_lt o2 g hg).1) k2 (a2.mono fun _ _ hr=>hr.bel hb1) (hp.move fun k hk hkl=>⟨hb1.block k hkl,hk⟩) (by omega) hnil
   have h5:(((xs.length+1)*(ys.length+1):Nat):Int)≤n:=by
    rw[Int.natCast_mul,Int.natCast_add,Int.natCast_add];exact hcc
   omega
theorem values_ok:ValuesOk:=by
 intro d x n F F' w Mk M av bv a b hn2 hT hNG hM hF hF' ha hb ga gb hd ha2 hb2
 exact values_any hn2 top (Nat.le_refl _) _ _ _ _ _ _ _ _ _ _ [] _ _ _ _ hM hT hNG hF hF' ha hb ga gb (by simp;omega) (by omega) (by simp;omega) (Or.inl ⟨rfl,none,0,rfl,by unfold maxLen;omega⟩) (fun _=>⟨0,rfl⟩)
theorem diff_ok:DiffOk:=diff_ok_of values_ok
end
end Go.Proofs.YtdpomdelmdofmaaGreatDoor
