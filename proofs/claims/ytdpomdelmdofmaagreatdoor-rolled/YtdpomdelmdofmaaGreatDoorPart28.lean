/-
  What changes a document: insert, remove, swap, at a place whose own changes are known.
-/
import Derived.Test.YtdpomdelmdofmaaGreatDoorPart27
import Derived.Test.YtdpomdelmdofmaaGreatDoorPart18
import Derived.RangeFuncOwn
namespace Go.Proofs.YtdpomdelmdofmaaGreatDoor
open Go.RowKit Go.Maps
abbrev plW (w:World) (pa:Option Addr) (pl pc b:Nat) (key:Sp.By) (i:Nat):World:=w.alloc (.cells #[.slice pa pl pc,.pointer (some ⟨b,0,none⟩),.string ⟨key.toArray⟩,.int .i64 i] 185)
abbrev xW (w:World) (y:Option Addr):World:=w.alloc (.cells #[.pointer y] 80)
section
variable {w:World} {D b i n:Nat} {rv jn iv:Value} {ch:Bool} {key:Sp.By} {pa x y:Option Addr} {pl pc:Nat} {xs:List Value}
theorem dInsert_any {Q:World → Prop} (hn:n ≤ 1000000000) (hjD:jn.ownBlock ≠ some D)
  (hC:Calls Tryz.prog 249 #[plV (.slice pa pl pc) b key i,.pointer x] (plW w pa pl pc b key i) fun e w'=>e = .returned (.tuple #[]) ∧ Q w')
  (hQ:∀ w2,Q w2 → PBox w2 w.heap.size (.slice pa pl pc) b key i ∧ DB w2 D rv jn ch iv ∧ w2.ownsRow 0 230 5 jn n xs) :
  Calls Tryz.prog 205 #[.pointer (some ⟨D,0,none⟩),plV (.slice pa pl pc) b key i,.pointer x] w fun e w3 =>
   ∃ w2,Q w2 ∧ LayEnd D rv jn iv ch n xs [cloV (252,#[.pointer (some ⟨w.heap.size,0,none⟩)]),.int .i64 1,.slice pa pl pc,.slice none 0 0,.pointer none] w2 e w3:=by
 have HC:=hide hC
 have HQ:=hide hQ
 have HJD:=hide hjD
 have hbx:=heap_alloc_new w (.cells #[.slice pa pl pc,.pointer (some ⟨b,0,none⟩),.string ⟨key.toArray⟩,.int .i64 i] 185)
 have HP:=hide (show PBox (plW w pa pl pc b key i) w.heap.size (.slice pa pl pc) b key i from hbx)
 clear hC hQ hjD hbx
 go_enter Tryz.func205,Tryz.ntmps205
 go_wp2_with (fail)
 refine (unhide HC).mono ?_
 rintro e w2 ⟨rfl,hq⟩
 obtain ⟨g1,g2,g3⟩:=unhide HQ w2 hq
 have e0:=g1.c0
 have G2:=hide g2
 have G3:=hide g3
 have HQ2:=hide hq
 clear g1 g2 g3 hq
 go_wp2_with (fail)
 refine (dLay_any (c:=(252,#[.pointer (some ⟨w.heap.size,0,none⟩)])) (unhide G2) (unhide G3) hn (unhide HJD)).mono ?_
 intro e w3 hL
 obtain ⟨rfl,hL2⟩:=id hL
 have HL:=hide hL
 clear hL hL2
 go_wp2_with (fail)
 exact bodyPost_end (results_none rfl _ _ _) rfl ⟨w2,unhide HQ2,unhide HL⟩
theorem dRemove_any {Q:World → World → Prop} (hn:n ≤ 1000000000) (hjD:jn.ownBlock ≠ some D)
  (hG:Calls Tryz.prog 159 #[plV (.slice pa pl pc) b key i] (plW w pa pl pc b key i) fun e w'=>e = .returned (.pointer y) ∧ Below (w.heap.size + 1) (plW w pa pl pc b key i) w')
  (hC:∀ w2,Below (w.heap.size + 1) (plW w pa pl pc b key i) w2 → Calls Tryz.prog 246 #[plV (.slice pa pl pc) b key i] (xW w2 y) fun e w'=>e = .returned (.tuple #[]) ∧ Q w2 w')
  (hQ:∀ w2 w3,Below (w.heap.size + 1) (plW w pa pl pc b key i) w2 → Q w2 w3 → PBox w3 w.heap.size (.slice pa pl pc) b key i ∧ XBox w3 w2.heap.size y ∧ DB w3 D rv jn ch iv ∧ w3.ownsRow 0 230 5 jn n xs) :
  Calls Tryz.prog 199 #[.pointer (some ⟨D,0,none⟩),plV (.slice pa pl pc) b key i] w fun e w4 =>
   ∃ w2 w3,Below (w.heap.size + 1) (plW w pa pl pc b key i) w2 ∧ Q w2 w3 ∧ LayEnd D rv jn iv ch n xs [cloV (248,#[.pointer (some ⟨w.heap.size,0,none⟩),.pointer (some ⟨w2.heap.size,0,none⟩)]),.int .i64 0,.slice pa pl pc,.slice none 0 0,.pointer y] w3 e w4:=by
 have HG:=hide hG
 have HC:=hide hC
 have HQ:=hide hQ
 have HJD:=hide hjD
 have hbx:=heap_alloc_new w (.cells #[.slice pa pl pc,.pointer (some ⟨b,0,none⟩),.string ⟨key.toArray⟩,.int .i64 i] 185)
 have HP:=hide (show PBox (plW w pa pl pc b key i) w.heap.size (.slice pa pl pc) b key i from hbx)
 clear hG hC hQ hjD hbx
 go_enter Tryz.func199,Tryz.ntmps199
 go_wp2_with (fail)
 refine (unhide HG).mono ?_
 rintro e w2 ⟨rfl,hb⟩
 have hp2:PBox w2 w.heap.size (.slice pa pl pc) b key i:=(hb.block _ (by omega)).trans (unhide HP)
 have hlt:w.heap.size < w2.heap.size:=(Array.getElem?_eq_some_iff.1 hp2).1
 have hp3:PBox (xW w2 y) w.heap.size (.slice pa pl pc) b key i:=(Below.heap_alloc w2 _ _ hlt).trans hp2
 have e0:=hp3.c0
 have e1:=hp3.c1
 have e2:=hp3.c2
 have e3:=hp3.c3
 have HB:=hide hb
 clear hb hp2 hp3
 go_wp2_with (fail)
 refine (unhide HC w2 (unhide HB)).mono ?_
 rintro e w3 ⟨rfl,hq⟩
 obtain ⟨g0,g1,g2,g3⟩:=unhide HQ w2 w3 (unhide HB) hq
 clear e0 e1 e2 e3
 have e0:=g0.c0
 have e4:=g1.c0
 have G2:=hide g2
 have G3:=hide g3
 have HQ2:=hide hq
 clear g0 g1 g2 g3 hq
 go_wp2_with (fail)
 refine (dLay_any (c:=(248,#[.pointer (some ⟨w.heap.size,0,none⟩),.pointer (some ⟨w2.heap.size,0,none⟩)])) (unhide G2) (unhide G3) hn (unhide HJD)).mono ?_
 intro e w4 hL
 obtain ⟨rfl,hL2⟩:=id hL
 have HL:=hide hL
 clear hL hL2
 go_wp2_with (fail)
 exact bodyPost_end (results_none rfl _ _ _) rfl ⟨w2,w3,unhide HB,unhide HQ2,unhide HL⟩
theorem dSwap_any {Q:World → World → Prop} (hn:n ≤ 1000000000) (hjD:jn.ownBlock ≠ some D)
  (hG:Calls Tryz.prog 159 #[plV (.slice pa pl pc) b key i] (plW w pa pl pc b key i) fun e w'=>e = .returned (.pointer y) ∧ Below (w.heap.size + 1) (plW w pa pl pc b key i) w')
  (hC:∀ w2,Below (w.heap.size + 1) (plW w pa pl pc b key i) w2 → Calls Tryz.prog 250 #[plV (.slice pa pl pc) b key i,.pointer x] (xW w2 y) fun e w'=>e = .returned (.tuple #[]) ∧ Q w2 w')
  (hQ:∀ w2 w3,Below (w.heap.size + 1) (plW w pa pl pc b key i) w2 → Q w2 w3 → PBox w3 w.heap.size (.slice pa pl pc) b key i ∧ XBox w3 w2.heap.size y ∧ DB w3 D rv jn ch iv ∧ w3.ownsRow 0 230 5 jn n xs) :
  Calls Tryz.prog 200 #[.pointer (some ⟨D,0,none⟩),plV (.slice pa pl pc) b key i,.pointer x] w fun e w4 =>
   ∃ w2 w3,Below (w.heap.size + 1) (plW w pa pl pc b key i) w2 ∧ Q w2 w3 ∧ LayEnd D rv jn iv ch n xs [cloV (251,#[.pointer (some ⟨w.heap.size,0,none⟩),.pointer (some ⟨w2.heap.size,0,none⟩)]),.int .i64 2,.slice pa pl pc,.slice none 0 0,.pointer y] w3 e w4:=by
 have HG:=hide hG
 have HC:=hide hC
 have HQ:=hide hQ
 have HJD:=hide hjD
 have hbx:=heap_alloc_new w (.cells #[.slice pa pl pc,.pointer (some ⟨b,0,none⟩),.string ⟨key.toArray⟩,.int .i64 i] 185)
 have HP:=hide (show PBox (plW w pa pl pc b key i) w.heap.size (.slice pa pl pc) b key i from hbx)
 clear hG hC hQ hjD hbx
 go_enter Tryz.func200,Tryz.ntmps200
 go_wp2_with (fail)
 refine (unhide HG).mono ?_
 rintro e w2 ⟨rfl,hb⟩
 have hp2:PBox w2 w.heap.size (.slice pa pl pc) b key i:=(hb.block _ (by omega)).trans (unhide HP)
 have hlt:w.heap.size < w2.heap.size:=(Array.getElem?_eq_some_iff.1 hp2).1
 have hp3:PBox (xW w2 y) w.heap.size (.slice pa pl pc) b key i:=(Below.heap_alloc w2 _ _ hlt).trans hp2
 have e0:=hp3.c0
 have e1:=hp3.c1
 have e2:=hp3.c2
 have e3:=hp3.c3
 have HB:=hide hb
 clear hb hp2 hp3
 go_wp2_with (fail)
 refine (unhide HC w2 (unhide HB)).mono ?_
 rintro e w3 ⟨rfl,hq⟩
 obtain ⟨g0,g1,g2,g3⟩:=unhide HQ w2 w3 (unhide HB) hq
 clear e0 e1 e2 e3
 have e0:=g0.c0
 have e4:=g1.c0
 have G2:=hide g2
 have G3:=hide g3
 have HQ2:=hide hq
 clear g0 g1 g2 g3 hq
 go_wp2_with (fail)
 refine (dLay_any (c:=(251,#[.pointer (some ⟨w.heap.size,0,none⟩),.pointer (some ⟨w2.heap.size,0,none⟩)])) (unhide G2) (unhide G3) hn (unhide HJD)).mono ?_
 intro e w4 hL
 obtain ⟨rfl,hL2⟩:=id hL
 have HL:=hide hL
 clear hL hL2
 go_wp2_with (fail)
 exact bodyPost_end (results_none rfl _ _ _) rfl ⟨w2,w3,unhide HB,unhide HQ2,unhide HL⟩
end
end Go.Proofs.YtdpomdelmdofmaaGreatDoor

namespace Go.Proofs.YtdpomdelmdofmaaGreatDoor
open Go.RowKit Go.Maps
namespace Sp
def mps:Nat → A → List Nat
 | 0,_=>[]
 | f + 1,a=>match a with
  | .agg [.lit (.int _ _),.lit (.int _ g),x]=>(match x with
   | .slice al _=>al.flatMap (mps f)
   | .map es=>g.toNat :: es.flatMap (fun p=>mps f p.2)
   | _=>[])
  | _=>[]
theorem mps_arr (f b g:Nat) (al:List A):mps (f + 1) (nd b g (.slice al [])) = al.flatMap (mps f):=rfl
theorem mps_obj (f b g:Nat) (es:List (Lit × A)):mps (f + 1) (nd b g (.map es)) = g :: es.flatMap (fun p=>mps f p.2):=rfl
end Sp
theorem TRep.maps {w:World}:∀ {f:Nat} {v:Value} {a:Sp.A},TRep f w v a → (∀ k ∈ Sp.mps f a,k ∈ Sp.fp f a) ∧ ∀ k ∈ Sp.fp f a,k ∈ Sp.mps f a ∨ ∃ o,w.heap[k]? = some o ∧ o.isCells = true
 | 0,_,_,h=>h.elim
 | f + 1,v,a,h=>by
  obtain ⟨b,g,x,rfl,hv,h⟩:=h
  rcases h with ⟨j,_,_,rfl,h⟩ | ⟨n,_,rfl,h,_⟩ | ⟨s,_,rfl,h⟩ | ⟨al,sl,ps,rfl,h,ho,hs,ha⟩ | ⟨es,n,D,rfl,h,ho,hp⟩
  ·refine ⟨fun k hk=>(by cases hk),fun k hk=>Or.inr ?_⟩
   rw [Sp.fp_word] at hk
   obtain rfl:k = b:=by simpa using hk
   exact ⟨_,h,rfl⟩
  ·refine ⟨fun k hk=>(by cases hk),fun k hk=>Or.inr ?_⟩
   rw [Sp.fp_num] at hk
   obtain rfl:k = b:=by simpa using hk
   exact ⟨_,h,rfl⟩
  ·refine ⟨fun k hk=>(by cases hk),fun k hk=>Or.inr ?_⟩
   rw [Sp.fp_str] at hk
   obtain rfl:k = b:=by simpa using hk
   exact ⟨_,h,rfl⟩
  ·rw [Sp.fp_arr,Sp.mps_arr]
   refine ⟨fun k hk=>?_,fun k hk=>?_⟩
   ·obtain ⟨c,hc,hkc⟩:=List.mem_flatMap.1 hk
    obtain ⟨u,hu⟩:=ha.right hc
    exact List.mem_cons_of_mem _ (List.mem_append_right _ (List.mem_flatMap.2 ⟨c,hc,(TRep.maps hu).1 k hkc⟩))
   ·rcases List.mem_cons.1 hk with rfl | hk
    ·exact Or.inr ⟨_,h,rfl⟩
    ·rcases List.mem_append.1 hk with hk | hk
     ·split at hk
      ·cases hk
      ·rename_i h0
       obtain rfl:k = g:=by simpa using hk
       rw [if_neg h0] at hs
       rcases ho.2 with ⟨h1,_⟩ | ⟨g',cap,cur,h1,_,h3,_⟩
       ·rw [h1] at hs; cases hs
       ·rw [h1] at hs
        injection hs with hs
        subst hs
        exact Or.inr ⟨_,h3,rfl⟩
     ·obtain ⟨c,hc,hkc⟩:=List.mem_flatMap.1 hk
      obtain ⟨u,hu⟩:=ha.right hc
      exact ((TRep.maps hu).2 k hkc).imp (fun hm=>List.mem_flatMap.2 ⟨c,hc,hm⟩) id
  ·rw [Sp.fp_obj,Sp.mps_obj]
   refine ⟨fun k hk=>?_,fun k hk=>?_⟩
   ·rcases List.mem_cons.1 hk with rfl | hk
    ·simp
    ·obtain ⟨p,hpm,hkc⟩:=List.mem_flatMap.1 hk
     obtain ⟨u,hu⟩:=hp.right hpm
     exact List.mem_cons_of_mem _ (List.mem_cons_of_mem _ (List.mem_flatMap.2 ⟨p,hpm,(TRep.maps hu).1 k hkc⟩))
   ·rcases List.mem_cons.1 hk with rfl | hk
    ·exact Or.inr ⟨_,h,rfl⟩
    ·rcases List.mem_cons.1 hk with rfl | hk
     ·exact Or.inl (by simp)
     ·obtain ⟨p,hpm,hkc⟩:=List.mem_flatMap.1 hk
      obtain ⟨u,hu⟩:=hp.right hpm
      exact ((TRep.maps hu).2 k hkc).imp (fun hm=>List.mem_cons_of_mem _ (List.mem_flatMap.2 ⟨p,hpm,hm⟩)) id
end Go.Proofs.YtdpomdelmdofmaaGreatDoor

namespace Go.Proofs.YtdpomdelmdofmaaGreatDoor
open Go.RowKit Go.Maps
theorem TreeAt.less {L:Nat} {v:Value} {T:Sp.A} {M M' N:Nat → Prop} {wk w:World} (h:TreeAt L v T M' N wk w) (hM:∀ k,M k → M' k):TreeAt L v T M N wk w:=by
 obtain ⟨T',e,h1,h2,h3⟩:=h.tree
 exact ⟨⟨T',e,h1,h2,fun k hk=>⟨fun hm=>(h3 k hk).1 (hM k hm),(h3 k hk).2⟩⟩,fun k hm=>h.held k (hM k hm),fun k hm=>h.low k (hM k hm)⟩
def Und (L:Nat) (B:Nat) (v:Value) (Tb:Sp.A) (Mb:Nat → Prop) (wb:World):List Clo → Sp.A → (Nat → Prop) → World → Prop
 | [],T,M,wk=>∀ N w,TreeAt L v T M N wk w → TreeAt L v Tb Mb N wb w
 | c :: r,T,M,wk=>∃ T0 M0 wk0,Und L B v Tb Mb wb r T0 M0 wk0 ∧ Back L v c.1 c.2 T0 T M0 M wk0 wk ∧ (∀ k,M0 k → M k) ∧ (∀ k ∈ Sp.mps L T0,k < B) ∧ Ent c.1
theorem Und.up {L B B':Nat} {v:Value} {Tb:Sp.A} {Mb:Nat → Prop} {wb:World} (hB:B ≤ B'):∀ {cs:List Clo} {T:Sp.A} {M:Nat → Prop} {wk:World},Und L B v Tb Mb wb cs T M wk → Und L B' v Tb Mb wb cs T M wk
 | [],_,_,_,h=>h
 | _ :: _,_,_,_,⟨T0,M0,wk0,h1,h2,h3,h4,h5⟩=>⟨T0,M0,wk0,Und.up hB h1,h2,h3,fun k hk=>Nat.lt_of_lt_of_le (h4 k hk) hB,h5⟩
theorem Und.shift {L B:Nat} {v:Value} {Tb T T2:Sp.A} {Mb M M2:Nat → Prop} {wb wk wk2:World} {cs:List Clo} (h:Und L B v Tb Mb wb cs T M wk) (hT:Sp.er L T2 = Sp.er L T) (hM:∀ k,M k → M2 k ∧ wk2.heap[k]? = wk.heap[k]?):Und L B v Tb Mb wb cs T2 M2 wk2:=by
 have key:∀ N w,TreeAt L v T2 M2 N wk2 w → TreeAt L v T M N wk w:=fun N w hA=>(hA.less fun k hk=>(hM k hk).1).shift hT.symm fun k hk=>(hM k hk).2.symm
 cases cs with
 | nil=>exact fun N w hA=>h N w (key N w hA)
 | cons c r =>
  obtain ⟨T0,M0,wk0,h1,h2,h3,h4,h5⟩:=h
  exact ⟨T0,M0,wk0,h1,fun N w hN hA=>h2 N w (fun k hk=>⟨fun hm=>(hN k hk).1 (hM k hm).1,(hN k hk).2⟩) (key N w hA),fun k hk=>(hM k (h3 k hk)).1,h4,h5⟩
def Jrn (w:World) (G:Nat → Prop):List Value → List Clo → List Sp.Opn → Prop
 | [],[],[]=>True
 | cv :: kv :: pv :: fv :: vv :: r,c :: s,o :: t=>cv = cloV c ∧ OpnR w G kv pv fv vv o ∧ Jrn w G r s t
 | _,_,_=>False
theorem Jrn.move {w w':World} {G G':Nat → Prop} (hk:∀ k,G k → k < w.heap.size → w'.heap[k]? = w.heap[k]? ∧ G' k):∀ {xs:List Value} {cs:List Clo} {js:List Sp.Opn},Jrn w G xs cs js → Jrn w' G' xs cs js
 | [],[],[],_=>trivial
 | _ :: _ :: _ :: _ :: _ :: _,_ :: _,_ :: _,⟨e,a,b⟩=>⟨e,a.move hk,Jrn.move hk b⟩
theorem Jrn.snoc {w:World} {G:Nat → Prop} {cv kv pv fv vv:Value} {c:Clo} {o:Sp.Opn} (hc:cv = cloV c) (ho:OpnR w G kv pv fv vv o):∀ {xs:List Value} {cs:List Clo} {js:List Sp.Opn},Jrn w G xs cs js → Jrn w G (xs ++ [cv,kv,pv,fv,vv]) (cs ++ [c]) (js ++ [o])
 | [],[],[],_=>⟨hc,ho,trivial⟩
 | _ :: _ :: _ :: _ :: _ :: _,_ :: _,_ :: _,⟨e,a,b⟩=>⟨e,a,Jrn.snoc hc ho b⟩
def GA (L:Nat) (Tb:Sp.A) (wb:World) (M:Nat → Prop) (k:Nat):Prop:=M k ∧ (wb.heap.size ≤ k ∨ k ∈ Sp.fp L Tb)
structure JDoc (L:Nat) (w:World) (D:Nat) (rv jn iv:Value) (ch:Bool) (Tb:Sp.A) (Mb:Nat → Prop) (wb:World) (T:Sp.A) (M:Nat → Prop) (js:List Sp.Opn):Prop where
 ex:∃ xs cs,DB w D rv jn ch iv ∧ w.ownsRow 0 230 5 jn js.length xs ∧ Jrn w (GA L Tb wb M) xs cs js ∧ Und L w.heap.size rv Tb Mb wb cs.reverse T M w
 jD:jn.ownBlock ≠ some D
 jM:∀ g,jn.ownBlock = some g → ¬ M g ∧ g ∉ Sp.fp L T
 tr:TRep L w rv T
 nd:(Sp.fp L T).Nodup
 dD:D ∉ Sp.fp L T ∧ ¬ M D
 low:∀ k,M k → k < w.heap.size ∧ k ∉ Sp.fp L T
 up:wb.heap.size ≤ w.heap.size ∧ ∀ k ∈ Sp.fp L T,wb.heap.size ≤ k ∨ k ∈ Sp.fp L Tb
structure JEx (M M':Nat → Prop) (w w':World):Prop where
 os:w'.os = w.os
 tape:w'.tape = w.tape
 output:w'.output = w.output
 size:w.heap.size ≤ w'.heap.size
 kept:∀ k,M k → M' k ∧ w'.heap[k]? = w.heap[k]?
theorem JEx.refl (M:Nat → Prop) (w:World):JEx M M w w:=⟨rfl,rfl,rfl,Nat.le_refl _,fun _ h=>⟨h,rfl⟩⟩
theorem JEx.trans {M M1 M2:Nat → Prop} {w w1 w2:World} (h:JEx M M1 w w1) (k:JEx M1 M2 w1 w2):JEx M M2 w w2 :=
 ⟨k.os.trans h.os,k.tape.trans h.tape,k.output.trans h.output,Nat.le_trans h.size k.size,fun j hj=>⟨(k.kept j (h.kept j hj).1).1,(k.kept j (h.kept j hj).1).2.trans (h.kept j hj).2⟩⟩
section
variable {L:Nat} {w:World} {D:Nat} {rv jn iv:Value} {ch:Bool} {Tb T:Sp.A} {Mb M:Nat → Prop} {wb:World} {js:List Sp.Opn}
theorem JDoc.jlt (h:JDoc L w D rv jn iv ch Tb Mb wb T M js):∀ g,jn.ownBlock = some g → g < w.heap.size:=by
 obtain ⟨xs,cs,_,h2,_⟩:=h.ex
 exact fun g hg=>(ownsN_lt h2 g hg).1
theorem JDoc.dlt (h:JDoc L w D rv jn iv ch Tb Mb wb T M js):D < w.heap.size:=by
 obtain ⟨xs,cs,h1,_⟩:=h.ex
 exact h1.lt
theorem JDoc.grow {w':World} (h:JDoc L w D rv jn iv ch Tb Mb wb T M js) (hb:Below w.heap.size w w') (X:Nat → Prop) (hX:∀ k,X k → w.heap.size ≤ k ∧ k < w'.heap.size) :
  JDoc L w' D rv jn iv ch Tb Mb wb T (fun k=>M k ∨ X k) js ∧ JEx M (fun k=>M k ∨ X k) w w':=by
 obtain ⟨xs,cs,h1,h2,h3,h4⟩:=h.ex
 have hjl:=h.jlt
 have hlt:=h.tr.lt
 have hM:∀ k,M k → (M k ∨ X k) ∧ w'.heap[k]? = w.heap[k]?:=fun k hk=>⟨Or.inl hk,hb.block k (h.low k hk).1⟩
 refine ⟨⟨⟨xs,cs,h1.kept (hb.block D h1.lt),ownsN_kept h2 fun g hg=>hb.block g (hjl g hg),h3.move fun k hk hl=>⟨(hM k hk.1).2,(hM k hk.1).1,hk.2⟩,(h4.shift rfl hM).up hb.size⟩,h.jD,fun g hg=>⟨fun hm=>hm.elim (h.jM g hg).1 fun hx=>by have:=(hX g hx).1; have:=hjl g hg; omega,(h.jM g hg).2⟩,h.tr.bel hb,h.nd,⟨h.dD.1,fun hm=>hm.elim h.dD.2 fun hx=>by have:=(hX D hx).1; have:=h1.lt; omega⟩,fun k hm=>?_,⟨Nat.le_trans h.up.1 hb.size,h.up.2⟩⟩,⟨hb.os,hb.tape,hb.output,hb.size,hM⟩⟩
 rcases hm with hm | hm
 ·exact ⟨Nat.lt_of_lt_of_le (h.low k hm).1 hb.size,(h.low k hm).2⟩
 ·exact ⟨(hX k hm).2,fun hf=>by have:=hlt k hf; have:=(hX k hm).1; omega⟩
theorem JDoc.lay {w3 w4:World} {T3 T1:Sp.A} {M':Nat → Prop} {xs:List Value} {cs:List Clo} {c:Clo} {kv pv fv vv:Value} {o:Sp.Opn} {e:Ending}
  (h:JDoc L w D rv jn iv ch Tb Mb wb T M js) (hx:Jrn w (GA L Tb wb M) xs cs js) (hu:Und L w.heap.size rv Tb Mb wb cs.reverse T M w) (hk:KeptF (fun k=>k ∈ Sp.fp L T) w w3) (ht:TRep L w3 rv T3) (hn:(Sp.fp L T3).Nodup) (hD3:D ∉ Sp.fp L T3)
  (hj3:∀ g,jn.ownBlock = some g → g ∉ Sp.fp L T3) (hM:∀ k,M k → M' k) (hM':∀ k,M' k → k < w3.heap.size ∧ k ∉ Sp.fp L T3 ∧ k ≠ D ∧ jn.ownBlock ≠ some k) (he:LayEnd D rv jn iv ch js.length xs [cloV c,kv,pv,fv,vv] w3 e w4)
  (ho:OpnR w3 (GA L Tb wb M') kv pv fv vv o) (hT:Sp.er L T3 = Sp.er L T1) (hB:(∀ k,M k → M' k ∧ w4.heap[k]? = w.heap[k]?) → (∀ k,M' k → w4.heap[k]? = w3.heap[k]?) → Back L rv c.1 c.2 T T1 M M' w w4) (hin:Ent c.1) (hup:∀ k ∈ Sp.fp L T3,wb.heap.size ≤ k ∨ k ∈ Sp.fp L Tb) :
  e = .returned (.tuple #[]) ∧ ∃ jn',JDoc L w4 D rv jn' iv ch Tb Mb wb T3 M' (js ++ [o]) ∧ JEx M M' w w4:=by
 obtain ⟨rfl,g,cap,g1,g2,g3,g4⟩:=he
 have hlt3:=ht.lt
 have h43:∀ k,M' k → w4.heap[k]? = w3.heap[k]?:=fun k hm=>g4.block k (hM' k hm).1 fun hh=>hh.elim (hM' k hm).2.2.1 (hM' k hm).2.2.2
 have hMM:∀ k,M k → M' k ∧ w4.heap[k]? = w.heap[k]?:=fun k hm=>⟨hM k hm,(h43 k (hM k hm)).trans (hk.block k (h.low k hm).1 (h.low k hm).2)⟩
 have hgx:¬ M' g ∧ g ∉ Sp.fp L T3:=by
  rcases g3 with h | h
  ·exact ⟨fun hm=>(hM' g hm).2.2.2 h,hj3 g h⟩
  ·exact ⟨fun hm=>by have:=(hM' g hm).1; omega,fun hm=>by have:=hlt3 g hm; omega⟩
 have hgD:g ≠ D:=by
  rcases g3 with h' | h'
  ·exact fun e=>h.jD (by rw [h',e])
  ·have:=h.dlt; have:=hk.size; omega
 refine ⟨rfl,_,⟨⟨xs ++ [cloV c,kv,pv,fv,vv],cs ++ [c],g1,by simpa using g2,Jrn.snoc rfl (ho.move fun k hm _=>⟨h43 k hm.1,hm⟩) (hx.move fun k hm _=>⟨(hMM k hm.1).2,hM k hm.1,hm.2⟩),?_⟩,?_,?_,ht.move fun k hkm=>g4.block k (hlt3 k hkm) (fun hh=>hh.elim (fun e=>hD3 (e ▸ hkm)) fun e=>hj3 k e hkm),hn,⟨hD3,fun hm=>(hM' D hm).2.2.1 rfl⟩,fun k hm=>⟨Nat.lt_of_lt_of_le (hM' k hm).1 g4.size,(hM' k hm).2.1⟩,⟨Nat.le_trans h.up.1 (Nat.le_trans hk.size g4.size),hup⟩⟩,⟨g4.os.trans hk.os,g4.tape.trans hk.tape,g4.output.trans hk.output,Nat.le_trans hk.size g4.size,hMM⟩⟩
 ·rw [List.reverse_append]
  exact Und.shift (T:=T1) (M:=M') (wk:=w4) (cs:=c :: cs.reverse) ⟨T,M,w,hu.up (Nat.le_trans hk.size g4.size),hB hMM h43,hM,fun k hkm=>by have:=h.tr.lt k (h.tr.maps.1 k hkm); have:=hk.size; have:=g4.size; omega,hin⟩ hT fun k hm=>⟨hm,rfl⟩
 ·simpa [Value.ownBlock] using hgD
 ·intro g' hg'
  simp only [Value.ownBlock] at hg'
  have:g' = g:=by simpa using hg'.symm
  subst this; exact hgx
end
end Go.Proofs.YtdpomdelmdofmaaGreatDoor

namespace Go.Proofs.YtdpomdelmdofmaaGreatDoor
open Go.RowKit Go.Maps
theorem skey_find {c:Sp.A} {k:Sp.By}:∀ {es:List (Lit × Sp.A)},Sp.Skey es → (Lit.string k,c) ∈ es → es.find? (fun p=>p.1.sameKey (.string k)) = some (.string k,c)
 | [],_,h=>by cases h
 | y :: r,⟨h1,h2⟩,h=>by
  obtain ⟨h3,h4⟩:=List.pairwise_cons.1 h1
  rcases List.mem_cons.1 h with e | h
  ·subst e
   exact find_yes (p:=fun p=>p.1.sameKey (.string k)) (WideAt.sameKey_self (show WideAt.IsKeyLit (Lit.string k,c).1 from trivial))
  ·have hne:y.1 ≠ .string k:=fun e=>by
    have hb:=h3 _ h
    rw [e] at hb
    have h9:bytesBefore k k = true:=hb
    rw [WideAt.bytes_irrefl] at h9; cases h9
   rw [find_no (p:=fun p=>p.1.sameKey (.string k)) (by show ¬ (y.1.sameKey (.string k) = true); rw [sameKey_ne hne]; decide)]
   exact skey_find ⟨h4,fun p hp=>h2 p (by simp [hp])⟩ h
theorem arr_open {f b g:Nat} {w:World} {u:Value} {al:List Sp.A} (h:TRep (f + 1) w u (Sp.nd b g (.slice al []))):∃ sl ps,VB w b 5 n0 [] sl (.map none) ∧ w.ownsRow 0 80 1 sl ps.length ps ∧ Al (TRep f w) ps al:=by
 obtain ⟨b2,g2,x2,e,hu,h⟩:=h
 unfold Sp.nd at e; injection e with e; injection e with e1 e; injection e with e2 e; injection e with e3 _
 injection e1 with e1; injection e1 with _ e1; injection e2 with e2; injection e2 with _ e2
 obtain rfl:b = b2:=by omega
 rcases h with ⟨j,_,_,rfl,_⟩ | ⟨n,_,rfl,_⟩ | ⟨s,_,rfl,_⟩ | ⟨al2,sl,ps,rfl,hvb,ho,hs,ha⟩ | ⟨es,n,D,rfl,hvb,ho,hp⟩
 ·cases e3
 ·cases e3
 ·cases e3
 ·injection e3 with e3 _
  subst e3
  exact ⟨sl,ps,hvb,ho,ha⟩
 ·cases e3
theorem get_tree {f i:Nat} {w:World} {u pth:Value} {n c:Sp.A} {key:Sp.By} (h:TRep (f + 1) w u n) (hf:Stands n i key c) (hk:key.length ≤ 1048576) :
  Calls Tryz.prog 159 #[plV pth (Sp.blk n) key i] w fun e w'=>(∃ y,e = .returned y ∧ TRep f w y c) ∧ Below w.heap.size w w':=by
 rcases hf with ⟨b,g,al,rfl,h1⟩ | ⟨b,g,es,rfl,h1,h2⟩
 ·obtain ⟨sl,ps,hvb,ho,ha⟩:=arr_open h
  obtain ⟨hi,e⟩:=List.getElem?_eq_some_iff.1 h1
  have hi2:i < ps.length:=by rw [ha.length]; exact hi
  refine (get_arr (pth:=pth) (key:=key) hvb ho hi2).mono ?_
  rintro x w' ⟨rfl,hb⟩
  exact ⟨⟨_,rfl,e ▸ ha.get i hi2 hi⟩,hb⟩
 ·obtain ⟨_,D,hvb,ho,hp⟩:=obj_open h
  have hfd:=skey_find h2 h1
  have hh:Maps.has (.map D) (.string key) = true:=by
   rw [Pt.has _ hp]
   exact List.any_eq_true.2 ⟨_,h1,WideAt.sameKey_self (show WideAt.IsKeyLit (Lit.string key,c).1 from trivial)⟩
  obtain ⟨j,k2,c2,x,_,_,e3,e4,e5⟩:=Pt.first (.string key) hp hh
  rw [hfd] at e3
  obtain rfl:c = c2:=(Prod.mk.inj (Option.some.inj e3)).2
  refine (get_obj (pth:=pth) (i:=i) hk hvb ho (e4 _)).mono ?_
  rintro x w' ⟨rfl,hb⟩
  exact ⟨⟨_,rfl,e5⟩,hb⟩
theorem fp_split {f:Nat} {w:World} {u:Value} {n:Sp.A} (h:TRep (f + 1) w u n):∀ k ∈ Sp.fp (f + 1) n,k ∈ Sp.own n ∨ ∃ d ∈ Sp.kids n,k ∈ Sp.fp f d:=by
 obtain ⟨b,g,x,rfl,hv,h⟩:=h
 rcases h with ⟨j,_,_,rfl,h⟩ | ⟨n,_,rfl,h,hbd⟩ | ⟨s,_,rfl,h⟩ | ⟨al,sl,ps,rfl,_⟩ | ⟨es,n,D,rfl,_⟩
 ·intro k hk; exact Or.inl hk
 ·intro k hk; exact Or.inl hk
 ·intro k hk; exact Or.inl hk
 ·intro k hk
  rw [Sp.fp_arr] at hk
  rw [Sp.own_arr,Sp.kids_arr]
  rcases List.mem_cons.1 hk with rfl | hk
  ·exact Or.inl (by simp)
  ·rcases List.mem_append.1 hk with hk | hk
   ·exact Or.inl (List.mem_cons_of_mem _ hk)
   ·exact Or.inr (List.mem_flatMap.1 hk)
 ·intro k hk
  rw [Sp.fp_obj] at hk
  rw [Sp.own_obj,Sp.kids_obj]
  rcases List.mem_cons.1 hk with rfl | hk
  ·exact Or.inl (by simp)
  ·rcases List.mem_cons.1 hk with rfl | hk
   ·exact Or.inl (by simp)
   ·obtain ⟨p,hp,hkp⟩:=List.mem_flatMap.1 hk
    exact Or.inr ⟨p.2,List.mem_map.2 ⟨p,hp,rfl⟩,hkp⟩
theorem Stands.apart {f i:Nat} {m c:Sp.A} {key:Sp.By} (hf:Stands m i key c) (hn:(Sp.fp (f + 1) m).Nodup):(∀ d ∈ Sp.kids (Sp.remT i key m),∀ k ∈ Sp.fp f d,k ∉ Sp.fp f c) ∧ (∀ k ∈ Sp.fp f c,k ∈ Sp.fp (f + 1) m) ∧ (Sp.fp f c).Nodup ∧ c ∈ Sp.kids m:=by
 rcases hf with ⟨b,g,al,rfl,h⟩ | ⟨b,g,es,rfl,h,hs⟩
 ·obtain ⟨p1,_⟩:=arr_parts hn
  have q:=flat_perm (Sp.fp f) (Sp.perm_ldel h)
  rw [List.flatMap_cons] at q
  obtain ⟨n1,_,n3⟩:=List.nodup_append.1 (q.nodup_iff.1 p1)
  refine ⟨fun d hd k hk hkc=>n3 k hkc k (List.mem_flatMap.2 ⟨d,hd,hk⟩) rfl,fun k hk=>?_,n1,?_⟩
  ·rw [Sp.fp_arr]
   exact List.mem_cons_of_mem _ (List.mem_append_right _ (q.mem_iff.2 (List.mem_append_left _ hk)))
  ·rw [Sp.kids_arr]; exact List.mem_of_getElem? h
 ·obtain ⟨p1,_⟩:=obj_parts hn
  have q:=(Sp.perm_mdel hs h).flatMap_right (fun p=>Sp.fp f p.2)
  rw [List.flatMap_cons] at q
  obtain ⟨n1,_,n3⟩:=List.nodup_append.1 (q.nodup_iff.1 p1)
  refine ⟨fun d hd k hk hkc=>?_,fun k hk=>?_,n1,?_⟩
  ·obtain ⟨p,hp,rfl⟩:=List.mem_map.1 (show d ∈ (Sp.mdel (.string key) es).map Prod.snd from hd)
   exact n3 k hkc k (List.mem_flatMap.2 ⟨p,hp,hk⟩) rfl
  ·rw [Sp.fp_obj]
   exact List.mem_cons_of_mem _ (List.mem_cons_of_mem _ (q.mem_iff.2 (List.mem_append_left _ hk)))
  ·rw [Sp.kids_obj]; exact List.mem_map.2 ⟨_,h,rfl⟩
theorem Stands.kids_set {i:Nat} {m c x:Sp.A} {key:Sp.By} (hf:Stands m i key c):∀ d ∈ Sp.kids (Sp.setT i key x m),d = x ∨ d ∈ Sp.kids (Sp.remT i key m):=by
 intro d hd
 rcases hf with ⟨b,g,al,rfl,h⟩ | ⟨b,g,es,rfl,h,hs⟩
 ·have hd2:d ∈ al.set i x:=hd
  have:=(Sp.perm_lset x h).mem_iff.1 hd2
  exact (List.mem_cons.1 this).imp id id
 ·obtain ⟨p,hp,rfl⟩:=List.mem_map.1 (show d ∈ (Sp.mput (.string key) x es).map Prod.snd from hd)
  rcases List.mem_cons.1 ((Sp.perm_mput (.string key) x es).mem_iff.1 hp) with rfl | hp
  ·exact Or.inl rfl
  ·exact Or.inr (show p.2 ∈ (Sp.mdel (.string key) es).map Prod.snd from List.mem_map.2 ⟨p,hp,rfl⟩)
theorem put_apart {f:Nat} {p:List Nat} {w w':World} {u:Value} {T m n2 c:Sp.A} (hs:Sp.sub p T = some m) (hN:(Sp.fp (f + 1 + p.length) T).Nodup) (hm:TRep (f + 1) w u m) (h2:TRep (f + 1) w' u n2) (hc:c ∈ Sp.kids m) (hcm:∀ k ∈ Sp.fp f c,k ∈ Sp.fp (f + 1) m) (ho:∀ k ∈ Sp.own n2,k ∈ Sp.own m ∨ w.heap.size ≤ k)
  (hk:∀ d ∈ Sp.kids n2,∀ k ∈ Sp.fp f d,k ∉ Sp.fp f c):∀ k ∈ Sp.fp (f + 1 + p.length) (Sp.put p n2 T),k ∉ Sp.fp f c:=by
 intro k hkT hkc
 obtain ⟨rest,q1,q2⟩:=Sp.fp_put (f:=f + 1) hs
 rcases List.mem_append.1 ((q2 n2).mem_iff.1 hkT) with h | h
 ·exact (List.nodup_append.1 (q1.nodup_iff.1 hN)).2.2 k h k (hcm k hkc) rfl
 ·rcases fp_split h2 k h with h | ⟨d,hd,h⟩
  ·rcases ho k h with h | h
   ·exact own_kid hm (Sp.sub_nodup (f:=f + 1) hs hN) hc k h hkc
   ·have:=hm.lt k (hcm k hkc); omega
  ·exact hk d hd k h hkc
end Go.Proofs.YtdpomdelmdofmaaGreatDoor
