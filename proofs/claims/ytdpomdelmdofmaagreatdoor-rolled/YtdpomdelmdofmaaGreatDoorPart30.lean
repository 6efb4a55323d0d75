/-
  slices.Equal of tokens.
-/
import Derived.Test.YtdpomdelmdofmaaGreatDoorPart29
import Derived.Shelf.SlicesE.Equal
import Derived.Test.YtdpomdelmdofmaaGreatDoorPart16
import Derived.Test.YtdpomdelmdofmaaGreatDoorPart22
import Derived.Test.YtdpomdelmdofmaaGreatDoorPart14
import Derived.Test.YtdpomdelmdofmaaGreatDoorPart25
namespace Go.Proofs.YtdpomdelmdofmaaGreatDoor
open Go.RowKit Go.Maps
theorem allEq_tok:∀ {l m:List Sp.By},Lib.allEq (fun x y:ByteArray=>x.toList == y.toList) (l.map fun t=>⟨t.toArray⟩) (m.map fun t=>⟨t.toArray⟩) = (l == m)
 | [],[]=>rfl
 | [],_ :: _=>rfl
 | _ :: _,[]=>rfl
 | x :: l,y :: m=>by
  have ih:=allEq_tok (l:=l) (m:=m)
  simp only [List.map_cons,Lib.allEq]
  rw [ih]
  show _ = (x == y && l == m)
  rw [ByteArray.toList_mk,ByteArray.toList_mk]
set_option maxHeartbeats 2000000 in
theorem slEqual_ne {w:World} {a1 a2:Option Addr} {n c m d:Nat} (h:n ≠ m):Calls Tryz.prog 202 #[.slice a1 n c,.slice a2 m d] w fun e w'=>e = .returned (.bool false) ∧ Below w.heap.size w w':=by
 have e1:¬ ((n:Int) = (m:Int)):=by omega
 have e2:((n:Int) != (m:Int)) = true:=by rw [bne_iff_ne]; exact e1
 have e3:((n:Int) == (m:Int)) = false:=by rw [beq_eq_false_iff_ne]; exact e1
 go_enter Tryz.func202,Tryz.ntmps202
 go_wp2_with (fail)
 go_ret
 exact ⟨rfl,Below.refl _ _⟩
theorem slEqual_at {w:World} {g1 o1 c1 g2 o2 c2:Nat} {l m:List Sp.By} (h1:TokAt w g1 o1 l) (h2:TokAt w g2 o2 m) (hl:l.length ≤ maxLen) (hm:m.length ≤ maxLen) :
  Calls Tryz.prog 202 #[.slice (some ⟨g1,o1,none⟩) l.length c1,.slice (some ⟨g2,o2,none⟩) m.length c2] w fun e w'=>e = .returned (.bool (l == m)) ∧ Below w.heap.size w w':=by
 unfold maxLen at hl hm
 have hc:=AnyE.slices_Equal Tryz.eEqual Value.string (fun x y=>x.toList == y.toList) (NeqAt.string _ _) g1 o1 l.length c1 g2 o2 m.length c2 (l.map fun t=>⟨t.toArray⟩) (m.map fun t=>⟨t.toArray⟩) w (by simp) (by simp) (by omega) (by omega) (fun j hj=>by
  have hj2:j < l.length:=by simpa using hj
  rw [h1.2 j hj2,getElem!_pos _ j hj,List.getElem_map]) (fun j hj=>by
  have hj2:j < m.length:=by simpa using hj
  rw [h2.2 j hj2,getElem!_pos _ j hj,List.getElem_map])
 refine hc.mono ?_
 rintro e w' ⟨rfl,q,rfl⟩
 refine ⟨?_,⟨rfl,rfl,rfl,Nat.le_refl _,fun _ _=>rfl⟩⟩
 rw [List.take_of_length_le (by simp),List.take_of_length_le (by simp),allEq_tok]
set_option maxHeartbeats 2000000 in
theorem slEqual_00 {w:World} {a1 a2:Option Addr} {c d:Nat}:Calls Tryz.prog 202 #[.slice a1 0 c,.slice a2 0 d] w fun e w'=>e = .returned (.bool true) ∧ Below w.heap.size w w':=by
 go_enter Tryz.func202,Tryz.ntmps202
 go_wp2
 go_loopg [13] 0 (fun g s13 wr=>s13 = .int .i64 (0:Nat) ∧ wr = w)
 case atStart=>exact ⟨rfl,rfl⟩
 case round =>
  obtain ⟨rfl,rfl⟩:=hrel
  go_wp2
  go_ret
  exact ⟨rfl,Below.refl _ _⟩
end Go.Proofs.YtdpomdelmdofmaaGreatDoor

namespace Go.Proofs.YtdpomdelmdofmaaGreatDoor
open Go.RowKit Go.Maps
theorem Toks.form {w:World} {v:Value} {l:List Sp.By} (h:Toks w v l):∃ a c,v = .slice a l.length c ∧ l.length ≤ c ∨ l.length = 0 ∧ v = .slice a l.length c:=by
 rcases h with ⟨rfl,a,c,rfl,_⟩ | ⟨g,o,cap,rfl,h1,_⟩
 ·exact ⟨a,c,Or.inr ⟨rfl,rfl⟩⟩
 ·exact ⟨_,cap,Or.inl ⟨rfl,h1⟩⟩
theorem slEqual_any {w:World} {v1 v2:Value} {l m:List Sp.By} (h1:Toks w v1 l) (h2:Toks w v2 m) :
  Calls Tryz.prog 202 #[v1,v2] w fun e w'=>e = .returned (.bool (l == m)) ∧ Below w.heap.size w w':=by
 by_cases hlm:l.length = m.length
 ·by_cases hl0:l.length = 0
  ·have hl:l = []:=List.length_eq_zero_iff.1 hl0
   have hm:m = []:=List.length_eq_zero_iff.1 (by omega)
   subst hl; subst hm
   obtain ⟨a1,c1,e1⟩:=h1.form
   obtain ⟨a2,c2,e2⟩:=h2.form
   have e1':v1 = .slice a1 0 c1:=e1.elim (fun h=>h.1) (fun h=>h.2)
   have e2':v2 = .slice a2 0 c2:=e2.elim (fun h=>h.1) (fun h=>h.2)
   subst e1'; subst e2'
   exact slEqual_00
  ·rcases h1 with ⟨rfl,_⟩ | ⟨g1,o1,c1,rfl,b1,b2,t1⟩
   ·exact absurd rfl hl0
   ·rcases h2 with ⟨rfl,_⟩ | ⟨g2,o2,c2,rfl,d1,d2,t2⟩
    ·exact absurd hlm hl0
    ·exact slEqual_at t1 t2 (by omega) (by omega)
 ·obtain ⟨a1,c1,e1⟩:=h1.form
  obtain ⟨a2,c2,e2⟩:=h2.form
  have e1':v1 = .slice a1 l.length c1:=e1.elim (fun h=>h.1) (fun h=>h.2)
  have e2':v2 = .slice a2 m.length c2:=e2.elim (fun h=>h.1) (fun h=>h.2)
  subst e1'; subst e2'
  refine (slEqual_ne hlm).mono ?_
  rintro e w' ⟨rfl,hb⟩
  have:(l == m) = false:=by rw [beq_eq_false_iff_ne]; rintro rfl; exact hlm rfl
  rw [this]
  exact ⟨rfl,hb⟩
set_option maxHeartbeats 2000000 in
theorem dLeads_any {w:World} {v1 v2:Value} {l m:List Sp.By} (h1:Toks w v1 l) (h2:Toks w v2 m) :
  Calls Tryz.prog 203 #[v1,v2] w fun e w'=>e = .returned (.bool (Sp.leads l m)) ∧ Below w.heap.size w w':=by
 obtain ⟨a2,c2,e2⟩:=h2.form
 have e2':v2 = .slice a2 m.length c2:=e2.elim (fun h=>h.1) (fun h=>h.2)
 clear e2
 subst e2'
 by_cases hlt:m.length < l.length
 ·rcases h1 with ⟨rfl,_⟩ | ⟨g1,o1,c1,rfl,b1,b2,t1⟩
  ·simp at hlt
  ·have hT:Toks w (.slice (some ⟨g1,o1,none⟩) m.length c1) (l.take m.length):=by
    have hl:(l.take m.length).length = m.length:=by rw [List.length_take]; omega
    refine Or.inr ⟨g1,o1,c1,by rw [hl],by omega,b2,t1.1,fun k hk=>?_⟩
    rw [t1.2 k (by omega)]
    simp
   have HC:=hide (slEqual_any hT h2)
   have HE:=hide (show Sp.leads l m = (l.take m.length == m) by unfold Sp.leads; rw [decide_eq_true hlt,Bool.true_and])
   have e1:decide ((m.length:Int) < (l.length:Int)) = true:=by rw [decide_eq_true_iff]; omega
   have l1:(m.length:Int) < (l.length:Int):=by omega
   have l2:m.length ≤ c1:=by omega
   have l4:(0:Int) ≤ (m.length:Int):=by omega
   generalize m.length = M at *
   generalize l.length = LL at *
   clear hT h2 t1
   go_enter Tryz.func203,Tryz.ntmps203
   go_wp2_with (fail)
   refine (unhide HC).mono ?_
   rintro e w2 ⟨rfl,hb⟩
   go_wp2_with (fail)
   refine bodyPost_ret (v:=.bool (l.take M == m)) (by simp [results,Tryz.results203,go_sem]) rfl ⟨by rw [unhide HE],hb⟩
 ·have HE:=hide (show Sp.leads l m = false by unfold Sp.leads; rw [decide_eq_false hlt]; rfl)
  obtain ⟨a1,c1,f1⟩:=h1.form
  have f1':v1 = .slice a1 l.length c1:=f1.elim (fun h=>h.1) (fun h=>h.2)
  clear f1
  subst f1'
  have e1:decide ((m.length:Int) < (l.length:Int)) = false:=by rw [decide_eq_false_iff_not]; omega
  have l1:¬ (m.length:Int) < (l.length:Int):=by omega
  generalize m.length = M at *
  generalize l.length = LL at *
  clear h1 h2
  go_enter Tryz.func203,Tryz.ntmps203
  go_wp2_with (fail)
  refine bodyPost_ret (v:=.bool false) (by simp [results,Tryz.results203,go_sem]) rfl ⟨by rw [unhide HE],Below.refl _ _⟩
end Go.Proofs.YtdpomdelmdofmaaGreatDoor

namespace Go.Proofs.YtdpomdelmdofmaaGreatDoor
open Go.RowKit Go.Maps
namespace Sp
theorem gd_mono {d D x:Int} (hd:d ≤ D):∀ {f:Nat} {lv:Int} {v:V},gd d x f lv v → gd D x f lv v
 | 0,_,_,h=>h.elim
 | f + 1,lv,v,⟨h0,h⟩=>by
  refine ⟨Int.le_trans h0 hd,?_⟩
  rcases h with h | h | h | ⟨es,h,rfl⟩ | ⟨es,h1,h2,rfl⟩
  ·exact Or.inl h
  ·exact Or.inr (Or.inl h)
  ·exact Or.inr (Or.inr (Or.inl h))
  ·exact Or.inr (Or.inr (Or.inr (Or.inl ⟨es,fun e he=>gd_mono hd (h e he),rfl⟩)))
  ·exact Or.inr (Or.inr (Or.inr (Or.inr ⟨es,h1,fun p hp=>⟨(h2 p hp).1,gd_mono hd (h2 p hp).2⟩,rfl⟩)))
theorem gd_lvl {d x s:Int}:∀ {f:Nat} {lv:Int} {v:V},gd d x f lv v → gd (d + s) x f (lv + s) v
 | 0,_,_,h=>h.elim
 | f + 1,lv,v,⟨h0,h⟩=>by
  refine ⟨by omega,?_⟩
  have e:lv + s + 1 = lv + 1 + s:=by omega
  rcases h with h | h | h | ⟨es,h,rfl⟩ | ⟨es,h1,h2,rfl⟩
  ·exact Or.inl h
  ·exact Or.inr (Or.inl h)
  ·exact Or.inr (Or.inr (Or.inl h))
  ·exact Or.inr (Or.inr (Or.inr (Or.inl ⟨es,fun q he=>by rw [e]; exact gd_lvl (h q he),rfl⟩)))
  ·exact Or.inr (Or.inr (Or.inr (Or.inr ⟨es,h1,fun p hp=>⟨(h2 p hp).1,by rw [e]; exact gd_lvl (h2 p hp).2⟩,rfl⟩)))
theorem gd_lv {d x:Int}:∀ {f:Nat} {lv:Int} {v:V},gd d x f lv v → lv ≤ d
 | 0,_,_,h=>h.elim
 | _ + 1,_,_,h=>h.1
theorem gd_fuel {d x:Int}:∀ {g f:Nat} {lv:Int} {v:V},gd d x g lv v → d < lv + f → gd d x f lv v
 | 0,_,_,_,h,_=>h.elim
 | g + 1,0,lv,v,⟨h0,_⟩,hf=>by omega
 | g + 1,f + 1,lv,v,⟨h0,h⟩,hf=>by
  refine ⟨h0,?_⟩
  rcases h with h | h | h | ⟨es,h,rfl⟩ | ⟨es,h1,h2,rfl⟩
  ·exact Or.inl h
  ·exact Or.inr (Or.inl h)
  ·exact Or.inr (Or.inr (Or.inl h))
  ·exact Or.inr (Or.inr (Or.inr (Or.inl ⟨es,fun q he=>gd_fuel (h q he) (by omega),rfl⟩)))
  ·exact Or.inr (Or.inr (Or.inr (Or.inr ⟨es,h1,fun p hp=>⟨(h2 p hp).1,gd_fuel (h2 p hp).2 (by omega)⟩,rfl⟩)))
theorem gd_dep {d D x:Int}:∀ {f:Nat} {lv:Int} {v:V},gd D x f lv v → lv + dep f v ≤ d + 1 → gd d x f lv v
 | 0,_,_,h,_=>h.elim
 | f + 1,lv,v,⟨h0,h⟩,hd=>by
  rcases h with ⟨k,hk,rfl⟩ | ⟨s,hs,rfl⟩ | ⟨n,h1,h2,h3,rfl⟩ | ⟨es,h,rfl⟩ | ⟨es,h1,h2,rfl⟩
  ·have:dep (f + 1) (vWord k) = 1:=rfl
   exact ⟨by omega,Or.inl ⟨k,hk,rfl⟩⟩
  ·have:dep (f + 1) (vStr s) = 1:=rfl
   exact ⟨by omega,Or.inr (Or.inl ⟨s,hs,rfl⟩)⟩
  ·have:dep (f + 1) (vNum n) = 1:=rfl
   exact ⟨by omega,Or.inr (Or.inr (Or.inl ⟨n,h1,h2,h3,rfl⟩))⟩
  ·rw [dep_arr] at hd
   have h0':=dmax_nn (es.map (dep f))
   refine ⟨by omega,Or.inr (Or.inr (Or.inr (Or.inl ⟨es,fun q he=>gd_dep (h q he) ?_,rfl⟩)))⟩
   have:=le_dmax (List.mem_map.2 ⟨q,he,rfl⟩:dep f q ∈ es.map (dep f))
   omega
  ·rw [dep_obj] at hd
   have h0':=dmax_nn (es.map fun p=>dep f p.2)
   refine ⟨by omega,Or.inr (Or.inr (Or.inr (Or.inr ⟨es,h1,fun p hp=>⟨(h2 p hp).1,gd_dep (h2 p hp).2 ?_⟩,rfl⟩)))⟩
   have:=le_dmax (List.mem_map.2 ⟨p,hp,rfl⟩:dep f p.2 ∈ es.map fun p=>dep f p.2)
   omega
theorem gd_kid {d x:Int} {f:Nat} {lv:Int} {v e:V} {i:Nat} (h:gd d x (f + 1) lv v) (he:(vkids v)[i]? = some e):gd d x f (lv + 1) e:=by
 obtain ⟨_,h⟩:=h
 rcases h with ⟨k,hk,rfl⟩ | ⟨s,hs,rfl⟩ | ⟨n,h1,h2,h3,rfl⟩ | ⟨es,h,rfl⟩ | ⟨es,h1,h2,rfl⟩
 ·cases he
 ·cases he
 ·cases he
 ·exact h e (List.mem_of_getElem? he)
 ·obtain ⟨p,hp,rfl⟩:=List.mem_map.1 (List.mem_of_getElem? (show (es.map Prod.snd)[i]? = some e from he))
  exact (h2 p hp).2
theorem gd_sub {d x:Int}:∀ {p:List Nat} {f:Nat} {lv:Int} {v n:V},gd d x (f + p.length) lv v → vsub p v = some n → gd d x f (lv + p.length) n
 | [],f,lv,v,n,h,hs=>by
  injection hs with hs
  subst hs
  simpa using h
 | i :: r,f,lv,v,n,h,hs=>by
  have h':gd d x ((f + r.length) + 1) lv v:=h
  rw [vsub] at hs
  cases hk:(vkids v)[i]? with
  | none=>rw [hk] at hs; cases hs
  | some e =>
   rw [hk] at hs
   have ih:=gd_sub (gd_kid h' hk) hs
   rw [show lv + ((i :: r).length:Nat) = lv + 1 + (r.length:Nat) by rw [List.length_cons]; omega]
   exact ih
theorem modify_keys {α β:Type} (x:β):∀ (es:List (α × β)) (i:Nat),(es.modify i fun p=>(p.1,x)).map Prod.fst = es.map Prod.fst
 | [],i=>by simp
 | a :: r,0=>by simp
 | a :: r,i + 1=>by simp [modify_keys x r i]
theorem modify_mem {α β:Type} {x:β} {q:α × β}:∀ {es:List (α × β)} {i:Nat},q ∈ (es.modify i fun p=>(p.1,x)) → q ∈ es ∨ q.2 = x ∧ ∃ p ∈ es,p.1 = q.1
 | [],i,h=>by simp at h
 | a :: r,0,h=>by
  rw [List.modify_zero_cons] at h
  rcases List.mem_cons.1 h with rfl | h
  ·exact Or.inr ⟨rfl,a,by simp,rfl⟩
  ·exact Or.inl (List.mem_cons_of_mem _ h)
 | a :: r,i + 1,h=>by
  rw [List.modify_succ_cons] at h
  rcases List.mem_cons.1 h with rfl | h
  ·exact Or.inl (by simp)
  ·rcases modify_mem h with h | ⟨h1,p,h2,h3⟩
   ·exact Or.inl (List.mem_cons_of_mem _ h)
   ·exact Or.inr ⟨h1,p,List.mem_cons_of_mem _ h2,h3⟩
theorem gd_vkid {d x:Int} {f:Nat} {lv:Int} {v e:V} {i:Nat} (h:gd d x (f + 1) lv v) (he:gd d x f (lv + 1) e):gd d x (f + 1) lv (vkid i e v):=by
 obtain ⟨h0,h⟩:=h
 rcases h with ⟨k,hk,rfl⟩ | ⟨s,hs,rfl⟩ | ⟨n,h1,h2,h3,rfl⟩ | ⟨es,h,rfl⟩ | ⟨es,h1,h2,rfl⟩
 ·exact ⟨h0,Or.inl ⟨k,hk,rfl⟩⟩
 ·exact ⟨h0,Or.inr (Or.inl ⟨s,hs,rfl⟩)⟩
 ·exact ⟨h0,Or.inr (Or.inr (Or.inl ⟨n,h1,h2,h3,rfl⟩))⟩
 ·refine ⟨h0,Or.inr (Or.inr (Or.inr (Or.inl ⟨es.set i e,fun q hq=>?_,rfl⟩)))⟩
  rcases List.mem_or_eq_of_mem_set hq with hq | rfl
  ·exact h q hq
  ·exact he
 ·refine ⟨h0,Or.inr (Or.inr (Or.inr (Or.inr ⟨es.modify i fun p=>(p.1,e),?_,fun q hq=>?_,rfl⟩)))⟩
  ·have h3:(es.map Prod.fst).Pairwise (fun k l=>k.before l = true):=List.pairwise_map.2 h1
   rw [← modify_keys e es i] at h3
   exact List.pairwise_map.1 h3
  ·rcases modify_mem hq with hq | ⟨rfl,p,hp,hpk⟩
   ·exact h2 q hq
   ·exact ⟨hpk ▸ (h2 p hp).1,he⟩
theorem gd_put {d x:Int}:∀ {p:List Nat} {f:Nat} {lv:Int} {v n n':V},gd d x (f + p.length) lv v → vsub p v = some n → gd d x f (lv + p.length) n' → gd d x (f + p.length) lv (vput p n' v)
 | [],f,lv,v,n,n',h,hs,hn=>by simpa [vput] using hn
 | i :: r,f,lv,v,n,n',h,hs,hn=>by
  have h':gd d x ((f + r.length) + 1) lv v:=h
  rw [vsub] at hs
  cases hk:(vkids v)[i]? with
  | none=>rw [hk] at hs; cases hs
  | some e =>
   rw [hk] at hs
   rw [show lv + ((i :: r).length:Nat) = lv + 1 + (r.length:Nat) by rw [List.length_cons]; omega] at hn
   show gd d x ((f + r.length) + 1) lv _
   rw [vput,hk]
   exact gd_vkid h' (gd_put (gd_kid h' hk) hs hn)
theorem lins_mem {α:Type} {i:Nat} {c q:α} {l:List α} (h:q ∈ lins i c l):q = c ∨ q ∈ l:=by
 have:=(perm_lins i c l).mem_iff.1 h
 exact List.mem_cons.1 this
theorem ldel_mem {α:Type} {i:Nat} {q:α} {l:List α} (h:q ∈ ldel i l):q ∈ l:=by
 rcases List.mem_append.1 h with h | h
 ·exact List.mem_of_mem_take h
 ·exact List.mem_of_mem_drop h
theorem gd_mput {d x:Int} {f:Nat} {lv:Int} {k:By} {c:V} {es:List (Lit × V)} (h1:es.Pairwise (fun p q=>p.1.before q.1 = true)) (h2:∀ p ∈ es,(∃ s,p.1 = .string s ∧ Ut s) ∧ gd d x f (lv + 1) p.2) (hk:Ut k) (hc:gd d x f (lv + 1) c) :
  (mput (.string k) c es).Pairwise (fun p q=>p.1.before q.1 = true) ∧ ∀ p ∈ mput (.string k) c es,(∃ s,p.1 = .string s ∧ Ut s) ∧ gd d x f (lv + 1) p.2:=by
 refine ⟨(mput_skey ⟨h1,fun p hp=>?_⟩).1,fun p hp=>?_⟩
 ·obtain ⟨s,hs,_⟩:=(h2 p hp).1
  exact ⟨s,hs⟩
 ·rcases List.mem_cons.1 ((perm_mput (.string k) c es).mem_iff.1 hp) with rfl | hp
  ·exact ⟨⟨k,rfl,hk⟩,hc⟩
  ·exact h2 p (List.mem_filter.1 hp).1
theorem gd_ins {d x:Int} {f:Nat} {lv:Int} {i:Nat} {k:By} {v c:V} (h:gd d x (f + 1) lv v) (hk:Ut k) (hc:gd d x f (lv + 1) c):gd d x (f + 1) lv (insV i k c v):=by
 obtain ⟨h0,h⟩:=h
 rcases h with ⟨j,hj,rfl⟩ | ⟨s,hs,rfl⟩ | ⟨n,h1,h2,h3,rfl⟩ | ⟨es,h,rfl⟩ | ⟨es,h1,h2,rfl⟩
 ·exact ⟨h0,Or.inl ⟨j,hj,rfl⟩⟩
 ·exact ⟨h0,Or.inr (Or.inl ⟨s,hs,rfl⟩)⟩
 ·exact ⟨h0,Or.inr (Or.inr (Or.inl ⟨n,h1,h2,h3,rfl⟩))⟩
 ·refine ⟨h0,Or.inr (Or.inr (Or.inr (Or.inl ⟨lins i c es,fun q hq=>?_,rfl⟩)))⟩
  rcases lins_mem hq with rfl | hq
  ·exact hc
  ·exact h q hq
 ·obtain ⟨h3,h4⟩:=gd_mput h1 h2 hk hc
  exact ⟨h0,Or.inr (Or.inr (Or.inr (Or.inr ⟨mput (.string k) c es,h3,h4,rfl⟩)))⟩
theorem gd_set {d x:Int} {f:Nat} {lv:Int} {i:Nat} {k:By} {v c:V} (h:gd d x (f + 1) lv v) (hk:Ut k) (hc:gd d x f (lv + 1) c):gd d x (f + 1) lv (setV i k c v):=by
 obtain ⟨h0,h⟩:=h
 rcases h with ⟨j,hj,rfl⟩ | ⟨s,hs,rfl⟩ | ⟨n,h1,h2,h3,rfl⟩ | ⟨es,h,rfl⟩ | ⟨es,h1,h2,rfl⟩
 ·exact ⟨h0,Or.inl ⟨j,hj,rfl⟩⟩
 ·exact ⟨h0,Or.inr (Or.inl ⟨s,hs,rfl⟩)⟩
 ·exact ⟨h0,Or.inr (Or.inr (Or.inl ⟨n,h1,h2,h3,rfl⟩))⟩
 ·refine ⟨h0,Or.inr (Or.inr (Or.inr (Or.inl ⟨es.set i c,fun q hq=>?_,rfl⟩)))⟩
  rcases List.mem_or_eq_of_mem_set hq with hq | rfl
  ·exact h q hq
  ·exact hc
 ·obtain ⟨h3,h4⟩:=gd_mput h1 h2 hk hc
  exact ⟨h0,Or.inr (Or.inr (Or.inr (Or.inr ⟨mput (.string k) c es,h3,h4,rfl⟩)))⟩
theorem gd_rem {d x:Int} {f:Nat} {lv:Int} {i:Nat} {k:By} {v:V} (h:gd d x (f + 1) lv v):gd d x (f + 1) lv (remV i k v):=by
 obtain ⟨h0,h⟩:=h
 rcases h with ⟨j,hj,rfl⟩ | ⟨s,hs,rfl⟩ | ⟨n,h1,h2,h3,rfl⟩ | ⟨es,h,rfl⟩ | ⟨es,h1,h2,rfl⟩
 ·exact ⟨h0,Or.inl ⟨j,hj,rfl⟩⟩
 ·exact ⟨h0,Or.inr (Or.inl ⟨s,hs,rfl⟩)⟩
 ·exact ⟨h0,Or.inr (Or.inr (Or.inl ⟨n,h1,h2,h3,rfl⟩))⟩
 ·exact ⟨h0,Or.inr (Or.inr (Or.inr (Or.inl ⟨ldel i es,fun q hq=>h q (ldel_mem hq),rfl⟩)))⟩
 ·exact ⟨h0,Or.inr (Or.inr (Or.inr (Or.inr ⟨mdel (.string k) es,h1.filter _,fun p hp=>h2 p (List.mem_filter.1 hp).1,rfl⟩)))⟩
end Sp
end Go.Proofs.YtdpomdelmdofmaaGreatDoor

namespace Go.Proofs.YtdpomdelmdofmaaGreatDoor
open Go.RowKit Go.Maps
namespace Sp
def sz:Nat → V → Nat
 | 0,_=>0
 | f + 1,d=>match d with
  | .slice es _=>2 + (es.map fun e=>sz f e + 1).sum
  | .map es=>2 + (es.map fun p=>(quoT (strOf p.1)).length + 2 + sz f p.2).sum
  | d=>(can (f + 1) d).length
theorem sz_arr (f:Nat) (es:List V):sz (f + 1) (vArr es) = 2 + (es.map fun e=>sz f e + 1).sum:=rfl
theorem sz_obj (f:Nat) (es:List (Lit × V)):sz (f + 1) (vObj es) = 2 + (es.map fun p=>(quoT (strOf p.1)).length + 2 + sz f p.2).sum:=rfl
theorem sum_le {α:Type} {q r:α → Nat}:∀ {l:List α},(∀ a ∈ l,q a ≤ r a) → (l.map q).sum ≤ (l.map r).sum
 | [],_=>Nat.le_refl _
 | a :: l,h=>by
  have h1:=h a (by simp)
  have h2:=sum_le (q:=q) (r:=r) (l:=l) fun b hb=>h b (by simp [hb])
  simp only [List.map_cons,List.sum_cons]; omega
theorem sum_mul {α:Type} {q:α → Nat}:∀ (l:List α),(l.map fun a=>2 * q a).sum = 2 * (l.map q).sum
 | []=>rfl
 | a :: l=>by simp only [List.map_cons,List.sum_cons,sum_mul l]; omega
theorem joinR_sumE (l:List By):(joinC l).length + 1 ≥ (l.map fun x=>x.length + 1).sum:=by
 cases l with
 | nil=>simp
 | cons x r=>simp [joinC,joinR_sum]; omega
theorem rise_ne {es:List (Lit × V)} (h1:es.Pairwise (fun p q=>p.1.before q.1 = true)) (h2:∀ p ∈ es,∃ s,p.1 = .string s):es.Pairwise (fun p q=>p.1 ≠ q.1):=by
 refine List.Pairwise.imp_of_mem ?_ h1
 intro p q hp _ hb e
 obtain ⟨s,hs⟩:=h2 p hp
 rw [← e,hs] at hb
 have h9:bytesBefore s s = true:=hb
 rw [WideAt.bytes_irrefl] at h9; cases h9
theorem obj_sumE {g:Nat} {es:List (Lit × V)} (hp:es.Pairwise (fun p q=>p.1 ≠ q.1)) (hk:∀ p ∈ es,∃ x,p.1 = .string x) :
  ents g es ≤ (joinC ((skeys es).map (item g es))).length + 1:=by
 refine Nat.le_trans (Nat.le_of_eq ?_) (joinR_sumE _)
 rw [List.map_map]
 have h1:((skeys es).map ((fun x=>x.length + 1) ∘ item g es)).Perm ((keys es).map ((fun x=>x.length + 1) ∘ item g es)):=(List.mergeSort_perm _ _).map _
 rw [h1.sum_nat]
 unfold keys ents
 rw [List.map_map]
 congr 1
 apply List.map_congr_left
 intro p hpm
 obtain ⟨x,hx⟩:=hk p hpm
 have h2:look es x = p.2:=by
  unfold look
  exact WideAt.atKey_mem .nil trivial hp (by rw [← hx]; exact hpm)
 obtain ⟨k,v⟩:=p
 simp only at hx h2
 subst hx
 simp only [Function.comp,ent,strOf]
 rw [item_len,h2]
 omega
theorem can_sz {d x:Int}:∀ {f:Nat} {lv:Int} {v:V},gd d x f lv v → (can f v).length ≤ sz f v ∧ sz f v ≤ 2 * (can f v).length
 | 0,_,_,h=>h.elim
 | f + 1,lv,v,⟨h0,h⟩=>by
  rcases h with ⟨k,hk,rfl⟩ | ⟨s,hs,rfl⟩ | ⟨n,h1,h2,h3,rfl⟩ | ⟨es,h,rfl⟩ | ⟨es,h1,h2,rfl⟩
  ·have:sz (f + 1) (vWord k) = (can (f + 1) (vWord k)).length:=rfl
   omega
  ·have:sz (f + 1) (vStr s) = (can (f + 1) (vStr s)).length:=rfl
   omega
  ·have:sz (f + 1) (vNum n) = (can (f + 1) (vNum n)).length:=rfl
   omega
  ·rw [sz_arr,can_arr]
   have a1:=joinC_sum (es.map (can f))
   have a2:=joinR_sumE (es.map (can f))
   rw [List.map_map] at a1 a2
   have b1:(es.map ((fun x=>x.length + 1) ∘ can f)).sum ≤ (es.map fun e=>sz f e + 1).sum:=sum_le fun e he=>by
    have:=(can_sz (h e he)).1; show (can f e).length + 1 ≤ _; omega
   have b2:(es.map fun e=>sz f e + 1).sum ≤ (es.map fun e=>2 * ((fun x:By=>x.length + 1) ∘ can f) e).sum:=sum_le fun e he=>by
    have:=(can_sz (h e he)).2; show _ ≤ 2 * ((can f e).length + 1); omega
   rw [sum_mul] at b2
   simp only [List.length_cons,List.length_append,List.length_nil]
   omega
  ·have hk:∀ p ∈ es,∃ s,p.1 = .string s:=fun p hp=>by
    obtain ⟨s,hs,_⟩:=(h2 p hp).1; exact ⟨s,hs⟩
   have hne:=rise_ne h1 hk
   rw [sz_obj,can_obj]
   have a1:=obj_sum (g:=f) hne hk
   have a2:=obj_sumE (g:=f) hne hk
   unfold ents at a1 a2
   have e1:(joinC ((skeys es).map (item f es))) = joinC (((keys es).mergeSort fun x y=>decide (x ≤ y)).map fun k=>quoT k ++ 58 :: can f (look es k)):=rfl
   rw [e1] at a1 a2
   have b1:(es.map (ent f)).sum ≤ (es.map fun p=>(quoT (strOf p.1)).length + 2 + sz f p.2).sum:=sum_le fun p hp=>by
    have:=(can_sz (h2 p hp).2).1; unfold ent; omega
   have b2:(es.map fun p=>(quoT (strOf p.1)).length + 2 + sz f p.2).sum ≤ (es.map fun p=>2 * ent f p).sum:=sum_le fun p hp=>by
    have:=(can_sz (h2 p hp).2).2; unfold ent; omega
   rw [sum_mul] at b2
   simp only [List.length_cons,List.length_append,List.length_nil]
   omega
theorem sum_filter {α:Type} {q:α → Nat} (c:α → Bool):∀ (l:List α),((l.filter c).map q).sum ≤ (l.map q).sum
 | []=>Nat.le_refl _
 | a :: r=>by
  have:=sum_filter (q:=q) c r
  rw [List.filter_cons]
  split
  ·simp only [List.map_cons,List.sum_cons]; omega
  ·simp only [List.map_cons,List.sum_cons]; omega
theorem sum_set {α:Type} {q:α → Nat} (x:α):∀ (l:List α) (i:Nat),((l.set i x).map q).sum ≤ (l.map q).sum + q x
 | [],i=>by simp
 | a :: r,0=>by simp only [List.set_cons_zero,List.map_cons,List.sum_cons]; omega
 | a :: r,i + 1=>by have:=sum_set (q:=q) x r i; simp only [List.set_cons_succ,List.map_cons,List.sum_cons]; omega
theorem sz_vkid {f:Nat} {d x:Int} {lv:Int} {v e n:V} {i:Nat} (h:gd d x (f + 1) lv v) (hi:(vkids v)[i]? = some n):sz (f + 1) (vkid i e v) + sz f n = sz (f + 1) v + sz f e:=by
 have hset:∀ {α:Type} {q:α → Nat} (y z:α) (l:List α) (i:Nat),l[i]? = some y → ((l.set i z).map q).sum + q y = (l.map q).sum + q z:=by
  intro α q y z l
  induction l with
  | nil=>intro i h; simp at h
  | cons a r ih =>
   intro i h
   cases i with
   | zero =>
    rw [List.getElem?_cons_zero] at h
    injection h with h
    subst h
    simp only [List.set_cons_zero,List.map_cons,List.sum_cons]; omega
   | succ i =>
    have:=ih i (by simpa using h)
    simp only [List.set_cons_succ,List.map_cons,List.sum_cons]; omega
 have hmod:∀ (l:List (Lit × V)) (i:Nat),(l.map Prod.snd)[i]? = some n → ((l.modify i fun p=>(p.1,e)).map fun p=>(quoT (strOf p.1)).length + 2 + sz f p.2).sum + sz f n = (l.map fun p=>(quoT (strOf p.1)).length + 2 + sz f p.2).sum + sz f e:=by
  intro l
  induction l with
  | nil=>intro i h; simp at h
  | cons a r ih =>
   intro i h
   cases i with
   | zero =>
    rw [List.map_cons,List.getElem?_cons_zero] at h
    injection h with h
    subst h
    simp only [List.modify_zero_cons,List.map_cons,List.sum_cons]; omega
   | succ i =>
    have:=ih i (by simpa using h)
    simp only [List.modify_succ_cons,List.map_cons,List.sum_cons]; omega
 obtain ⟨_,h⟩:=h
 rcases h with ⟨k,hk,rfl⟩ | ⟨s,hs,rfl⟩ | ⟨m,h1,h2,h3,rfl⟩ | ⟨es,h,rfl⟩ | ⟨es,h1,h2,rfl⟩
 ·cases hi
 ·cases hi
 ·cases hi
 ·have hi2:es[i]? = some n:=hi
  have:=hset (q:=fun e=>sz f e + 1) n e es i hi2
  show 2 + ((es.set i e).map fun e=>sz f e + 1).sum + _ = 2 + (es.map fun e=>sz f e + 1).sum + _
  omega
 ·have:=hmod es i hi
  show 2 + ((es.modify i fun p=>(p.1,e)).map fun p=>(quoT (strOf p.1)).length + 2 + sz f p.2).sum + _ = 2 + (es.map fun p=>(quoT (strOf p.1)).length + 2 + sz f p.2).sum + _
  omega
theorem sz_put {d x:Int}:∀ {p:List Nat} {f:Nat} {lv:Int} {v n n':V},gd d x (f + p.length) lv v → vsub p v = some n → sz (f + p.length) (vput p n' v) + sz f n = sz (f + p.length) v + sz f n'
 | [],f,lv,v,n,n',h,hs=>by
  injection hs with hs
  subst hs
  show sz (f + 0) n' + sz f v = sz (f + 0) v + sz f n'
  simp only [Nat.add_zero]; omega
 | i :: r,f,lv,v,n,n',h,hs=>by
  have h':gd d x ((f + r.length) + 1) lv v:=h
  rw [vsub] at hs
  cases hk:(vkids v)[i]? with
  | none=>rw [hk] at hs; cases hs
  | some e =>
   rw [hk] at hs
   show sz ((f + r.length) + 1) _ + _ = sz ((f + r.length) + 1) _ + _
   rw [vput,hk]
   have ih:=sz_put (n':=n') (gd_kid h' hk) hs
   have:=sz_vkid (e:=vput r n' e) h' hk
   simp only
   omega
theorem sz_mput {f:Nat} (k:By) (c:V) (es:List (Lit × V)):((mput (.string k) c es).map fun p=>(quoT (strOf p.1)).length + 2 + sz f p.2).sum ≤ (es.map fun p=>(quoT (strOf p.1)).length + 2 + sz f p.2).sum + ((quoT k).length + 2 + sz f c):=by
 rw [((perm_mput (.string k) c es).map _).sum_nat,List.map_cons,List.sum_cons]
 have:((mdel (.string k) es).map fun p=>(quoT (strOf p.1)).length + 2 + sz f p.2).sum ≤ (es.map fun p=>(quoT (strOf p.1)).length + 2 + sz f p.2).sum:=sum_filter _ es
 have e:strOf (Lit.string k) = k:=rfl
 simp only [e]
 omega
theorem le_key {a x q c:Nat} (h:x ≤ a + (q + 2 + c)):2 + x ≤ 2 + a + c + q + 2:=by omega
theorem sz_ins {f i:Nat} {k:By} {c v:V}:sz (f + 1) (insV i k c v) ≤ sz (f + 1) v + sz f c + (quoT k).length + 2:=by
 unfold insV ved
 split
 ·rename_i es y
  show 2 + ((lins i c es).map fun e=>sz f e + 1).sum ≤ 2 + (es.map fun e=>sz f e + 1).sum + _ + _ + _
  rw [((perm_lins i c es).map _).sum_nat,List.map_cons,List.sum_cons]
  omega
 ·rename_i es
  have:=sz_mput (f:=f) k c es
  exact le_key this
 ·omega
theorem sz_set {f i:Nat} {k:By} {c v:V}:sz (f + 1) (setV i k c v) ≤ sz (f + 1) v + sz f c + (quoT k).length + 2:=by
 unfold setV ved
 split
 ·rename_i es y
  have:=sum_set (q:=fun e=>sz f e + 1) c es i
  show 2 + ((es.set i c).map fun e=>sz f e + 1).sum ≤ 2 + (es.map fun e=>sz f e + 1).sum + _ + _ + _
  omega
 ·rename_i es
  have:=sz_mput (f:=f) k c es
  exact le_key this
 ·omega
theorem sz_rem {f i:Nat} {k:By} {v:V}:sz (f + 1) (remV i k v) ≤ sz (f + 1) v:=by
 unfold remV ved
 split
 ·rename_i es y
  have h:((ldel i es).map fun e=>sz f e + 1).sum ≤ (es.map fun e=>sz f e + 1).sum:=by
   by_cases hi:i < es.length
   ·rw [((perm_ldel (List.getElem?_eq_getElem hi)).map (fun e=>sz f e + 1)).sum_nat,List.map_cons,List.sum_cons]; omega
   ·unfold ldel
    rw [List.drop_eq_nil_of_le (by omega),List.append_nil,List.take_of_length_le (by omega)]
    exact Nat.le_refl _
  show 2 + ((ldel i es).map fun e=>sz f e + 1).sum ≤ 2 + (es.map fun e=>sz f e + 1).sum
  omega
 ·rename_i es
  have:((mdel (.string k) es).map fun p=>(quoT (strOf p.1)).length + 2 + sz f p.2).sum ≤ (es.map fun p=>(quoT (strOf p.1)).length + 2 + sz f p.2).sum:=sum_filter _ es
  show 2 + ((mdel (.string k) es).map fun p=>(quoT (strOf p.1)).length + 2 + sz f p.2).sum ≤ 2 + (es.map fun p=>(quoT (strOf p.1)).length + 2 + sz f p.2).sum
  omega
 ·omega
theorem kids_sz {f:Nat} {v:V}:(vkids v).length ≤ sz (f + 1) v:=by
 have h1:∀ {α:Type} {q:α → Nat} (l:List α),(∀ a,1 ≤ q a) → l.length ≤ (l.map q).sum:=by
  intro α q l hq
  induction l with
  | nil=>simp
  | cons a r ih=>have:=hq a; simp only [List.map_cons,List.sum_cons,List.length_cons]; omega
 unfold vkids
 split
 ·rename_i es
  have:=h1 (q:=fun p:Lit × V=>(quoT (strOf p.1)).length + 2 + sz f p.2) es fun p=>by omega
  show (es.map Prod.snd).length ≤ 2 + (es.map fun p:Lit × V=>(quoT (strOf p.1)).length + 2 + sz f p.2).sum
  rw [List.length_map]; omega
 ·rename_i es y
  have:=h1 (q:=fun e:V=>sz f e + 1) es fun p=>by omega
  show es.length ≤ 2 + (es.map fun e:V=>sz f e + 1).sum
  omega
 ·simp
theorem sz_sub {d x:Int}:∀ {p:List Nat} {f:Nat} {lv:Int} {v n:V},gd d x (f + p.length) lv v → vsub p v = some n → sz f n ≤ sz (f + p.length) v
 | [],f,lv,v,n,h,hs=>by
  injection hs with hs
  subst hs
  exact Nat.le_refl _
 | i :: r,f,lv,v,n,h,hs=>by
  have h':gd d x ((f + r.length) + 1) lv v:=h
  rw [vsub] at hs
  cases hk:(vkids v)[i]? with
  | none=>rw [hk] at hs; cases hs
  | some e =>
   rw [hk] at hs
   have ih:=sz_sub (gd_kid h' hk) hs
   have h1:=sz_vkid (e:=.nil) h' hk
   have h2:sz (f + r.length) (.nil:V) = 0:=by cases f + r.length <;> rfl
   have h3:sz (f + r.length) e ≤ sz (f + r.length + 1) v:=by omega
   exact Nat.le_trans ih h3
end Sp
end Go.Proofs.YtdpomdelmdofmaaGreatDoor
namespace Go.Proofs.YtdpomdelmdofmaaGreatDoor
open Go.RowKit Go.Maps
namespace Sp
theorem sz_up {d x:Int}:∀ {f g:Nat} {lv:Int} {v:V},gd d x f lv v → f ≤ g → sz g v = sz f v
 | 0,_,_,_,h,_=>h.elim
 | f + 1,0,_,_,_,h=>by omega
 | f + 1,g + 1,lv,v,⟨h0,h⟩,hg=>by
  rcases h with ⟨k,hk,rfl⟩ | ⟨s,hs,rfl⟩ | ⟨n,h1,h2,h3,rfl⟩ | ⟨es,h,rfl⟩ | ⟨es,h1,h2,rfl⟩
  ·rfl
  ·rfl
  ·rfl
  ·rw [sz_arr,sz_arr]
   congr 2
   exact List.map_congr_left fun e he=>by rw [sz_up (h e he) (by omega)]
  ·rw [sz_obj,sz_obj]
   congr 2
   exact List.map_congr_left fun p hp=>by rw [sz_up (h2 p hp).2 (by omega)]
end Sp
end Go.Proofs.YtdpomdelmdofmaaGreatDoor
