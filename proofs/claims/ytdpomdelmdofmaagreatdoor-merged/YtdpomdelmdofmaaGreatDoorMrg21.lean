/-
  Set, insert, remove at a place in an object, on trees; and at any container.
-/
import Derived.Test.YtdpomdelmdofmaaGreatDoorMrg20
import Derived.Deep.AppendLies
namespace Go.Proofs.YtdpomdelmdofmaaGreatDoor
section
open Go.RowKit Go.Maps
theorem obj_parts {f b g:Nat} {es:List (Lit×Sp.A)} (hn:(Sp.fp (f+1) (Sp.nd b g (.map es))).Nodup):(es.flatMap fun p=>Sp.fp f p.2).Nodup∧(b ∉ es.flatMap fun p=>Sp.fp f p.2)∧(g ∉ es.flatMap fun p=>Sp.fp f p.2)∧b≠g:=by
 rw[Sp.fp_obj] at hn
 obtain⟨n1,n2⟩:=List.nodup_cons.1 hn
 obtain⟨n3,n4⟩:=List.nodup_cons.1 n2
 exact⟨n4,fun h=>n1 (List.mem_cons_of_mem _ h),n3,fun e=>n1 (by simp[e])⟩
theorem obj_open {f b g:Nat} {w:World} {u:Value} {es:List (Lit×Sp.A)} (h:TRep (f+1) w u (Sp.nd b g (.map es))):u = .pointer (some ⟨b,0,none⟩) ∧ ∃D,VB w b 6 n0 [] (.slice none 0 0) (.map (some g))∧w.ownsMap Tryz.prog 9 RV g es.length (.map D)∧Pt (TRep f w) D es:=by
 obtain⟨b2,g2,x2,e,hu,h⟩:=h
 unfold Sp.nd at e;injection e with e;injection e with e1 e;injection e with e2 e;injection e with e3 _
 injection e1 with e1;injection e1 with _ e1;injection e2 with e2;injection e2 with _ e2
 obtain rfl:b=b2:=by omega
 obtain rfl:g=g2:=by omega
 rcases h with⟨j,_,_,rfl,_⟩|⟨n,_,rfl,_⟩|⟨s,_,rfl,_⟩|⟨al2,sl,ps,rfl,hvb,ho,hs,ha⟩|⟨es,n,D,rfl,hvb,ho,hp⟩
 ·cases e3
 ·cases e3
 ·cases e3
 ·cases e3
 ·injection e3 with e3
  subst e3
  exact⟨hu,D,hvb,hp.len▸map_norm ho,hp⟩
theorem Pt.bel {f:Nat} {w w':World} {D:List (Lit×DataW Value)} {es:List (Lit×Sp.A)} (h:Pt (TRep f w) D es) (hk:∀k∈es.flatMap (fun p=>Sp.fp f p.2),w'.heap[k]? = w.heap[k]?):Pt (TRep f w') D es :=
 Pt.mem (fun _ p hp hu=>hu.move fun k hkc=>hk k (List.mem_flatMap.2 ⟨p,hp,hkc⟩)) h
theorem obj_ed {f b g n:Nat} {w w':World} {u:Value} {es es':List (Lit×Sp.A)} {D':List (Lit×DataW Value)} {Z:Nat→Prop} (h:TRep (f+1) w u (Sp.nd b g (.map es))) (hvb:VB w' b 6 n0 [] (.slice none 0 0) (.map (some g))) (ho:w'.ownsMap Tryz.prog 9 RV g n (.map D')) (hp:Pt (TRep f w') D' es')
  (hnd:(b::g::es'.flatMap (fun p=>Sp.fp f p.2)).Nodup) (hZ:∀k∈es'.flatMap (fun p=>Sp.fp f p.2),k∈es.flatMap (fun p=>Sp.fp f p.2)∨Z k) (hk:KeptF (fun k=>k∈Sp.own (Sp.nd b g (.map es))) w w') :
  EdOk f w w' u (Sp.nd b g (.map es)) (Sp.nd b g (.map es')) Z:=by
 obtain⟨hu,_⟩:=obj_open h
 refine⟨⟨b,g,_,rfl,hu,Or.inr (Or.inr (Or.inr (Or.inr ⟨es',n,D',rfl,hvb,ho,hp⟩)))⟩,by rw[Sp.fp_obj];exact hnd,?_,hk⟩
 intro k hkm
 rw[Sp.fp_obj] at hkm ⊢
 rcases List.mem_cons.1 hkm with rfl|hkm
 ·exact Or.inl (by simp)
 ·rcases List.mem_cons.1 hkm with rfl|hkm
  ·exact Or.inl (by simp)
  ·rcases hZ k hkm with h|h
   ·exact Or.inl (List.mem_cons_of_mem _ (List.mem_cons_of_mem _ h))
   ·exact Or.inr (Or.inl h)
theorem mdel_flat {f:Nat} (k:Lit) (es:List (Lit×Sp.A)):((Sp.mdel k es).flatMap fun p=>Sp.fp f p.2).Sublist (es.flatMap fun p=>Sp.fp f p.2):=by
 unfold Sp.mdel
 induction es with
 | nil=>exact List.Sublist.refl _
 | cons y r ih =>
  rw[List.filter_cons,List.flatMap_cons]
  split
  ·rw[List.flatMap_cons];exact (List.Sublist.refl _).append ih
  ·exact ih.trans (List.sublist_append_right _ _)
section
variable {f:Nat} {w:World} {u:Value} {c:Sp.A} {pth:Value} {b g i:Nat} {key:Sp.By} {x:Option Addr} {es:List (Lit×Sp.A)}
theorem put_end {w':World} {D:List (Lit×DataW Value)} {n:Nat} (h:TRep (f+1) w u (Sp.nd b g (.map es))) (hn:(Sp.fp (f+1) (Sp.nd b g (.map es))).Nodup) (hc:TRep f w (.pointer x) c) (hcn:(Sp.fp f c).Nodup) (hcd:∀k∈Sp.fp f c,k ∉ Sp.fp (f+1) (Sp.nd b g (.map es)))
  (hvb:VB w b 6 n0 [] (.slice none 0 0) (.map (some g))) (hp:Pt (TRep f w) D es) (ho:w'.ownsMap Tryz.prog 9 RV g n (DataW.put (.map D) (.string key) (.held (.pointer x)))) (hk:w.grownBy w' (some g)) :
  EdOk f w w' u (Sp.nd b g (.map es)) (Sp.nd b g (.map (Sp.mput (.string key) c es))) (fun k=>k∈Sp.fp f c):=by
 obtain⟨p1,p2,p3,p4⟩:=obj_parts hn
 have hold:∀k,k<w.heap.size→k≠g→w'.heap[k]? = w.heap[k]?:=fun k hk1 hk2=>hk.block k hk1 (fun e=>hk2 (Option.some.inj e))
 have hb:b ∉ Sp.fp f c:=fun hm=>hcd b hm (by rw[Sp.fp_obj];simp)
 have hg:g ∉ Sp.fp f c:=fun hm=>hcd g hm (by rw[Sp.fp_obj];simp)
 have hp':Pt (TRep f w') D es:=hp.bel fun k hkm=>hold k (hp.lts k hkm) (fun e=>p3 (e▸hkm))
 have hc':TRep f w' (.pointer x) c:=hc.move fun k hkm=>hold k (hc.lt k hkm) (fun e=>hg (e▸hkm))
 have q:=(Sp.perm_mput (.string key) c es).flatMap_right (fun p=>Sp.fp f p.2)
 rw[List.flatMap_cons] at q
 have s:=mdel_flat (f:=f) (.string key) es
 have hmem:∀k∈(Sp.mput (.string key) c es).flatMap (fun p=>Sp.fp f p.2),k∈es.flatMap (fun p=>Sp.fp f p.2)∨k∈Sp.fp f c:=fun k hkm=>by
  rcases List.mem_append.1 (q.mem_iff.1 hkm) with h|h
  ·exact Or.inr h
  ·exact Or.inl (s.subset h)
 have hnd:((Sp.mput (.string key) c es).flatMap (fun p=>Sp.fp f p.2)).Nodup:=q.nodup_iff.2 (List.nodup_append.2 ⟨hcn,p1.sublist s,fun y hy z hz e=>hcd y hy (by rw[Sp.fp_obj];exact List.mem_cons_of_mem _ (List.mem_cons_of_mem _ (s.subset (e▸hz))))⟩)
 refine obj_ed h (hvb.kept (hold b hvb.lt p4)) ho (Pt.insert _ _ _ hc' (Pt.filter (fun c=>!c.sameKey (.string key)) hp')) ?_ hmem ⟨hk.os,hk.tape,hk.output,hk.size,fun k hk1 hk2=>hold k hk1 (fun e=>hk2 (by rw[Sp.own_obj,e];simp))⟩
 refine List.nodup_cons.2 ⟨fun hm=>?_,List.nodup_cons.2 ⟨fun hm=>?_,hnd⟩⟩
 ·rcases List.mem_cons.1 hm with e|hm
  ·exact p4 e
  ·exact (hmem b hm).elim p2 hb
 ·exact (hmem g hm).elim p3 hg
theorem setO (h:TRep (f+1) w u (Sp.nd b g (.map es))) (hn:(Sp.fp (f+1) (Sp.nd b g (.map es))).Nodup) (hkl:key.length≤1048576) (hl:es.length≤1000000000000) (hc:TRep f w (.pointer x) c) (hcn:(Sp.fp f c).Nodup) (hcd:∀k∈Sp.fp f c,k ∉ Sp.fp (f+1) (Sp.nd b g (.map es))) :
  Calls Tryz.prog 250 #[plV pth b key i,.pointer x] w fun e w'=>e = .returned (.tuple #[])∧EdOk f w w' u (Sp.nd b g (.map es)) (Sp.nd b g (.map (Sp.mput (.string key) c es))) (fun k=>k∈Sp.fp f c):=by
 obtain⟨_,D,hvb,ho,hp⟩:=obj_open h
 refine (set_obj (pth:=pth) (i:=i) (pu:=x) hkl (by unfold maxLen;omega) hvb ho).mono ?_
 rintro e w' ⟨rfl,ho',hk⟩
 exact⟨rfl,put_end h hn hc hcn hcd hvb hp ho' hk⟩
theorem insO (h:TRep (f+1) w u (Sp.nd b g (.map es))) (hn:(Sp.fp (f+1) (Sp.nd b g (.map es))).Nodup) (hkl:key.length≤1048576) (hl:es.length≤1000000000000) (hc:TRep f w (.pointer x) c) (hcn:(Sp.fp f c).Nodup) (hcd:∀k∈Sp.fp f c,k ∉ Sp.fp (f+1) (Sp.nd b g (.map es))) :
  Calls Tryz.prog 249 #[plV pth b key i,.pointer x] w fun e w'=>e = .returned (.tuple #[])∧EdOk f w w' u (Sp.nd b g (.map es)) (Sp.nd b g (.map (Sp.mput (.string key) c es))) (fun k=>k∈Sp.fp f c):=by
 obtain⟨_,D,hvb,ho,hp⟩:=obj_open h
 refine (insert_obj (pth:=pth) (i:=i) (pu:=x) hkl (by unfold maxLen;omega) hvb ho).mono ?_
 rintro e w' ⟨rfl,ho',hk⟩
 exact⟨rfl,put_end h hn hc hcn hcd hvb hp ho' hk⟩
theorem remO (h:TRep (f+1) w u (Sp.nd b g (.map es))) (hn:(Sp.fp (f+1) (Sp.nd b g (.map es))).Nodup) (hkl:key.length≤1048576) :
  Calls Tryz.prog 246 #[plV pth b key i] w fun e w'=>e = .returned (.tuple #[])∧EdOk f w w' u (Sp.nd b g (.map es)) (Sp.nd b g (.map (Sp.mdel (.string key) es))) (fun _=>False):=by
 obtain⟨_,D,hvb,ho,hp⟩:=obj_open h
 obtain⟨p1,p2,p3,p4⟩:=obj_parts hn
 refine (remove_obj (pth:=pth) (i:=i) hkl hvb ho).mono ?_
 rintro e w' ⟨rfl,ho',hk⟩
 have hold:∀k,k<w.heap.size→k≠g→w'.heap[k]? = w.heap[k]?:=fun k hk1 hk2=>hk.block k hk1 (fun e=>hk2 (Option.some.inj e))
 have hp':Pt (TRep f w') D es:=hp.bel fun k hkm=>hold k (hp.lts k hkm) (fun e=>p3 (e▸hkm))
 have s:=mdel_flat (f:=f) (.string key) es
 refine⟨rfl,obj_ed h (hvb.kept (hold b hvb.lt p4)) ho' (Pt.filter (fun c=>!c.sameKey (.string key)) hp') ?_ (fun k hkm=>Or.inl (s.subset hkm)) ⟨hk.os,hk.tape,hk.output,hk.size,fun k hk1 hk2=>hold k hk1 (fun e=>hk2 (by rw[Sp.own_obj,e];simp))⟩⟩
 refine List.nodup_cons.2 ⟨fun hm=>?_,List.nodup_cons.2 ⟨fun hm=>p3 (s.subset hm),p1.sublist s⟩⟩
 rcases List.mem_cons.1 hm with e|hm
 ·exact p4 e
 ·exact p2 (s.subset hm)
end
def InBox (n:Sp.A) (i m:Nat) (key:Sp.By):Prop:=(∃b g al,n=Sp.nd b g (.slice al [])∧i<al.length+m∧al.length≤1000000000000) ∨ ∃b g es,n=Sp.nd b g (.map es)∧key.length≤1048576∧es.length≤1000000000000
def Sp.blk (n:Sp.A):Nat:=match n with | .agg (.lit (.int _ b)::_)=>b.toNat|_=>0
section
variable {f:Nat} {w:World} {u:Value} {n c:Sp.A} {pth:Value} {i:Nat} {key:Sp.By} {x:Option Addr}
def EdEnd (f:Nat) (w:World) (u:Value) (n n':Sp.A) (Z:Nat→Prop) (e:Ending) (w':World):Prop :=
 e = .returned (.tuple #[]) ∧ ∃n2,(Sp.er (f+1) n2=Sp.er (f+1) n'∧Sp.kids n2=Sp.kids n' ∧ ∀k∈Sp.own n2,k∈Sp.own n∨w.heap.size≤k)∧EdOk f w w' u n n2 Z
theorem own_row {b g g' q:Nat} {al al':List Sp.A} (h:g'=g∨q≤g'):∀k∈Sp.own (Sp.nd b g' (.slice al' [])),k∈Sp.own (Sp.nd b g (.slice al []))∨q≤k:=by
 intro k hk
 rw[Sp.own_arr] at hk ⊢
 rcases List.mem_cons.1 hk with rfl|hk
 ·exact Or.inl (by simp)
 ·split at hk
  ·cases hk
  ·rename_i h0
   obtain rfl:k=g':=by simpa using hk
   rcases h with rfl|h
   ·exact Or.inl (by simp[h0])
   ·exact Or.inr h
theorem er_row (f b g g':Nat) (al:List Sp.A):Sp.er (f+1) (Sp.nd b g (.slice al []))=Sp.er (f+1) (Sp.nd b g' (.slice al [])):=by rw[Sp.er_arr,Sp.er_arr]
theorem set_tree (h:TRep (f+1) w u n) (hn:(Sp.fp (f+1) n).Nodup) (hi:InBox n i 0 key) (hc:TRep f w (.pointer x) c) (hcn:(Sp.fp f c).Nodup) (hcd:∀k∈Sp.fp f c,k ∉ Sp.fp (f+1) n) :
  Calls Tryz.prog 250 #[plV pth (Sp.blk n) key i,.pointer x] w (EdEnd f w u n (Sp.setT i key c n) (fun k=>k∈Sp.fp f c)):=by
 rcases hi with⟨b,g,al,rfl,h1,h2⟩|⟨b,g,es,rfl,h1,h2⟩
 ·exact (setA h hn h1 hc hcn hcd).mono fun e w' ⟨he,h⟩=>⟨he,_,⟨rfl,rfl,fun k hk=>Or.inl hk⟩,h⟩
 ·exact (setO h hn h1 h2 hc hcn hcd).mono fun e w' ⟨he,h⟩=>⟨he,_,⟨rfl,rfl,fun k hk=>Or.inl hk⟩,h⟩
theorem insert_tree (h:TRep (f+1) w u n) (hn:(Sp.fp (f+1) n).Nodup) (hi:InBox n i 1 key) (hc:TRep f w (.pointer x) c) (hcn:(Sp.fp f c).Nodup) (hcd:∀k∈Sp.fp f c,k ∉ Sp.fp (f+1) n) :
  Calls Tryz.prog 249 #[plV pth (Sp.blk n) key i,.pointer x] w (EdEnd f w u n (Sp.insT i key c n) (fun k=>k∈Sp.fp f c)):=by
 rcases hi with⟨b,g,al,rfl,h1,h2⟩|⟨b,g,es,rfl,h1,h2⟩
 ·exact (insA h hn (by omega) h2 hc hcn hcd).mono fun e w' ⟨he,g',hg,h⟩=>⟨he,_,⟨er_row f b g' g _,rfl,own_row hg⟩,h⟩
 ·exact (insO h hn h1 h2 hc hcn hcd).mono fun e w' ⟨he,h⟩=>⟨he,_,⟨rfl,rfl,fun k hk=>Or.inl hk⟩,h⟩
theorem remove_tree (h:TRep (f+1) w u n) (hn:(Sp.fp (f+1) n).Nodup) (hi:InBox n i 0 key) :
  Calls Tryz.prog 246 #[plV pth (Sp.blk n) key i] w (EdEnd f w u n (Sp.remT i key n) (fun _=>False)):=by
 rcases hi with⟨b,g,al,rfl,h1,h2⟩|⟨b,g,es,rfl,h1,h2⟩
 ·exact (remA h hn h1).mono fun e w' ⟨he,g',hg,h⟩=>⟨he,_,⟨er_row f b g' g _,rfl,own_row hg⟩,h⟩
 ·exact (remO h hn h1).mono fun e w' ⟨he,h⟩=>⟨he,_,⟨rfl,rfl,fun k hk=>Or.inl hk⟩,h⟩
end
end

section
open Go.RowKit Go.Maps
theorem ed_put {f:Nat} {p:List Nat} {w w':World} {v u:Value} {T n n2:Sp.A} {Z:Nat→Prop} (hT:TRep (f+1+p.length) w v T) (hs:Sp.sub p T=some n) (hN:(Sp.fp (f+1+p.length) T).Nodup) (hu:TRep (f+1) w u n) (h:EdOk f w w' u n n2 Z) (hZ:∀k,Z k→k<w.heap.size∧k ∉ Sp.fp (f+1+p.length) T) :
  TRep (f+1+p.length) w' v (Sp.put p n2 T)∧(Sp.fp (f+1+p.length) (Sp.put p n2 T)).Nodup∧(∀k∈Sp.fp (f+1+p.length) (Sp.put p n2 T),k∈Sp.fp (f+1+p.length) T∨Z k∨w.heap.size≤k)∧KeptF (fun k=>k∈Sp.fp (f+1+p.length) T) w w':=by
 have hlt:=hT.lt
 refine⟨TRep.put hT hs hN (fun k hk1 hk2=>h.kept.block k (hlt k hk1) (fun hk3=>hk2 (own_fp hu k hk3))) (fun u2 hu2=>?_),Sp.put_nodup hs hN h.nd (fun k hk1 hk2=>?_),?_,h.kept.mono fun k hk=>Sp.sub_fp hs k (own_fp hu k hk)⟩
 ·obtain rfl:=hu2.uniq hu
  exact h.tr
 ·rcases h.sub k hk1 with h1|h1|h1
  ·exact h1
  ·exact absurd hk2 (hZ k h1).2
  ·have:=hlt k hk2;omega
 ·intro k hk
  rcases Sp.put_fp hs k hk with h1|h1
  ·exact Or.inl h1
  ·exact (h.sub k h1).imp (Sp.sub_fp hs k) id
structure TreeAt (L:Nat) (v:Value) (T:Sp.A) (M N:Nat→Prop) (wk w:World):Prop where
 tree:∃T',Sp.er L T'=Sp.er L T∧TRep L w v T'∧(Sp.fp L T').Nodup ∧ ∀k∈Sp.fp L T',¬ M k ∧ ¬ N k
 held:∀k,M k→w.heap[k]? = wk.heap[k]?
 low:∀k,M k→k<w.heap.size
theorem TreeAt.shift {L:Nat} {v:Value} {T T2:Sp.A} {M N:Nat→Prop} {wk wk2 w:World} (h:TreeAt L v T M N wk w) (hT:Sp.er L T2=Sp.er L T) (hk:∀k,M k→wk2.heap[k]? = wk.heap[k]?):TreeAt L v T2 M N wk2 w:=by
 obtain⟨T',e,h1,h2,h3⟩:=h.tree
 exact⟨⟨T',e.trans hT.symm,h1,h2,h3⟩,fun k hm=>(h.held k hm).trans (hk k hm).symm,h.low⟩
def KeptN (N:Nat→Prop) (w w':World):Prop:=w'.os=w.os∧w'.tape=w.tape∧w'.output=w.output∧w.heap.size≤w'.heap.size ∧ ∀k,N k→w'.heap[k]? = w.heap[k]?
theorem back_edit {f:Nat} {p:List Nat} {v:Value} {T0 m0 m1:Sp.A} {M0 M1 N:Nat→Prop} {wk0 wk1 wt w:World} (h0:TRep (f+1+p.length) wt v T0) (hs:Sp.sub p T0=some m0) (hA:TreeAt (f+1+p.length) v (Sp.put p m1 T0) M1 N wk1 w) :
  ∃u n',Sp.er (f+1) n'=Sp.er (f+1) m1∧TRep (f+1) w u n'∧(Sp.fp (f+1) n').Nodup∧(∀k∈Sp.fp (f+1) n',¬ M1 k ∧ ¬ N k) ∧
   ∀ (n2:Sp.A) (Z:Nat→Prop) (w':World),EdOk f w w' u n' n2 Z→Sp.er (f+1) n2=Sp.er (f+1) m0→(∀k,Z k→M1 k ∧ ¬ M0 k)→(∀k,M0 k→M1 k∧wk1.heap[k]? = wk0.heap[k]?)→(∀k,N k → ¬ M1 k∧k<w.heap.size) →
    TreeAt (f+1+p.length) v T0 M0 N wk0 w'∧KeptN N w w':=by
 obtain⟨T',e,h1,h2,h3⟩:=hA.tree
 have hsub:Sp.sub p (Sp.put p m1 T0)=some m1:=Sp.sub_put m1 hs
 have e1:=Sp.er_sub p (f+1) T'
 rw[e,Sp.er_sub p (f+1),hsub] at e1
 obtain⟨n',hn',en⟩:∃n',Sp.sub p T'=some n'∧Sp.er (f+1) n'=Sp.er (f+1) m1:=by
  cases hx:Sp.sub p T' with
  | none=>rw[hx] at e1;cases e1
  | some n'=>rw[hx] at e1;exact⟨n',rfl,(Option.some.inj e1).symm⟩
 obtain⟨u,hu⟩:=TRep.at (f:=f+1) h1 hn'
 refine⟨u,n',en,hu,Sp.sub_nodup hn' h2,fun k hk=>h3 k (Sp.sub_fp hn' k hk),?_⟩
 intro n2 Z w' hed e2 hZ hM hN
 have hZ':∀k,Z k→k<w.heap.size∧k ∉ Sp.fp (f+1+p.length) T':=fun k hk=>⟨hA.low k (hZ k hk).1,fun hm=>(h3 k hm).1 (hZ k hk).1⟩
 obtain⟨t1,t2,t3,t4⟩:=ed_put h1 hn' h2 hu hed hZ'
 have es0:=Sp.er_sub p (f+1) T0
 rw[hs] at es0
 have eT:Sp.er (f+1+p.length) (Sp.put p n2 T')=Sp.er (f+1+p.length) T0:=by
  rw[Sp.er_put p (f+1) n2 hn',e2,e,Sp.er_put p (f+1) m1 hs,Sp.put_put _ _ es0,← Sp.er_put p (f+1) m0 hs,TRep.put_self h0 hs]
 refine⟨⟨⟨Sp.put p n2 T',eT,t1,t2,fun k hk=>?_⟩,fun k hk=>?_,fun k hk=>Nat.lt_of_lt_of_le (hA.low k (hM k hk).1) t4.size⟩,t4.os,t4.tape,t4.output,t4.size,fun k hk=>t4.block k (hN k hk).2 fun hm=>(h3 k hm).2 hk⟩
 ·rcases t3 k hk with h|h|h
  ·exact⟨fun hm=>(h3 k h).1 (hM k hm).1,(h3 k h).2⟩
  ·exact⟨(hZ k h).2,fun hn=>(hN k hn).1 (hZ k h).1⟩
  ·exact⟨fun hm=>by have:=hA.low k (hM k hm).1;omega,fun hn=>by have:=(hN k hn).2;omega⟩
 ·rw[t4.block k (hA.low k (hM k hk).1) fun hm=>(h3 k hm).1 (hM k hk).1,hA.held k (hM k hk).1,(hM k hk).2]
theorem InBox.er {f i q:Nat} {w:World} {u:Value} {n m:Sp.A} {key:Sp.By} (hn:TRep (f+1) w u n) (e:Sp.er (f+1) n=Sp.er (f+1) m) (h:InBox m i q key):InBox n i q key∧Sp.blk n=Sp.blk m∧Sp.Box n:=by
 rcases h with⟨b,g,al,rfl,h1,h2⟩|⟨b,g,es,rfl,h1,h2⟩
 ·obtain⟨g',al',rfl,e2⟩:=hn.er_arr e
  have hl:al'.length=al.length:=by have:=congrArg List.length e2;simpa using this
  exact⟨Or.inl ⟨b,g',al',rfl,by omega,by omega⟩,rfl,Or.inl ⟨b,g',al',rfl⟩⟩
 ·obtain⟨es',rfl,e2⟩:=hn.er_obj e
  have hl:es'.length=es.length:=by have:=congrArg List.length e2;simpa using this
  exact⟨Or.inr ⟨b,g,es',rfl,h1,by omega⟩,rfl,Or.inr ⟨b,g,es',rfl⟩⟩
end

section
open Go.RowKit Go.Maps
def PBox (w:World) (q:Nat) (pth:Value) (b:Nat) (key:Sp.By) (i:Nat):Prop:=w.heap[q]? = some (.cells #[pth,.pointer (some ⟨b,0,none⟩),.string ⟨key.toArray⟩,.int .i64 i] 185 (0,0))
def XBox (w:World) (q:Nat) (x:Option Addr):Prop:=w.heap[q]? = some (.cells #[.pointer x] 80 (0,0))
section
variable {w:World} {q q2 b i:Nat} {pth:Value} {key:Sp.By} {x:Option Addr} {Q:World→Prop}
theorem PBox.c0 (h:PBox w q pth b key i):w.cell? ⟨q,0,none⟩=some pth:=by simp[World.cell?,show w.heap[q]? = _ from h]
theorem PBox.c1 (h:PBox w q pth b key i):w.cell? ⟨q,1,none⟩=some (.pointer (some ⟨b,0,none⟩)):=by simp[World.cell?,show w.heap[q]? = _ from h]
theorem PBox.c2 (h:PBox w q pth b key i):w.cell? ⟨q,2,none⟩=some (.string ⟨key.toArray⟩):=by simp[World.cell?,show w.heap[q]? = _ from h]
theorem PBox.c3 (h:PBox w q pth b key i):w.cell? ⟨q,3,none⟩=some (.int .i64 i):=by simp[World.cell?,show w.heap[q]? = _ from h]
theorem XBox.c0 (h:XBox w q x):w.cell? ⟨q,0,none⟩=some (.pointer x):=by simp[World.cell?,show w.heap[q]? = _ from h]
def Ent (f:Nat):Prop:=∀args w,(callFunc f args).run Tryz.prog w = .ok (.enter f args) w
theorem ent_of {f:FuncId} {fn:Func} {c:Code} (hf:Tryz.prog.funcs[f]? = some fn) (hname:(fn.name == "runtime.NumGoroutine")=false) (hb:fn.body=some c):Ent f:=by
 intro args w
 have h1:¬ fn.name = "runtime.NumGoroutine" := by simpa using hname
 simp[callFunc,hf,h1,hb]
theorem ent_insert:Ent 252:=ent_of Tryz.func252 (by kernel_rfl) rfl
theorem ent_remove:Ent 248:=ent_of Tryz.func248 (by kernel_rfl) rfl
theorem ent_swap:Ent 251:=ent_of Tryz.func251 (by kernel_rfl) rfl
theorem dInsert1_any (hq:PBox w q pth b key i) (hC:Calls Tryz.prog 246 #[plV pth b key i] w fun e w'=>e = .returned (.tuple #[])∧Q w') :
  Calls Tryz.prog 252 #[.pointer (some ⟨q,0,none⟩)] w fun e w'=>e = .returned (.tuple #[])∧Q w':=by
 have c0:=hq.c0
 have c1:=hq.c1
 have c2:=hq.c2
 have c3:=hq.c3
 have HC:=hide hC
 clear hC hq
 go_enter Tryz.func252,Tryz.ntmps252
 go_wp2_with (fail)
 refine (unhide HC).mono ?_
 rintro e w' ⟨rfl,hQ⟩
 go_wp2_with (fail)
 exact bodyPost_end (results_none rfl _ _ _) rfl ⟨rfl,hQ⟩
theorem dRemove1_any (hq:PBox w q pth b key i) (hx:XBox w q2 x) (hC:Calls Tryz.prog 249 #[plV pth b key i,.pointer x] w fun e w'=>e = .returned (.tuple #[])∧Q w') :
  Calls Tryz.prog 248 #[.pointer (some ⟨q,0,none⟩),.pointer (some ⟨q2,0,none⟩)] w fun e w'=>e = .returned (.tuple #[])∧Q w':=by
 have c0:=hq.c0
 have c1:=hq.c1
 have c2:=hq.c2
 have c3:=hq.c3
 have d0:=hx.c0
 have HC:=hide hC
 clear hC hq hx
 go_enter Tryz.func248,Tryz.ntmps248
 go_wp2_with (fail)
 refine (unhide HC).mono ?_
 rintro e w' ⟨rfl,hQ⟩
 go_wp2_with (fail)
 exact bodyPost_end (results_none rfl _ _ _) rfl ⟨rfl,hQ⟩
theorem dSwap1_any (hq:PBox w q pth b key i) (hx:XBox w q2 x) (hC:Calls Tryz.prog 250 #[plV pth b key i,.pointer x] w fun e w'=>e = .returned (.tuple #[])∧Q w') :
  Calls Tryz.prog 251 #[.pointer (some ⟨q,0,none⟩),.pointer (some ⟨q2,0,none⟩)] w fun e w'=>e = .returned (.tuple #[])∧Q w':=by
 have c0:=hq.c0
 have c1:=hq.c1
 have c2:=hq.c2
 have c3:=hq.c3
 have d0:=hx.c0
 have HC:=hide hC
 clear hC hq hx
 go_enter Tryz.func251,Tryz.ntmps251
 go_wp2_with (fail)
 refine (unhide HC).mono ?_
 rintro e w' ⟨rfl,hQ⟩
 go_wp2_with (fail)
 exact bodyPost_end (results_none rfl _ _ _) rfl ⟨rfl,hQ⟩
end
theorem Sp.len_mput {k:Lit} {c:Sp.A} {es:List (Lit×Sp.A)}:(Sp.mput k c es).length≤es.length+1:=by
 have h1:=(Sp.perm_mput k c es).length_eq
 have h2:(Sp.mdel k es).length≤es.length:=List.length_filter_le _ _
 rw[h1,List.length_cons];omega
def Stands (n:Sp.A) (i:Nat) (key:Sp.By) (c:Sp.A):Prop:=(∃b g al,n=Sp.nd b g (.slice al [])∧al[i]? = some c) ∨ ∃b g es,n=Sp.nd b g (.map es)∧(Lit.string key,c)∈es∧Sp.Skey es
def Free (n:Sp.A) (i:Nat) (key:Sp.By):Prop:=(∃b g al,n=Sp.nd b g (.slice al [])∧i≤al.length) ∨ ∃b g es,n=Sp.nd b g (.map es) ∧ ∀p∈es,p.1≠Lit.string key
theorem Free.back {n c:Sp.A} {i:Nat} {key:Sp.By} (h:Free n i key):Sp.remT i key (Sp.insT i key c n)=n:=by
 rcases h with⟨b,g,al,rfl,h⟩|⟨b,g,es,rfl,h⟩
 ·unfold Sp.remT Sp.insT;rw[Sp.ed_arr,Sp.ed_arr,Sp.ldel_lins c h]
 ·unfold Sp.remT Sp.insT;rw[Sp.ed_obj,Sp.ed_obj,Sp.mdel_mput,Sp.mdel_none h]
theorem Stands.ins {n c:Sp.A} {i:Nat} {key:Sp.By} (h:Stands n i key c):Sp.insT i key c (Sp.remT i key n)=n:=by
 rcases h with⟨b,g,al,rfl,h⟩|⟨b,g,es,rfl,h,hs⟩
 ·unfold Sp.remT Sp.insT;rw[Sp.ed_arr,Sp.ed_arr,Sp.lins_ldel h]
 ·unfold Sp.remT Sp.insT;rw[Sp.ed_obj,Sp.ed_obj,Sp.mput_mdel,Sp.mput_back hs h]
theorem Stands.set {n c d:Sp.A} {i:Nat} {key:Sp.By} (h:Stands n i key c):Sp.setT i key c (Sp.setT i key d n)=n:=by
 rcases h with⟨b,g,al,rfl,h⟩|⟨b,g,es,rfl,h,hs⟩
 ·unfold Sp.setT;rw[Sp.ed_arr,Sp.ed_arr,Sp.lset_lset h]
 ·unfold Sp.setT;rw[Sp.ed_obj,Sp.ed_obj,Sp.mput_mput,Sp.mput_back hs h]
theorem Free.box {n:Sp.A} {i:Nat} {key:Sp.By} (h:Free n i key):Sp.Box n:=h.imp (fun ⟨b,g,al,e,_⟩=>⟨b,g,al,e⟩) (fun ⟨b,g,es,e,_⟩=>⟨b,g,es,e⟩)
theorem Stands.box {n c:Sp.A} {i:Nat} {key:Sp.By} (h:Stands n i key c):Sp.Box n:=h.imp (fun ⟨b,g,al,e,_⟩=>⟨b,g,al,e⟩) (fun ⟨b,g,es,e,_⟩=>⟨b,g,es,e⟩)
theorem Sp.box_ed {F:List Sp.A→List Sp.A} {G:List (Lit×Sp.A)→List (Lit×Sp.A)} {n:Sp.A} (h:Sp.Box n):Sp.Box (Sp.ed F G n)∧Sp.blk (Sp.ed F G n)=Sp.blk n:=by
 rcases h with⟨b,g,al,rfl⟩|⟨b,g,es,rfl⟩
 ·exact⟨Or.inl ⟨b,g,F al,rfl⟩,rfl⟩
 ·exact⟨Or.inr ⟨b,g,G es,rfl⟩,rfl⟩
def Roomy (n:Sp.A) (key:Sp.By):Prop:=(Sp.kids n).length+1≤1000000000000∧key.length≤1048576
theorem Free.at {n c:Sp.A} {i:Nat} {key:Sp.By} (h:Free n i key) (hr:Roomy n key):InBox n i 1 key∧InBox (Sp.insT i key c n) i 0 key:=by
 obtain⟨h1,h2⟩:=hr
 rcases h with⟨b,g,al,rfl,h⟩|⟨b,g,es,rfl,h⟩
 ·rw[Sp.kids_arr] at h1
  have:=Sp.len_lins c h
  exact⟨Or.inl ⟨b,g,al,rfl,by omega,by omega⟩,Or.inl ⟨b,g,Sp.lins i c al,rfl,by omega,by omega⟩⟩
 ·rw[Sp.kids_obj,List.length_map] at h1
  have:=Sp.len_mput (k:=.string key) (c:=c) (es:=es)
  exact⟨Or.inr ⟨b,g,es,rfl,h2,by omega⟩,Or.inr ⟨b,g,Sp.mput (.string key) c es,rfl,h2,by omega⟩⟩
theorem Stands.at {n c:Sp.A} {i:Nat} {key:Sp.By} (h:Stands n i key c) (hr:Roomy n key):InBox n i 0 key∧InBox (Sp.remT i key n) i 1 key ∧ ∀d,InBox (Sp.setT i key d n) i 0 key:=by
 obtain⟨h1,h2⟩:=hr
 rcases h with⟨b,g,al,rfl,h⟩|⟨b,g,es,rfl,h,_⟩
 ·rw[Sp.kids_arr] at h1
  obtain⟨hi,_⟩:=List.getElem?_eq_some_iff.1 h
  have:=Sp.len_ldel hi
  exact⟨Or.inl ⟨b,g,al,rfl,by omega,by omega⟩,Or.inl ⟨b,g,Sp.ldel i al,rfl,by omega,by omega⟩,fun d=>Or.inl ⟨b,g,al.set i d,rfl,by simpa using hi,by simp;omega⟩⟩
 ·rw[Sp.kids_obj,List.length_map] at h1
  have h3:(Sp.mdel (.string key) es).length≤es.length:=List.length_filter_le _ _
  exact⟨Or.inr ⟨b,g,es,rfl,h2,by omega⟩,Or.inr ⟨b,g,Sp.mdel (.string key) es,rfl,h2,by omega⟩,fun d=>Or.inr ⟨b,g,Sp.mput (.string key) d es,rfl,h2,by have:=Sp.len_mput (k:=.string key) (c:=d) (es:=es);omega⟩⟩
def Back (L:Nat) (v:Value) (fn:Nat) (cs:Array Value) (T0 T1:Sp.A) (M0 M1:Nat→Prop) (wk0 wk1:World):Prop :=
 ∀ (N:Nat→Prop) (w:World),(∀k,N k → ¬ M1 k∧k<w.heap.size)→TreeAt L v T1 M1 N wk1 w→Calls Tryz.prog fn cs w fun e w'=>e = .returned (.tuple #[])∧TreeAt L v T0 M0 N wk0 w'∧KeptN N w w'
section
variable {f:Nat} {p:List Nat} {v:Value} {T0 m0 c x:Sp.A} {M0 M1:Nat→Prop} {wk0 wk1 wt:World} {q q2 i:Nat} {pth:Value} {key:Sp.By} {pc:Option Addr}
theorem back_insert (h0:TRep (f+1+p.length) wt v T0) (hs:Sp.sub p T0=some m0) (hf:Free m0 i key) (hr:Roomy m0 key) (hq:PBox wk1 q pth (Sp.blk m0) key i) (hqM:M1 q) (hM:∀k,M0 k→M1 k∧wk1.heap[k]? = wk0.heap[k]?) :
  Back (f+1+p.length) v 252 #[.pointer (some ⟨q,0,none⟩)] T0 (Sp.put p (Sp.insT i key c m0) T0) M0 M1 wk0 wk1:=by
 intro N w hN hA
 obtain⟨u,n',en,hu,hnd,_,hed⟩:=back_edit h0 hs hA
 obtain⟨b1,b2,b3⟩:=InBox.er hu en (hf.at hr).2
 rw[show Sp.blk (Sp.insT i key c m0)=Sp.blk m0 from (Sp.box_ed hf.box).2] at b2
 refine dInsert1_any (b:=Sp.blk n') (by rw[b2];exact (hA.held q hqM).trans hq) ((remove_tree hu hnd b1).mono ?_)
 rintro e w' ⟨rfl,n2,⟨e2,_⟩,hE⟩
 refine⟨rfl,hed n2 _ w' hE ?_ (fun _ h=>h.elim) hM hN⟩
 rw[e2,Sp.er_rem b3,en,← Sp.er_rem (show Sp.Box (Sp.insT i key c m0) from (Sp.box_ed hf.box).1),hf.back]
theorem back_remove (h0:TRep (f+1+p.length) wt v T0) (hs:Sp.sub p T0=some m0) (hf:Stands m0 i key c) (hr:Roomy m0 key) (hq:PBox wk1 q pth (Sp.blk m0) key i) (hqM:M1 q) (hx:XBox wk1 q2 pc) (hxM:M1 q2) (hc:TRep f wk1 (.pointer pc) c) (hcn:(Sp.fp f c).Nodup) (hcM:∀k∈Sp.fp f c,M1 k ∧ ¬ M0 k) (hM:∀k,M0 k→M1 k∧wk1.heap[k]? = wk0.heap[k]?) :
  Back (f+1+p.length) v 248 #[.pointer (some ⟨q,0,none⟩),.pointer (some ⟨q2,0,none⟩)] T0 (Sp.put p (Sp.remT i key m0) T0) M0 M1 wk0 wk1:=by
 intro N w hN hA
 obtain⟨u,n',en,hu,hnd,hfp,hed⟩:=back_edit h0 hs hA
 obtain⟨b1,b2,b3⟩:=InBox.er hu en (hf.at hr).2.1
 rw[show Sp.blk (Sp.remT i key m0)=Sp.blk m0 from (Sp.box_ed hf.box).2] at b2
 have hcw:TRep f w (.pointer pc) c:=hc.move fun k hk=>hA.held k (hcM k hk).1
 refine dRemove1_any (b:=Sp.blk n') (by rw[b2];exact (hA.held q hqM).trans hq) ((hA.held q2 hxM).trans hx) ((insert_tree hu hnd b1 hcw hcn (fun k hk hm=>(hfp k hm).1 (hcM k hk).1)).mono ?_)
 rintro e w' ⟨rfl,n2,⟨e2,_⟩,hE⟩
 refine⟨rfl,hed n2 _ w' hE ?_ hcM hM hN⟩
 rw[e2,Sp.er_ins b3,en,← Sp.er_ins (show Sp.Box (Sp.remT i key m0) from (Sp.box_ed hf.box).1),hf.ins]
theorem back_swap (h0:TRep (f+1+p.length) wt v T0) (hs:Sp.sub p T0=some m0) (hf:Stands m0 i key c) (hr:Roomy m0 key) (hq:PBox wk1 q pth (Sp.blk m0) key i) (hqM:M1 q) (hx:XBox wk1 q2 pc) (hxM:M1 q2) (hc:TRep f wk1 (.pointer pc) c) (hcn:(Sp.fp f c).Nodup) (hcM:∀k∈Sp.fp f c,M1 k ∧ ¬ M0 k) (hM:∀k,M0 k→M1 k∧wk1.heap[k]? = wk0.heap[k]?) :
  Back (f+1+p.length) v 251 #[.pointer (some ⟨q,0,none⟩),.pointer (some ⟨q2,0,none⟩)] T0 (Sp.put p (Sp.setT i key x m0) T0) M0 M1 wk0 wk1:=by
 intro N w hN hA
 obtain⟨u,n',en,hu,hnd,hfp,hed⟩:=back_edit h0 hs hA
 obtain⟨b1,b2,b3⟩:=InBox.er hu en ((hf.at hr).2.2 x)
 rw[show Sp.blk (Sp.setT i key x m0)=Sp.blk m0 from (Sp.box_ed hf.box).2] at b2
 have hcw:TRep f w (.pointer pc) c:=hc.move fun k hk=>hA.held k (hcM k hk).1
 refine dSwap1_any (b:=Sp.blk n') (by rw[b2];exact (hA.held q hqM).trans hq) ((hA.held q2 hxM).trans hx) ((set_tree hu hnd b1 hcw hcn (fun k hk hm=>(hfp k hm).1 (hcM k hk).1)).mono ?_)
 rintro e w' ⟨rfl,n2,⟨e2,_⟩,hE⟩
 refine⟨rfl,hed n2 _ w' hE ?_ hcM hM hN⟩
 rw[e2,Sp.er_set b3,en,← Sp.er_set (show Sp.Box (Sp.setT i key x m0) from (Sp.box_ed hf.box).1),hf.set]
end
end

section
set_option maxRecDepth 100000
set_option maxHeartbeats 4000000
open Go.RowKit Go.Maps
abbrev Clo:=Nat×Array Value
def cloV (c:Clo):Value:=.func (.func c.1) #[] c.2
theorem chg_info:(Tryz.prog.info? 230).map (fun i=>(i.zero.map (fun z=>z.cells.size),i.size,i.bytes))=some (some 5,5,72):=by kernel_rfl
theorem chg_parts:∃i z,Tryz.prog.info? 230=some i∧i.zero=some z∧z.cells.size=5∧i.size=5∧i.bytes=72:=by
 obtain⟨i,hi,h⟩:=Option.map_eq_some_iff.1 chg_info
 simp only[Prod.mk.injEq] at h
 obtain⟨z,hz,h1⟩:=Option.map_eq_some_iff.1 h.1
 exact⟨i,z,hi,hz,h1,h.2.1,h.2.2⟩
def LayEnd (D:Nat) (rv jn iv:Value) (ch:Bool) (n:Nat) (xs new:List Value) (w:World) (e:Ending) (w':World):Prop :=
 e = .returned (.tuple #[]) ∧ ∃g cap,DB w' D rv (.slice (some ⟨g,0,none⟩) (n+1) cap) ch iv∧w'.ownsRow 0 230 5 (.slice (some ⟨g,0,none⟩) (n+1) cap) (n+1) (xs++new) ∧
  (jn.ownBlock=some g∨w.heap.size≤g)∧KeptF (fun k=>k=D∨jn.ownBlock=some k) w w'
theorem DB.set1 {w:World} {D:Nat} {rv jn iv:Value} {ch:Bool} (h:DB w D rv jn ch iv) (v:Value):DB (w.setCell ⟨D,1,none⟩ v) D rv v ch iv:=by
 simp only[DB,World.setCell,Array.getElem?_modify]
 rw[if_pos trivial,show w.heap[D]? = _ from h];rfl
theorem LayEnd.of {w wa w3:World} {D n g cap:Nat} {rv jn iv:Value} {ch:Bool} {xs new:List Value} {o:Obj} (hB:Below w.heap.size w wa) (hA:DB wa D rv jn ch iv) (hj:jn.ownBlock≠some D) (ho:w3.ownsRow 0 230 5 (.slice (some ⟨g,0,none⟩) (n+1) cap) (n+1) (xs++new)) (hg:(wa.alloc o).drew.grownBy w3 jn.ownBlock) (hat:jn.ownBlock=some g∨g=wa.heap.size+1) :
  LayEnd D rv jn iv ch n xs new w (.returned (.tuple #[])) (w3.setCell ⟨D,1,none⟩ (.slice (some ⟨g,0,none⟩) (n+1) cap)):=by
 have hs:(wa.alloc o).drew.heap.size=wa.heap.size+1:=by simp
 have hDl:=hA.lt
 have hold:∀k,k<wa.heap.size→jn.ownBlock≠some k→w3.heap[k]? = wa.heap[k]?:=fun k hk hne=>(hg.block k (by omega) (fun e=>hne e.symm)).trans (Below.heap_alloc wa o k hk)
 have hD3:DB w3 D rv jn ch iv:=hA.kept (hold D hDl hj)
 have hgD:g≠D:=fun e=>by
  rcases hat with h|h
  ·exact hj (by rw[h,e])
  ·omega
 have hsz:=hB.size
 refine⟨rfl,g,cap,hD3.set1 _,ownsN_kept ho fun k hk2=>?_,hat.imp id (fun h=>by omega),?_⟩
 ·simp[Value.ownBlock] at hk2
  exact Below.heap_setCell _ _ _ _ (by show k≠D;omega)
 ·have h3:KeptF (fun k=>k=D∨jn.ownBlock=some k) w wa:=KeptF.of_below hB
  have h4:KeptF (fun k=>k=D∨jn.ownBlock=some k) w w3:=h3.trans (F':=fun k=>jn.ownBlock=some k) ⟨hg.os,hg.tape,hg.output,by have:=hg.size;omega,fun k hk2 hne=>hold k hk2 hne⟩ fun k _ h=>Or.inr h
  exact h4.setCell (p:=⟨D,1,none⟩) (Or.inl (Or.inl rfl)) _
theorem dLay_any {w:World} {D:Nat} {rv jn iv:Value} {ch:Bool} {c:Clo} {k:Int} {pa x:Option Addr} {pl pc n:Nat} {xs:List Value} (hD:DB w D rv jn ch iv) (hj:w.ownsRow 0 230 5 jn n xs) (hn:n≤1000000000) (hjD:jn.ownBlock≠some D) :
  Calls Tryz.prog 247 #[.pointer (some ⟨D,0,none⟩),cloV c,.agg #[.int .i64 k,.slice pa pl pc,.slice none 0 0,.pointer x]] w (LayEnd D rv jn iv ch n xs [cloV c,.int .i64 k,.slice pa pl pc,.slice none 0 0,.pointer x] w):=by
 obtain⟨i0,z0,hi0,hz0,hz1,hz2,hz3⟩:=chg_parts
 have hDl:=hD.lt
 have HD:=hide hD
 have HJ:=hide hj
 have HJD:=hide hjD
 obtain⟨cf,cc⟩:=c
 unfold cloV
 clear hD hj hjD
 go_enter Tryz.func247,Tryz.ntmps247
 go_wp2_with (fail)
 have hbx:=heap_alloc_new w (.cells #[.int .i64 k,.slice pa pl pc,.slice none 0 0,.pointer x] 178)
 have hba:=(Below.refl w.heap.size w).alloc (Nat.le_refl _) (.cells #[.int .i64 k,.slice pa pl pc,.slice none 0 0,.pointer x] 178)
 generalize w.alloc (.cells #[.int .i64 k,.slice pa pl pc,.slice none 0 0,.pointer x] 178)=wa at *
 have hDa:=(unhide HD).kept (hba.block D hDl)
 have d1:=hDa.c1
 have b0:wa.cell? ⟨w.heap.size,0,none⟩=some (.int .i64 k):=by simp[World.cell?,hbx]
 have b1:wa.cell? ⟨w.heap.size,1,none⟩=some (.slice pa pl pc):=by simp[World.cell?,hbx]
 have b2:wa.cell? ⟨w.heap.size,2,none⟩=some (.slice none 0 0):=by simp[World.cell?,hbx]
 have b3:wa.cell? ⟨w.heap.size,3,none⟩=some (.pointer x):=by simp[World.cell?,hbx]
 have hoa:=ownsN_kept (w':=wa) (unhide HJ) fun g hg=>hba.block g (ownsN_lt (unhide HJ) g hg).1
 have hDal:D<wa.heap.size:=hDa.lt
 have z1:∀o,(wa.alloc o).frozen? ⟨D,1,none⟩=false:=fun o=>by rw[World.frozen?_of_block (w:=wa) (Below.heap_alloc wa o D hDal)];simp[World.frozen?,show wa.heap[D]? = _ from hDa]
 have y1:∀o,(wa.alloc o).cell? ⟨D,1,none⟩=some jn:=fun o=>by rw[World.cell?_of_block (w:=wa) (Below.heap_alloc wa o D hDal)];exact d1
 have nD:some D≠jn.ownBlock:=fun e=>unhide HJD e.symm
 have HB:=hide hba
 have HA:=hide hDa
 clear hba hDa
 have hwa:w.heap.size<wa.heap.size:=(Array.getElem?_eq_some_iff.1 hbx).1
 clear hbx
 go_region_law ((refine step_append_lies _ (by rfl) _ _ _ (by rfl) 0 230 i0 z0 5 72 Tryz.underlying112 hi0 hz0 hz2 hz3 hz1 (by decide) jn n xs (by rfl) ((hoa.alloc _).drew) ⟨wa.heap.size,0,none⟩ 1 1 [.func (.func cf) #[] cc,.int .i64 k,.slice pa pl pc,.slice none 0 0,.pointer x] (by rfl) (by rfl) (World.news_of_block (cs:=#[.func (.func cf) #[] cc,.int .i64 k,.slice pa pl pc,.slice none 0 0,.pointer x]) (t:=230) (fr:=(0,0)) (heap_alloc_new wa _)) (by simp[Value.oneCell']) (by decide) (by unfold maxLen;omega) (by omega) (Nat.zero_le _) (wa.heap.size+1) (by simp) ?_;intro g cap w3 hown3 hgrow hat hlt;have zz:w3.frozen? ⟨D,1,none⟩=false:=(hgrow.frozen_far ⟨D,1,none⟩ (by simp;omega) nD).trans (z1 _);have yy:w3.cell? ⟨D,1,none⟩=some jn:=(hgrow.cell_far ⟨D,1,none⟩ (by simp;omega) nD).trans (y1 _)))
 all_goals exact bodyPost_end (results_none rfl _ _ _) rfl (LayEnd.of (unhide HB) (unhide HA) (unhide HJD) hown3 hgrow hat)
end

section
open Go.RowKit Go.Maps
abbrev plW (w:World) (pa:Option Addr) (pl pc b:Nat) (key:Sp.By) (i:Nat):World:=w.alloc (.cells #[.slice pa pl pc,.pointer (some ⟨b,0,none⟩),.string ⟨key.toArray⟩,.int .i64 i] 185)
abbrev xW (w:World) (y:Option Addr):World:=w.alloc (.cells #[.pointer y] 80)
section
variable {w:World} {D b i n:Nat} {rv jn iv:Value} {ch:Bool} {key:Sp.By} {pa x y:Option Addr} {pl pc:Nat} {xs:List Value}
theorem dInsert_any {Q:World→Prop} (hn:n≤1000000000) (hjD:jn.ownBlock≠some D)
  (hC:Calls Tryz.prog 249 #[plV (.slice pa pl pc) b key i,.pointer x] (plW w pa pl pc b key i) fun e w'=>e = .returned (.tuple #[])∧Q w')
  (hQ:∀w2,Q w2→PBox w2 w.heap.size (.slice pa pl pc) b key i∧DB w2 D rv jn ch iv∧w2.ownsRow 0 230 5 jn n xs) :
  Calls Tryz.prog 205 #[.pointer (some ⟨D,0,none⟩),plV (.slice pa pl pc) b key i,.pointer x] w fun e w3 =>
   ∃w2,Q w2∧LayEnd D rv jn iv ch n xs [cloV (252,#[.pointer (some ⟨w.heap.size,0,none⟩)]),.int .i64 1,.slice pa pl pc,.slice none 0 0,.pointer none] w2 e w3:=by
 have HC:=hide hC
 have HQ:=hide hQ
 have HJD:=hide hjD
 have hbx:=heap_alloc_new w (.cells #[.slice pa pl pc,.pointer (some ⟨b,0,none⟩),.string ⟨key.toArray⟩,.int .i64 i] 185)
 have HP:=hide (show PBox (plW w pa pl pc b key i) w.heap.size (.slice pa pl pc) b key i from hbx)
 clear hC hQ hjD hbx
 go_enter Tryz.func205,Tryz.ntmps205
 go_wp2_with (fail)
 refine (unhide HC).mono ?_
 rintro e w2 ⟨rfl,hq⟩
 obtain⟨g1,g2,g3⟩:=unhide HQ w2 hq
 have e0:=g1.c0
 have G2:=hide g2
 have G3:=hide g3
 have HQ2:=hide hq
 clear g1 g2 g3 hq
 go_wp2_with (fail)
 refine (dLay_any (c:=(252,#[.pointer (some ⟨w.heap.size,0,none⟩)])) (unhide G2) (unhide G3) hn (unhide HJD)).mono ?_
 intro e w3 hL
 obtain⟨rfl,hL2⟩:=id hL
 have HL:=hide hL
 clear hL hL2
 go_wp2_with (fail)
 exact bodyPost_end (results_none rfl _ _ _) rfl ⟨w2,unhide HQ2,unhide HL⟩
theorem dRemove_any {Q:World→World→Prop} (hn:n≤1000000000) (hjD:jn.ownBlock≠some D)
  (hG:Calls Tryz.prog 159 #[plV (.slice pa pl pc) b key i] (plW w pa pl pc b key i) fun e w'=>e = .returned (.pointer y)∧Below (w.heap.size+1) (plW w pa pl pc b key i) w')
  (hC:∀w2,Below (w.heap.size+1) (plW w pa pl pc b key i) w2→Calls Tryz.prog 246 #[plV (.slice pa pl pc) b key i] (xW w2 y) fun e w'=>e = .returned (.tuple #[])∧Q w2 w')
  (hQ:∀w2 w3,Below (w.heap.size+1) (plW w pa pl pc b key i) w2→Q w2 w3→PBox w3 w.heap.size (.slice pa pl pc) b key i∧XBox w3 w2.heap.size y∧DB w3 D rv jn ch iv∧w3.ownsRow 0 230 5 jn n xs) :
  Calls Tryz.prog 199 #[.pointer (some ⟨D,0,none⟩),plV (.slice pa pl pc) b key i] w fun e w4 =>
   ∃w2 w3,Below (w.heap.size+1) (plW w pa pl pc b key i) w2∧Q w2 w3∧LayEnd D rv jn iv ch n xs [cloV (248,#[.pointer (some ⟨w.heap.size,0,none⟩),.pointer (some ⟨w2.heap.size,0,none⟩)]),.int .i64 0,.slice pa pl pc,.slice none 0 0,.pointer y] w3 e w4:=by
 have HG:=hide hG
 have HC:=hide hC
 have HQ:=hide hQ
 have HJD:=hide hjD
 have hbx:=heap_alloc_new w (.cells #[.slice pa pl pc,.pointer (some ⟨b,0,none⟩),.string ⟨key.toArray⟩,.int .i64 i] 185)
 have HP:=hide (show PBox (plW w pa pl pc b key i) w.heap.size (.slice pa pl pc) b key i from hbx)
 clear hG hC hQ hjD hbx
 go_enter Tryz.func199,Tryz.ntmps199
 go_wp2_with (fail)
 refine (unhide HG).mono ?_
 rintro e w2 ⟨rfl,hb⟩
 have hp2:PBox w2 w.heap.size (.slice pa pl pc) b key i:=(hb.block _ (by omega)).trans (unhide HP)
 have hlt:w.heap.size<w2.heap.size:=(Array.getElem?_eq_some_iff.1 hp2).1
 have hp3:PBox (xW w2 y) w.heap.size (.slice pa pl pc) b key i:=(Below.heap_alloc w2 _ _ hlt).trans hp2
 have e0:=hp3.c0
 have e1:=hp3.c1
 have e2:=hp3.c2
 have e3:=hp3.c3
 have HB:=hide hb
 clear hb hp2 hp3
 go_wp2_with (fail)
 refine (unhide HC w2 (unhide HB)).mono ?_
 rintro e w3 ⟨rfl,hq⟩
 obtain⟨g0,g1,g2,g3⟩:=unhide HQ w2 w3 (unhide HB) hq
 clear e0 e1 e2 e3
 have e0:=g0.c0
 have e4:=g1.c0
 have G2:=hide g2
 have G3:=hide g3
 have HQ2:=hide hq
 clear g0 g1 g2 g3 hq
 go_wp2_with (fail)
 refine (dLay_any (c:=(248,#[.pointer (some ⟨w.heap.size,0,none⟩),.pointer (some ⟨w2.heap.size,0,none⟩)])) (unhide G2) (unhide G3) hn (unhide HJD)).mono ?_
 intro e w4 hL
 obtain⟨rfl,hL2⟩:=id hL
 have HL:=hide hL
 clear hL hL2
 go_wp2_with (fail)
 exact bodyPost_end (results_none rfl _ _ _) rfl ⟨w2,w3,unhide HB,unhide HQ2,unhide HL⟩
theorem dSwap_any {Q:World→World→Prop} (hn:n≤1000000000) (hjD:jn.ownBlock≠some D)
  (hG:Calls Tryz.prog 159 #[plV (.slice pa pl pc) b key i] (plW w pa pl pc b key i) fun e w'=>e = .returned (.pointer y)∧Below (w.heap.size+1) (plW w pa pl pc b key i) w')
  (hC:∀w2,Below (w.heap.size+1) (plW w pa pl pc b key i) w2→Calls Tryz.prog 250 #[plV (.slice pa pl pc) b key i,.pointer x] (xW w2 y) fun e w'=>e = .returned (.tuple #[])∧Q w2 w')
  (hQ:∀w2 w3,Below (w.heap.size+1) (plW w pa pl pc b key i) w2→Q w2 w3→PBox w3 w.heap.size (.slice pa pl pc) b key i∧XBox w3 w2.heap.size y∧DB w3 D rv jn ch iv∧w3.ownsRow 0 230 5 jn n xs) :
  Calls Tryz.prog 200 #[.pointer (some ⟨D,0,none⟩),plV (.slice pa pl pc) b key i,.pointer x] w fun e w4 =>
   ∃w2 w3,Below (w.heap.size+1) (plW w pa pl pc b key i) w2∧Q w2 w3∧LayEnd D rv jn iv ch n xs [cloV (251,#[.pointer (some ⟨w.heap.size,0,none⟩),.pointer (some ⟨w2.heap.size,0,none⟩)]),.int .i64 2,.slice pa pl pc,.slice none 0 0,.pointer y] w3 e w4:=by
 have HG:=hide hG
 have HC:=hide hC
 have HQ:=hide hQ
 have HJD:=hide hjD
 have hbx:=heap_alloc_new w (.cells #[.slice pa pl pc,.pointer (some ⟨b,0,none⟩),.string ⟨key.toArray⟩,.int .i64 i] 185)
 have HP:=hide (show PBox (plW w pa pl pc b key i) w.heap.size (.slice pa pl pc) b key i from hbx)
 clear hG hC hQ hjD hbx
 go_enter Tryz.func200,Tryz.ntmps200
 go_wp2_with (fail)
 refine (unhide HG).mono ?_
 rintro e w2 ⟨rfl,hb⟩
 have hp2:PBox w2 w.heap.size (.slice pa pl pc) b key i:=(hb.block _ (by omega)).trans (unhide HP)
 have hlt:w.heap.size<w2.heap.size:=(Array.getElem?_eq_some_iff.1 hp2).1
 have hp3:PBox (xW w2 y) w.heap.size (.slice pa pl pc) b key i:=(Below.heap_alloc w2 _ _ hlt).trans hp2
 have e0:=hp3.c0
 have e1:=hp3.c1
 have e2:=hp3.c2
 have e3:=hp3.c3
 have HB:=hide hb
 clear hb hp2 hp3
 go_wp2_with (fail)
 refine (unhide HC w2 (unhide HB)).mono ?_
 rintro e w3 ⟨rfl,hq⟩
 obtain⟨g0,g1,g2,g3⟩:=unhide HQ w2 w3 (unhide HB) hq
 clear e0 e1 e2 e3
 have e0:=g0.c0
 have e4:=g1.c0
 have G2:=hide g2
 have G3:=hide g3
 have HQ2:=hide hq
 clear g0 g1 g2 g3 hq
 go_wp2_with (fail)
 refine (dLay_any (c:=(251,#[.pointer (some ⟨w.heap.size,0,none⟩),.pointer (some ⟨w2.heap.size,0,none⟩)])) (unhide G2) (unhide G3) hn (unhide HJD)).mono ?_
 intro e w4 hL
 obtain⟨rfl,hL2⟩:=id hL
 have HL:=hide hL
 clear hL hL2
 go_wp2_with (fail)
 exact bodyPost_end (results_none rfl _ _ _) rfl ⟨w2,w3,unhide HB,unhide HQ2,unhide HL⟩
end
end
end Go.Proofs.YtdpomdelmdofmaaGreatDoor
