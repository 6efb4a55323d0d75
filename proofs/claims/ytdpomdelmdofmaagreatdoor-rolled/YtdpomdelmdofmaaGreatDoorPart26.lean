/-
  Walk of Clone at an object.
-/
import Derived.Test.YtdpomdelmdofmaaGreatDoorPart25
import Derived.Test.YtdpomdelmdofmaaGreatDoorPart23
import Derived.Test.YtdpomdelmdofmaaGreatDoorPart14
namespace Go.Proofs.YtdpomdelmdofmaaGreatDoor
open Go.RowKit Go.Maps
theorem map_make (n:Nat) (w:World):(Instr.makeMap 109 (some (.int .i64 n))).run Tryz.prog w = .ok (.map (some w.heap.size)) (w.alloc (.map #[] 0)):=by
 simp [Instr.makeMap,run_underlying Tryz.underlying109,asInt,asIntOf,Result.andThen]
theorem obj_within {es es':List (Lit × Sp.V)} (c:Maps.Canon (.map es:DataW Unit)) (c':Maps.Canon (.map es':DataW Unit))
  (h:∀ k,Maps.has (.map es:DataW Unit) k = true → Maps.has (.map es':DataW Unit) k = true ∧ (DataW.map es).atKey k .nil = (DataW.map es').atKey k .nil):∀ p ∈ es,p ∈ es':=by
 obtain ⟨_,he,hp,hk⟩:=c
 injection he with he
 subst he
 obtain ⟨_,he,hp',hk'⟩:=c'
 injection he with he
 subst he
 have hap:=apart_of_rising hp
 have hap':=apart_of_rising hp'
 intro p hpm
 have h1:Maps.has (.map es:DataW Unit) p.1 = true:=List.any_eq_true.2 ⟨p,hpm,WideAt.sameKey_self (hk p hpm)⟩
 obtain ⟨h2,h3⟩:=h p.1 h1
 obtain ⟨q,hq,hs⟩:=List.any_eq_true.1 (show es'.any (fun q=>q.1.sameKey p.1) = true from h2)
 have e1:q.1 = p.1:=WideAt.sameKey_eq hs
 have e2:=WideAt.atKey_mem .nil (hk p hpm) hap (show (p.1,p.2) ∈ es from hpm)
 have e3:=WideAt.atKey_mem .nil (hk' q hq) hap' (show (q.1,q.2) ∈ es' from hq)
 rw [e1] at e3
 rw [e2,e3] at h3
 have:p = q:=Prod.ext e1.symm h3
 rw [this]; exact hq
theorem obj_eq {es es':List (Lit × Sp.V)} (c:Maps.Canon (.map es:DataW Unit)) (c':Maps.Canon (.map es':DataW Unit)) (hh:∀ k,Maps.has (.map es:DataW Unit) k = Maps.has (.map es':DataW Unit) k)
  (h:∀ k,Maps.has (.map es:DataW Unit) k = true → (DataW.map es).atKey k .nil = (DataW.map es').atKey k .nil):es = es':=by
 have s1:=obj_within c c' (fun k hk=>⟨by rw [← hh]; exact hk,h k hk⟩)
 have s2:=obj_within c' c (fun k hk=>⟨by rw [hh]; exact hk,(h k (by rw [hh]; exact hk)).symm⟩)
 obtain ⟨_,he,hp,_⟩:=c
 injection he with he
 subst he
 obtain ⟨_,he,hp',_⟩:=c'
 injection he with he
 subst he
 exact eq_of_mem_rising hp hp' (fun p=>⟨s1 p,s2 p⟩)
theorem key_lit {es:List (Lit × Sp.V)} (c:Maps.Canon (.map es:DataW Unit)) {k:Lit} (h:Maps.has (.map es:DataW Unit) k = true):WideAt.IsKeyLit k:=by
 obtain ⟨_,he,_,hk⟩:=c
 injection he with he
 subst he
 obtain ⟨p,hp,hs⟩:=List.any_eq_true.1 (show es.any (fun p=>p.1.sameKey k) = true from h)
 have:=hk p hp
 rwa [WideAt.sameKey_eq hs] at this
structure ClO (f:Nat) (w:World) (es:List (Lit × Sp.V)) (left:Lit → Bool) (cnt:Nat) (wr:World):Prop where
 bel:Below w.heap.size w wr
 box:VB wr w.heap.size 6 n0 [] (.slice none 0 0) (.map (some (w.heap.size + 1)))
 sz:w.heap.size + 3 ≤ wr.heap.size
 el:∃ n' D' es',n' + cnt ≤ es.length ∧ wr.ownsMap Tryz.prog 9 RV (w.heap.size + 1) n' (.map D') ∧ TrM f (w.heap.size + 3) wr D' es' ∧
  (∀ k,Maps.has (.map es':DataW Unit) k = (Maps.has (.map es:DataW Unit) k && !left k)) ∧ (∀ k,Maps.has (.map es':DataW Unit) k = true → (DataW.map es').atKey k .nil = (DataW.map es).atKey k .nil)
theorem ClO.next {f cnt:Nat} {w wr w1:World} {es:List (Lit × Sp.V)} {left:Lit → Bool} (h:ClO f w es left cnt wr) (hg:wr.grownBy w1 (some (w.heap.size + 2))):ClO f w es left cnt w1:=by
 have hs:=h.sz
 have hs1:=hg.size
 have hk:∀ j,j < wr.heap.size → j ≠ w.heap.size + 2 → w1.heap[j]? = wr.heap[j]?:=fun j h1 h2=>hg.block j h1 (fun e=>h2 (Option.some.inj e))
 refine ⟨⟨hg.os.trans h.bel.os,hg.tape.trans h.bel.tape,hg.output.trans h.bel.output,by omega,fun j hj=>(hk j (by omega) (by omega)).trans (h.bel.block j hj)⟩,h.box.kept (hk _ (by omega) (by omega)),by omega,?_⟩
 obtain ⟨n',D',es',h1,h2,h3,h4,h5⟩:=h.el
 exact ⟨n',D',es',h1,map_kept h2 (hk _ (by omega) (by omega)),h3.move (fun j hj hl=>hk j hl (by omega)),h4,h5⟩
theorem ClO.step {f cnt cnt1:Nat} {w w1 w2:World} {es:List (Lit × Sp.V)} {left:Lit → Bool} (h:ClO f w es left cnt w1) (c:Maps.Canon (.map es:DataW Unit)) (hc:cnt1 < cnt) (hsm:es.length < maxLen)
  {x:Value} {kl:Lit} (hkey:keyOf Tryz.prog 9 x = some kl) (hl:left kl = true) (hh:Maps.has (.map es:DataW Unit) kl = true) {p:Addr} (hb:Below w1.heap.size w1 w2) (hv:Tr f w1.heap.size w2 (.pointer (some p)) ((DataW.map es).atKey kl .nil)) :
  w2.cell? ⟨w.heap.size,6,none⟩ = some (.map (some (w.heap.size + 1))) ∧ ∃ w3,(Instr.mapUpdate 109 (.map (some (w.heap.size + 1))) x (.pointer (some p))).run Tryz.prog w2 = .ok () w3 ∧
   ClO f w es (fun z=>left z && !z.sameKey kl) cnt1 w3 ∧ w2.grownBy w3 (some (w.heap.size + 1)):=by
 have hs:=h.sz
 have hs2:=hb.size
 refine ⟨(h.box.kept (hb.block _ h.box.lt)).c6,?_⟩
 obtain ⟨n',D',es',h1,h2,h3,h4,h5⟩:=h.el
 have h2':=map_kept h2 (hb.block _ (map_lt h2))
 obtain ⟨w3,hrun,ho3,hg⟩:=h2'.update mlaw Tryz.underlying109 (by omega) hkey (val:=.pointer (some p)) (d:=.held (.pointer (some p))) (ps:=[]) rfl
 have hs3:=hg.size
 have hk:∀ j,j < w2.heap.size → j ≠ w.heap.size + 1 → w3.heap[j]? = w2.heap[j]?:=fun j h1 h2=>hg.block j h1 (fun e=>h2 (Option.some.inj e))
 refine ⟨w3,hrun,⟨⟨hg.os.trans (hb.os.trans h.bel.os),hg.tape.trans (hb.tape.trans h.bel.tape),hg.output.trans (hb.output.trans h.bel.output),by omega,fun j hj=>(hk j (by omega) (by omega)).trans ((hb.block j (by omega)).trans (h.bel.block j hj))⟩,
  (h.box.kept (hb.block _ h.box.lt)).kept (hk _ (by omega) (by omega)),by omega,?_⟩,hg⟩
 have kk:=key_lit c hh
 obtain ⟨D2,es2,e1,e2,ht⟩:=h3.put (k:=kl) (w6:=w3) hv (by omega) (fun j j1 j2=>(hk j (by omega) (by omega)).trans (hb.block j j2)) (fun j j1 j2=>hk j j2 (by omega))
 rw [e1] at ho3
 refine ⟨n' + 1,D2,es2,by omega,ho3,ht,?_,?_⟩
 ·intro k
  rw [← e2]
  by_cases hkk:k = kl
  ·subst hkk
   rw [has_put_same ⟨_,rfl⟩ kk,hh,hl,WideAt.sameKey_self kk]; rfl
  ·rw [has_put_other hkk,h4]
   have:k.sameKey kl = false:=by
    cases hx:k.sameKey kl
    ·rfl
    ·exact absurd (WideAt.sameKey_eq hx) hkk
   rw [this]; simp
 ·intro k
  rw [← e2]
  by_cases hkk:k = kl
  ·subst hkk
   intro _
   rw [atKey_put_same ⟨_,rfl⟩ kk]
  ·rw [has_put_other hkk,atKey_put_other hkk]
   exact h5 k
theorem ClO.done {f cnt:Nat} {w wr:World} {es:List (Lit × Sp.V)} {left:Lit → Bool} (h:ClO f w es left cnt wr) (c:Maps.Canon (.map es:DataW Unit)) (hl:∀ k,left k = false):Tr (f + 1) w.heap.size wr (.pointer (some ⟨w.heap.size,0,none⟩)) (Sp.vObj es):=by
 obtain ⟨n',D',es',h1,h2,h3,h4,h5⟩:=h.el
 have c':=h3.pt.canon (h2.canon mlaw)
 have e:es' = es:=obj_eq c' c (fun k=>by rw [h4,hl]; simp) h5
 subst e
 exact h3.obj ⟨Nat.le_refl _,by omega⟩ ⟨by omega,by omega⟩ (by omega) h.box h2
end Go.Proofs.YtdpomdelmdofmaaGreatDoor

namespace Go.Proofs.YtdpomdelmdofmaaGreatDoor
open Go.RowKit Go.Maps
section
variable {w:World} {b:Nat}
set_option maxRecDepth 100000 in
set_option maxHeartbeats 8000000 in
theorem clone_obj {f:Nat} {F:Nat → Prop} {m n:Nat} {D:List (Lit × DataW Value)} {es:List (Lit × Sp.V)} (hS:∀ k,Maps.has (.map es:DataW Unit) k = true → CloneAt f ((DataW.map es).atKey k .nil)) (h:VB w b 6 n0 [] (.slice none 0 0) (.map (some m))) (ho:w.ownsMap Tryz.prog 9 RV m n (.map D)) (hp:Pt (Rep f F w) D es) (hsm:es.length < maxLen) :
  Calls Tryz.prog 201 #[.pointer (some ⟨b,0,none⟩)] w fun e w'=>e = .returned (.pointer (some ⟨w.heap.size,0,none⟩)) ∧ Below w.heap.size w w' ∧ Tr (f + 1) w.heap.size w' (.pointer (some ⟨w.heap.size,0,none⟩)) (Sp.vObj es):=by
 have hml:=mlaw
 have hmz:=mzero
 have hmk:=map_make es.length
 have c0:=h.c0
 have c1:=h.c1
 have c2:=h.c2
 have c3:=h.c3
 have c4:=h.c4
 have c5:=h.c5
 have c6:=h.c6
 have hbl:=h.lt
 have hmb:=map_lt ho
 have l1:=fun (o:Obj) ty=>(ho.alloc o).len (t:=109) Tryz.underlying109 ty
 have hl:=hp.size
 have hsz:Maps.size (.map D:DataW Value) = es.length:=hl
 have C1:=hide (hp.canon (ho.canon hml))
 have HO2:Hid (∀ o1 o2,((w.alloc o1).alloc o2).ownsMap Tryz.prog 9 RV m n (.map D)):=hide (fun o1 o2=>(ho.alloc o1).alloc o2)
 have old:∀ (o:Obj) (j:Nat),(w.alloc o).cell? ⟨b,j,none⟩ = w.cell? ⟨b,j,none⟩:=fun o j=>World.cell?_of_block (w:=w) (Below.heap_alloc w o b hbl)
 have d0:∀ o,(w.alloc o).cell? ⟨b,0,none⟩ = some (.int .i64 6):=fun o=>(old o 0).trans c0
 have d6:∀ o,(w.alloc o).cell? ⟨b,6,none⟩ = some (.map (some m)):=fun o=>(old o 6).trans c6
 have hstart:Hid (∀ w0,((w.alloc (.cells #[.int .i64 6,.bool false,.string ⟨#[]⟩,.int .i64 0,.string ⟨#[]⟩,.slice none 0 0,.map (some (w.heap.size + 1))] 111)).alloc (.map #[] 0)).grownBy w0 none → w0.heap.size = w.heap.size + 3 →
   ClO f w es (has (.map D:DataW Value)) (Maps.size (.map D:DataW Value)) w0):=by
  intro w0 hg hs
  obtain ⟨W1,hW⟩:∃ W1,W1 = w.alloc (.cells #[.int .i64 6,.bool false,.string ⟨#[]⟩,.int .i64 0,.string ⟨#[]⟩,.slice none 0 0,.map (some (w.heap.size + 1))] 111):=⟨_,rfl⟩
  rw [← hW] at hg
  have e1:W1.heap.size = w.heap.size + 1:=by rw [hW]; simp
  have hvb:VB W1 w.heap.size 6 n0 [] (.slice none 0 0) (.map (some (w.heap.size + 1))):=by rw [hW]; exact heap_alloc_new w _
  have hbel:Below w.heap.size w W1:=by rw [hW]; exact (Below.refl _ _).alloc (Nat.le_refl _) _
  have hmade:=World.ownsMap_made W1 Tryz.prog 9 RV
  rw [e1] at hmade
  have hk:∀ j,j < w.heap.size + 2 → w0.heap[j]? = (W1.alloc (.map #[] 0)).heap[j]?:=fun j hj=>hg.block j (by simp; omega) (by simp)
  have hb2:=hbel.alloc (by omega) (.map #[] 0)
  refine ⟨⟨hg.os.trans hb2.os,hg.tape.trans hb2.tape,hg.output.trans hb2.output,by omega,fun j hj=>(hk j (by omega)).trans (hb2.block j hj)⟩,
   (hvb.kept (Below.heap_alloc W1 _ _ hvb.lt)).kept (hk _ (by omega)),by omega,0,[],[],by omega,map_kept hmade (hk _ (by omega)),TrM.nil _ _ _,?_,?_⟩
  ·intro k
   rw [hp.has k]
   cases Maps.has (.map es:DataW Unit) k <;> rfl
  ·intro k hk; cases hk
 have HP:=hide hp
 have HS:=hide hS
 have HSM:=hide hsm
 clear hp hS h ho hsm old hl
 go_enter Tryz.func201,Tryz.ntmps201
 go_wp2_with (first
  | (at_range; refine wpList_range_own _ rfl _ 109 rfl 9 80 hml Tryz.underlying109 RV m n _ rfl (unhide HO2 _ _) ?_; intro w0 hrg0 hg0 hs0)
  | go_in)
 have e0:(((w.alloc (.cells #[.int .i64 6,.bool false,.string ⟨#[]⟩,.int .i64 0,.string ⟨#[]⟩,.slice none 0 0,.map (some (w.heap.size + 1))] 111)).alloc (.map #[] 0))).heap.size = w.heap.size + 2:=by simp
 have hcl:=hide (unhide hstart w0 hg0 (by rw [hs0]; simp))
 rw [e0] at hrg0
 clear hg0 hs0 hstart
 go_loopw [7] (fun _ wr=>∃ (left:Lit → Bool) (cnt:Nat),wr.ranges Tryz.prog 9 RV m (w.heap.size + 2) n (.map D) left cnt ∧ Hid (ClO f w es left cnt wr))
  (fun _ wr=>wr.rangeLeft m (w.heap.size + 2))
 case atStart=>exact ⟨_,_,hrg0,hcl⟩
 case round =>
  obtain ⟨left,cnt,hrg,G⟩:=hrel
  go_wp2_with (first
   | (at_next; refine wpList_next_ranges _ rfl _ rfl 9 hml RV id id (fun key _ _=>⟨key,rfl⟩) (fun v _ _=>⟨v,rfl⟩) m (w.heap.size + 2) n _ _ _ rfl hrg ?_ ?_)
   | go_in)
  ·intro _ hl0
   have HD:=hide ((unhide G).done (unhide C1) hl0)
   have HB:=hide (unhide G).bel
   go_wp2_with (fail)
   go_ret
   exact ⟨rfl,unhide HB,unhide HD⟩
  ·intro x c kl yd yp w1 cnt1 hkey hlx hv hat hrg1 hlt hg1 hs1 hen
   have hv2:DataW.held c = yd:=congrArg Prod.fst (Option.some.inj hv)
   subst hv2
   have hasD:Maps.has (.map D) kl = true:=has_true_of_atKey hat
   obtain ⟨c',e1,hrep⟩:=(unhide HP).at kl hasD
   have e2:c' = c:=by
    have e3:=(e1 .nil).symm.trans (hat .nil)
    injection e3
   subst e2
   have hasE:Maps.has (.map es:DataW Unit) kl = true:=by rw [← (unhide HP).has kl]; exact hasD
   have G1:=(unhide G).next hg1
   have hc1:Hid (∀ wx,Below w.heap.size w wx → Calls Tryz.prog 201 #[c'] wx fun e w'=>∃ p,e = .returned (.pointer (some p)) ∧ Below wx.heap.size wx w' ∧ Tr f wx.heap.size w' (.pointer (some p)) ((DataW.map es).atKey kl .nil)):=hide (fun wx hb=>unhide HS kl hasE F wx c' (hrep.bel hb))
   have HUP:=hide (fun (w2:World) (p:Addr) (hb:Below w1.heap.size w1 w2) (hv:Tr f w1.heap.size w2 (.pointer (some p)) ((DataW.map es).atKey kl .nil))=>G1.step (unhide C1) hlt (unhide HSM) hkey hlx hasE hb hv)
   have qV:=G1.box.c6
   have HB:=hide G1.bel
   clear hat hrep hasE e1 hasD hv
   go_wp2_with (fail)
   go_region_with (go_at_call 201; refine (unhide hc1 _ ?_).mono ?_; exact ⟨(unhide HB).os,(unhide HB).tape,(unhide HB).output,(unhide HB).size,(unhide HB).block⟩; rintro e w2 ⟨p,rfl,hb2,hv2⟩; have hb3:Below w1.heap.size w1 w2:=⟨hb2.os,hb2.tape,hb2.output,hb2.size,hb2.block⟩; obtain ⟨y1,w3,hrun,hcl,hg3⟩:=unhide HUP w2 p hb3 hv2)
   all_goals (
    have hrg3:=(hrg1.kept (grown_of_below hb3) (by simp) (by simp)).kept hg3 (fun e=>by have:=Option.some.inj e; omega) (fun e=>by have:=Option.some.inj e; omega)
    go_wp2_with (fail)
    go_roundw
    case rel=>exact ⟨_,cnt1,hrg3,hcl⟩
    case measure=>rw [hrg3.left_eq,hrg.left_eq]; exact hlt)
end
def Sp.nar:Nat → Sp.V → Prop
 | 0,_=>True
 | f + 1,d=>match d with
  | .slice es _=>es.length ≤ 1000000000000 ∧ ∀ e ∈ es,Sp.nar f e
  | .map es=>es.length ≤ 1000000000000 ∧ ∀ p ∈ es,Sp.nar f p.2
  | _=>True
theorem clone_step {f:Nat} (hS:∀ a,Sp.nar f a → CloneAt f a) (a:Sp.V) (hn:Sp.nar (f + 1) a):CloneAt (f + 1) a:=by
 intro F w v ha
 obtain ⟨b,rfl,_,ha⟩:=ha
 rcases ha with ⟨k,hk,rfl,h⟩ | ⟨n,rfl,h,hbd⟩ | ⟨s,rfl,h⟩ | ⟨es,sl,ps,rfl,h,ho,_,hal⟩ | ⟨es,m,n,D,rfl,h,_,ho,hp⟩
 ·refine (clone_leaf h (by omega) (by omega)).mono ?_
  rintro e w' ⟨rfl,hb,hv⟩
  exact ⟨_,rfl,hb,Tr.leafW (Nat.le_refl _) hk hv⟩
 ·refine (clone_leaf h (by omega) (by omega)).mono ?_
  rintro e w' ⟨rfl,hb,hv⟩
  exact ⟨_,rfl,hb,Tr.leafN (Nat.le_refl _) hv hbd⟩
 ·refine (clone_leaf h (by omega) (by omega)).mono ?_
  rintro e w' ⟨rfl,hb,hv⟩
  exact ⟨_,rfl,hb,Tr.leafS (Nat.le_refl _) hv⟩
 ·obtain ⟨n1,n2⟩:=hn
  refine (clone_arr (fun d hd=>hS d (n2 d hd)) h ho hal (by have:=hal.length; omega)).mono ?_
  rintro e w' ⟨rfl,hb,hv⟩
  exact ⟨_,rfl,hb,hv⟩
 ·obtain ⟨n1,n2⟩:=hn
  refine (clone_obj (fun k hk=>by
   obtain ⟨p,hpm,e⟩:=at_mem hk
   rw [e]; exact hS _ (n2 p hpm)) h ho hp (by unfold maxLen; omega)).mono ?_
  rintro e w' ⟨rfl,hb,hv⟩
  exact ⟨_,rfl,hb,hv⟩
theorem vClone_any:∀ (f:Nat) (a:Sp.V),Sp.nar f a → CloneAt f a
 | 0,_,_=>fun _ _ _ h=>h.elim
 | f + 1,a,hn=>clone_step (vClone_any f) a hn
end Go.Proofs.YtdpomdelmdofmaaGreatDoor

namespace Go.Proofs.YtdpomdelmdofmaaGreatDoor
open Go.RowKit Go.Maps
namespace Sp
def own (n:A):List Nat:=match n with
 | .agg [.lit (.int _ b),.lit (.int _ g),x]=>(match x with
  | .slice _ _=>b.toNat :: (if g = 0 then [] else [g.toNat])
  | .map _=>[b.toNat,g.toNat]
  | _=>[b.toNat])
 | _=>[]
theorem own_arr (b g:Nat) (al:List A):own (nd b g (.slice al [])) = b :: (if g = 0 then [] else [g]):=by
 show (b:Int).toNat :: (if (g:Int) = 0 then [] else [(g:Int).toNat]) = _
 by_cases h:g = 0
 ·subst h; rfl
 ·rw [if_neg h,if_neg (by omega)]; rfl
theorem own_obj (b g:Nat) (es:List (Lit × A)):own (nd b g (.map es)) = [b,g]:=rfl
end Sp
theorem ptrs_of {f:Nat} {w:World}:∀ {ps:List Value} {al:List Sp.A},Al (TRep f w) ps al → ∃ l:List (Option Addr),ps = l.map Value.pointer ∧ l.length = al.length
 | [],[],_=>⟨[],rfl,rfl⟩
 | _ :: _,_ :: _,⟨h,t⟩=>by
  obtain ⟨b,rfl,_⟩:=h.ptr
  obtain ⟨l,rfl,e⟩:=ptrs_of t
  exact ⟨some ⟨b,0,none⟩ :: l,rfl,by simp [e]⟩
theorem Al.take {α β:Type} {P:α → β → Prop}:∀ {l:List α} {m:List β},Al P l m → ∀ i,Al P (l.take i) (m.take i)
 | [],[],_,_=>by simp; trivial
 | _ :: _,_ :: _,_,0=>trivial
 | _ :: _,_ :: _,⟨a,b⟩,i + 1=>⟨a,Al.take b i⟩
theorem Al.drop {α β:Type} {P:α → β → Prop}:∀ {l:List α} {m:List β},Al P l m → ∀ i,Al P (l.drop i) (m.drop i)
 | [],[],_,_=>by simp; trivial
 | _ :: _,_ :: _,h,0=>h
 | _ :: _,_ :: _,⟨_,b⟩,i + 1=>Al.drop b i
theorem Al.lins {α β:Type} {P:α → β → Prop} {l:List α} {m:List β} (h:Al P l m) (i:Nat) {a:α} {b:β} (hab:P a b):Al P (Sp.lins i a l) (Sp.lins i b m):=Al.append (h.take i) ⟨hab,h.drop i⟩
theorem Al.ldel {α β:Type} {P:α → β → Prop} {l:List α} {m:List β} (h:Al P l m) (i:Nat):Al P (Sp.ldel i l) (Sp.ldel i m):=Al.append (h.take i) (h.drop (i + 1))
theorem Al.set {α β:Type} {P:α → β → Prop}:∀ {l:List α} {m:List β},Al P l m → ∀ (i:Nat) {a:α} {b:β},P a b → Al P (l.set i a) (m.set i b)
 | [],[],_,_,_,_,_=>trivial
 | _ :: _,_ :: _,⟨_,t⟩,0,_,_,h=>⟨h,t⟩
 | _ :: _,_ :: _,⟨h0,t⟩,i + 1,_,_,h=>⟨h0,Al.set t i h⟩
theorem map_norm {w:World} {m n:Nat} {D:List (Lit × DataW Value)} (h:w.ownsMap Tryz.prog 9 RV m n (.map D)):w.ownsMap Tryz.prog 9 RV m D.length (.map D):=by
 obtain ⟨es,clock,hb,F,hs,e⟩:=h
 refine ⟨es,clock,hb,F,?_,e⟩
 injection e with e
 rw [e,length_read]
 exact Nat.le_refl _
structure EdOk (f:Nat) (w w':World) (u:Value) (n n':Sp.A) (Z:Nat → Prop):Prop where
 tr:TRep (f + 1) w' u n'
 nd:(Sp.fp (f + 1) n').Nodup
 sub:∀ k ∈ Sp.fp (f + 1) n',k ∈ Sp.fp (f + 1) n ∨ Z k ∨ w.heap.size ≤ k
 kept:KeptF (fun k=>k ∈ Sp.own n) w w'
theorem own_fp {f:Nat} {w:World} {u:Value} {n:Sp.A} (h:TRep (f + 1) w u n):∀ k ∈ Sp.own n,k ∈ Sp.fp (f + 1) n:=by
 obtain ⟨b,g,x,rfl,hv,h⟩:=h
 rcases h with ⟨j,_,_,rfl,h⟩ | ⟨n,_,rfl,h,hbd⟩ | ⟨s,_,rfl,h⟩ | ⟨al,sl,ps,rfl,_⟩ | ⟨es,n,D,rfl,_⟩
 ·intro k hk; exact hk
 ·intro k hk; exact hk
 ·intro k hk; exact hk
 ·intro k hk
  rw [Sp.own_arr] at hk
  rw [Sp.fp_arr]
  rcases List.mem_cons.1 hk with rfl | hk
  ·simp
  ·exact List.mem_cons_of_mem _ (List.mem_append_left _ hk)
 ·intro k hk
  rw [Sp.own_obj] at hk
  rw [Sp.fp_obj]
  rcases List.mem_cons.1 hk with rfl | hk
  ·simp
  ·have:k = g:=by simpa using hk
   subst this; simp
theorem own_kid {f:Nat} {n c:Sp.A} {w:World} {u:Value} (h:TRep (f + 1) w u n) (hn:(Sp.fp (f + 1) n).Nodup) (hc:c ∈ Sp.kids n):∀ k ∈ Sp.own n,k ∉ Sp.fp f c:=by
 obtain ⟨b,g,x,rfl,hv,h⟩:=h
 rcases h with ⟨j,_,_,rfl,h⟩ | ⟨n,_,rfl,h,hbd⟩ | ⟨s,_,rfl,h⟩ | ⟨al,sl,ps,rfl,_⟩ | ⟨es,n,D,rfl,_⟩
 ·rw [Sp.kids_word] at hc; cases hc
 ·rw [Sp.kids_num] at hc; cases hc
 ·rw [Sp.kids_str] at hc; cases hc
 ·rw [Sp.kids_arr] at hc
  rw [Sp.fp_arr] at hn
  obtain ⟨n1,n2⟩:=List.nodup_cons.1 hn
  obtain ⟨_,_,n3⟩:=List.nodup_append.1 n2
  intro k hk hkc
  have hm:k ∈ al.flatMap (Sp.fp f):=List.mem_flatMap.2 ⟨c,hc,hkc⟩
  rw [Sp.own_arr] at hk
  rcases List.mem_cons.1 hk with rfl | hk
  ·exact n1 (List.mem_append_right _ hm)
  ·exact n3 k hk k hm rfl
 ·rw [Sp.kids_obj] at hc
  obtain ⟨p,hp,rfl⟩:=List.mem_map.1 hc
  rw [Sp.fp_obj] at hn
  obtain ⟨n1,n2⟩:=List.nodup_cons.1 hn
  obtain ⟨n3,_⟩:=List.nodup_cons.1 n2
  intro k hk hkc
  have hm:k ∈ es.flatMap (fun p=>Sp.fp f p.2):=List.mem_flatMap.2 ⟨p,hp,hkc⟩
  rw [Sp.own_obj] at hk
  rcases List.mem_cons.1 hk with rfl | hk
  ·exact n1 (List.mem_cons_of_mem _ hm)
  ·have:k = g:=by simpa using hk
   subst this; exact n3 hm
theorem arr_ed {f b g g':Nat} {w w':World} {u:Value} {al al':List Sp.A} {l':List (Option Addr)} {sl':Value} {Z:Nat → Prop} (h:TRep (f + 1) w u (Sp.nd b g (.slice al []))) (hvb:VB w' b 5 n0 [] sl' (.map none)) (ho:w'.ownsRow 0 80 1 sl' l'.length (l'.map Value.pointer)) (hs:sl'.ownBlock = if g' = 0 then none else some g')
  (hal:Al (TRep f w') (l'.map Value.pointer) al') (hg:g' = g ∨ w.heap.size ≤ g') (hnd:(b :: ((if g' = 0 then [] else [g']) ++ al'.flatMap (Sp.fp f))).Nodup) (hZ:∀ k ∈ al'.flatMap (Sp.fp f),k ∈ al.flatMap (Sp.fp f) ∨ Z k) (hk:KeptF (fun k=>k ∈ Sp.own (Sp.nd b g (.slice al []))) w w') :
  EdOk f w w' u (Sp.nd b g (.slice al [])) (Sp.nd b g' (.slice al' [])) Z:=by
 obtain ⟨b2,g2,x2,e,rfl,_⟩:=h
 unfold Sp.nd at e; injection e with e; injection e with e _; injection e with e; injection e with _ e
 obtain rfl:b = b2:=by omega
 refine ⟨⟨b,g',_,rfl,rfl,Or.inr (Or.inr (Or.inr (Or.inl ⟨al',sl',l'.map Value.pointer,rfl,hvb,by rw [List.length_map]; exact ho,hs,hal⟩)))⟩,by rw [Sp.fp_arr]; exact hnd,?_,hk⟩
 intro k hkm
 rw [Sp.fp_arr] at hkm ⊢
 rcases List.mem_cons.1 hkm with rfl | hkm
 ·exact Or.inl (by simp)
 ·rcases List.mem_append.1 hkm with hkm | hkm
  ·split at hkm
   ·cases hkm
   ·rename_i h0
    obtain rfl:k = g':=by simpa using hkm
    rcases hg with rfl | hg
    ·exact Or.inl (by simp [h0])
    ·exact Or.inr (Or.inr hg)
  ·rcases hZ k hkm with h | h
   ·exact Or.inl (List.mem_cons_of_mem _ (List.mem_append_right _ h))
   ·exact Or.inr (Or.inl h)
end Go.Proofs.YtdpomdelmdofmaaGreatDoor

namespace Go.Proofs.YtdpomdelmdofmaaGreatDoor
open Go.RowKit Go.Maps
theorem flat_perm {α β:Type} (q:α → List β) {l m:List α} (h:l.Perm m):(l.flatMap q).Perm (m.flatMap q):=h.flatMap_right q
theorem nodup_make {b:Nat} {G Y:List Nat} (h1:Y.Nodup) (h2:b ∉ Y) (h3:b ∉ G) (h4:G.Nodup) (h5:∀ k ∈ G,k ∉ Y):(b :: (G ++ Y)).Nodup :=
 List.nodup_cons.2 ⟨fun hm=>(List.mem_append.1 hm).elim h3 h2,List.nodup_append.2 ⟨h4,h1,fun x hx _ hy e=>h5 x hx (e ▸ hy)⟩⟩
theorem one_nodup (g:Nat):(if g = 0 then ([]:List Nat) else [g]).Nodup:=by split <;> simp
theorem arr_parts {f b g:Nat} {al:List Sp.A} (hn:(Sp.fp (f + 1) (Sp.nd b g (.slice al []))).Nodup):(al.flatMap (Sp.fp f)).Nodup ∧ b ∉ al.flatMap (Sp.fp f) ∧ b ≠ (if g = 0 then b + 1 else g) ∧ ∀ k ∈ (if g = 0 then ([]:List Nat) else [g]),k ∉ al.flatMap (Sp.fp f):=by
 rw [Sp.fp_arr] at hn
 obtain ⟨n1,n2⟩:=List.nodup_cons.1 hn
 obtain ⟨n3,n4,n5⟩:=List.nodup_append.1 n2
 refine ⟨n4,fun h=>n1 (List.mem_append_right _ h),?_,fun k hk h=>n5 k hk k h rfl⟩
 split
 ·omega
 ·rename_i h0
  rintro rfl
  exact n1 (List.mem_append_left _ (by simp [h0]))
theorem Al.bel {f:Nat} {w w':World} {ps:List Value} {al:List Sp.A} (h:Al (TRep f w) ps al) (hk:∀ k ∈ al.flatMap (Sp.fp f),w'.heap[k]? = w.heap[k]?):Al (TRep f w') ps al :=
 Al.mem (fun _ c hc hu=>hu.move fun k hkc=>hk k (List.mem_flatMap.2 ⟨c,hc,hkc⟩)) h
section
variable {f:Nat} {w:World} {u:Value} {n c:Sp.A} {pth:Value} {b i:Nat} {key:Sp.By} {x:Option Addr}
theorem setA {g:Nat} {al:List Sp.A} (h:TRep (f + 1) w u (Sp.nd b g (.slice al []))) (hn:(Sp.fp (f + 1) (Sp.nd b g (.slice al []))).Nodup) (hi:i < al.length) (hc:TRep f w (.pointer x) c) (hcn:(Sp.fp f c).Nodup) (hcd:∀ k ∈ Sp.fp f c,k ∉ Sp.fp (f + 1) (Sp.nd b g (.slice al []))) :
  Calls Tryz.prog 250 #[plV pth b key i,.pointer x] w fun e w'=>e = .returned (.tuple #[]) ∧ EdOk f w w' u (Sp.nd b g (.slice al [])) (Sp.nd b g (.slice (al.set i c) [])) (fun k=>k ∈ Sp.fp f c):=by
 have h0:=h
 obtain ⟨p1,p2,p3,p4⟩:=arr_parts hn
 obtain ⟨b2,g2,x2,e,hu,h⟩:=h
 unfold Sp.nd at e; injection e with e; injection e with e1 e; injection e with e2 e; injection e with e3 _
 injection e1 with e1; injection e1 with _ e1; injection e2 with e2; injection e2 with _ e2
 obtain rfl:b = b2:=by omega
 obtain rfl:g = g2:=by omega
 rcases h with ⟨j,_,_,rfl,_⟩ | ⟨n,_,rfl,_⟩ | ⟨s,_,rfl,_⟩ | ⟨al2,sl,ps,rfl,hvb,ho,hs,ha⟩ | ⟨es,n,D,rfl,_⟩
 ·cases e3
 ·cases e3
 ·cases e3
 ·injection e3 with e3 _
  subst e3
  have hl:=ha.length
  refine (set_arr (pth:=pth) (key:=key) (pu:=x) hvb ho (show i < ps.length by omega)).mono ?_
  rintro e w' ⟨rfl,g3,hg3,ho',hk⟩
  obtain ⟨rfl,h00⟩:=own_if hs hg3
  have hbg:b ≠ g3:=by rw [if_neg h00] at p3; exact p3
  have hold:∀ k,k < w.heap.size → k ≠ g3 → w'.heap[k]? = w.heap[k]?:=fun k hk1 hk2=>hk.block k hk1 (fun e=>hk2 (Option.some.inj e))
  have hgc:g3 ∉ Sp.fp f c:=fun hm=>hcd g3 hm (by rw [Sp.fp_arr]; simp [h00])
  have ha':Al (TRep f w') ps al:=ha.bel fun k hkm=>hold k (ha.lts k hkm) (fun e=>p4 g3 (by simp [h00]) (e ▸ hkm))
  have hc':TRep f w' (.pointer x) c:=hc.move fun k hkm=>hold k (hc.lt k hkm) (fun e=>hgc (e ▸ hkm))
  obtain ⟨l,hpl,hll⟩:=ptrs_of (ha'.set i hc')
  obtain ⟨old,hold2⟩:∃ old,al[i]? = some old:=⟨_,List.getElem?_eq_getElem hi⟩
  have q1:=flat_perm (Sp.fp f) (Sp.perm_lset c hold2)
  have q2:=flat_perm (Sp.fp f) (Sp.perm_ldel hold2)
  rw [List.flatMap_cons] at q1 q2
  have r1:=List.nodup_append.1 (q2.nodup_iff.1 p1)
  have hmem:∀ k ∈ (al.set i c).flatMap (Sp.fp f),k ∈ al.flatMap (Sp.fp f) ∨ k ∈ Sp.fp f c:=fun k hkm=>by
   rcases List.mem_append.1 (q1.mem_iff.1 hkm) with h | h
   ·exact Or.inr h
   ·exact Or.inl (q2.mem_iff.2 (List.mem_append_right _ h))
  have hnin:∀ k ∈ al.flatMap (Sp.fp f),k ∈ Sp.fp (f + 1) (Sp.nd b g3 (.slice al [])):=fun k hkm=>by rw [Sp.fp_arr]; exact List.mem_cons_of_mem _ (List.mem_append_right _ hkm)
  refine ⟨rfl,arr_ed (l':=l) (sl':=sl) h0 (hvb.kept (hold b hvb.lt hbg)) ?_ hs (by rw [← hpl]; exact ha'.set i hc') (Or.inl rfl) (nodup_make ?_ ?_ ?_ (one_nodup _) ?_) hmem ?_⟩
  ·rw [← hpl,hll]
   have:(al.set i c).length = ps.length:=by simp [hl]
   rw [this]; exact ho'
  ·exact q1.nodup_iff.2 (List.nodup_append.2 ⟨hcn,r1.2.1,fun y hy z hz e=>hcd y hy (hnin _ (q2.mem_iff.2 (List.mem_append_right _ (e ▸ hz))))⟩)
  ·intro hm
   rcases hmem b hm with h | h
   ·exact p2 h
   ·exact hcd b h (by rw [Sp.fp_arr]; simp)
  ·rw [if_neg h00]; simpa using hbg
  ·intro k hk2 hm
   rcases hmem k hm with h | h
   ·exact p4 k hk2 h
   ·rw [if_neg h00] at hk2
    have:k = g3:=by simpa using hk2
    subst this; exact hgc h
  ·exact ⟨hk.os,hk.tape,hk.output,hk.size,fun k hk1 hk2=>hold k hk1 (fun e=>hk2 (by rw [Sp.own_arr,if_neg h00,e]; simp))⟩
 ·cases e3
theorem arrEnd_ed {g:Nat} {al al':List Sp.A} {sl:Value} {l l':List (Option Addr)} {w':World} {Z:Nat → Prop} {e:Ending} (h0:TRep (f + 1) w u (Sp.nd b g (.slice al []))) (hn:(Sp.fp (f + 1) (Sp.nd b g (.slice al []))).Nodup) (hs:sl.ownBlock = if g = 0 then none else some g) (ha:Al (TRep f w) (l.map Value.pointer) al)
  (hend:ArrEnd b sl l' w e w') (hal:∀ W:World,(∀ k,k < w.heap.size → k ≠ b → sl.ownBlock ≠ some k → W.heap[k]? = w.heap[k]?) → Al (TRep f W) (l'.map Value.pointer) al') (hY:(al'.flatMap (Sp.fp f)).Nodup) (hmem:∀ k ∈ al'.flatMap (Sp.fp f),k ∈ al.flatMap (Sp.fp f) ∨ Z k) (hZ:∀ k,Z k → k < w.heap.size ∧ k ∉ Sp.fp (f + 1) (Sp.nd b g (.slice al []))) (hpos:0 < w.heap.size) :
  e = .returned (.tuple #[]) ∧ ∃ g',(g' = g ∨ w.heap.size ≤ g') ∧ EdOk f w w' u (Sp.nd b g (.slice al [])) (Sp.nd b g' (.slice al' [])) Z:=by
 obtain ⟨p1,p2,p3,p4⟩:=arr_parts hn
 obtain ⟨rfl,g2,cap,hvb,ho,hor,hk⟩:=hend
 have hbm:b ∈ Sp.fp (f + 1) (Sp.nd b g (.slice al [])):=by rw [Sp.fp_arr]; simp
 have hg2:(sl.ownBlock = some g2 ∧ g2 = g ∧ g ≠ 0) ∨ w.heap.size ≤ g2:=by
  rcases hor with h | h
  ·obtain ⟨e1,e2⟩:=own_if hs h
   exact Or.inl ⟨h,e1,e2⟩
  ·exact Or.inr h
 have hg20:g2 ≠ 0:=by
  rcases hg2 with ⟨_,rfl,h⟩ | h
  ·exact h
  ·omega
 have hlt:∀ k ∈ al.flatMap (Sp.fp f),k < w.heap.size:=ha.lts
 have hbl:b < w.heap.size:=h0.lt b hbm
 refine ⟨rfl,g2,hg2.imp (fun h=>h.2.1) id,arr_ed (l':=l') h0 hvb ho (by rw [if_neg hg20]; rfl) (hal w' fun k hk1 hk2 hk3=>hk.block k hk1 (fun h=>h.elim hk2 hk3)) (hg2.imp (fun h=>h.2.1) id) (nodup_make hY ?_ ?_ (one_nodup _) ?_) hmem ?_⟩
 ·intro hm
  rcases hmem b hm with h | h
  ·exact p2 h
  ·exact (hZ b h).2 hbm
 ·rw [if_neg hg20]
  intro hm
  obtain rfl:b = g2:=by simpa using hm
  rcases hg2 with ⟨_,rfl,h⟩ | h
  ·rw [if_neg h] at p3; exact p3 rfl
  ·omega
 ·intro k hk2 hm
  rw [if_neg hg20] at hk2
  obtain rfl:k = g2:=by simpa using hk2
  rcases hg2 with ⟨_,rfl,h0⟩ | h
  ·rcases hmem k hm with h | h
   ·exact p4 k (by simp [h0]) h
   ·exact (hZ k h).2 (by rw [Sp.fp_arr]; simp [h0])
  ·rcases hmem k hm with h' | h'
   ·have:=hlt k h'; omega
   ·have:=(hZ k h').1; omega
 ·refine hk.mono fun k hk2=>?_
  rw [Sp.own_arr]
  rcases hk2 with rfl | h
  ·simp
  ·obtain ⟨rfl,h9⟩:=own_if hs h
   simp [h9]
theorem insA {g:Nat} {al:List Sp.A} (h:TRep (f + 1) w u (Sp.nd b g (.slice al []))) (hn:(Sp.fp (f + 1) (Sp.nd b g (.slice al []))).Nodup) (hi:i ≤ al.length) (hb:al.length ≤ 1000000000000) (hc:TRep f w (.pointer x) c) (hcn:(Sp.fp f c).Nodup) (hcd:∀ k ∈ Sp.fp f c,k ∉ Sp.fp (f + 1) (Sp.nd b g (.slice al []))) :
  Calls Tryz.prog 249 #[plV pth b key i,.pointer x] w fun e w'=>e = .returned (.tuple #[]) ∧ ∃ g',(g' = g ∨ w.heap.size ≤ g') ∧ EdOk f w w' u (Sp.nd b g (.slice al [])) (Sp.nd b g' (.slice (Sp.lins i c al) [])) (fun k=>k ∈ Sp.fp f c):=by
 have h0:=h
 obtain ⟨b2,g2,x2,e,hu,h⟩:=h
 unfold Sp.nd at e; injection e with e; injection e with e1 e; injection e with e2 e; injection e with e3 _
 injection e1 with e1; injection e1 with _ e1; injection e2 with e2; injection e2 with _ e2
 obtain rfl:b = b2:=by omega
 obtain rfl:g = g2:=by omega
 rcases h with ⟨j,_,_,rfl,_⟩ | ⟨n,_,rfl,_⟩ | ⟨s,_,rfl,_⟩ | ⟨al2,sl,ps,rfl,hvb,ho,hs,ha⟩ | ⟨es,n,D,rfl,_⟩
 ·cases e3
 ·cases e3
 ·cases e3
 ·injection e3 with e3 _
  subst e3
  obtain ⟨l,rfl,hl⟩:=ptrs_of ha
  rw [List.length_map] at ho
  obtain ⟨p1,p2,p3,p4⟩:=arr_parts hn
  have hbs:sl.ownBlock ≠ some b:=fun h=>by
   obtain ⟨rfl,h9⟩:=own_if hs h
   rw [if_neg h9] at p3; exact p3 rfl
  refine (insert_arr (pth:=pth) (key:=key) (x:=x) hvb ho (show i ≤ l.length by omega) (by omega) hbs).mono ?_
  intro e w' hend
  have q1:=flat_perm (Sp.fp f) (Sp.perm_lins i c al)
  rw [List.flatMap_cons] at q1
  have hnin:∀ k ∈ al.flatMap (Sp.fp f),k ∈ Sp.fp (f + 1) (Sp.nd b g (.slice al [])):=fun k hkm=>by rw [Sp.fp_arr]; exact List.mem_cons_of_mem _ (List.mem_append_right _ hkm)
  have hown:∀ k,k = b ∨ sl.ownBlock = some k → k ∈ Sp.fp (f + 1) (Sp.nd b g (.slice al [])):=fun k hk=>by
   rw [Sp.fp_arr]
   rcases hk with rfl | h
   ·simp
   ·obtain ⟨rfl,h9⟩:=own_if hs h
    simp [h9]
  have hnot:∀ k ∈ al.flatMap (Sp.fp f),k ≠ b ∧ sl.ownBlock ≠ some k:=fun k hkm=>⟨fun e=>p2 (e ▸ hkm),fun h=>by
   obtain ⟨rfl,h9⟩:=own_if hs h
   exact p4 k (by simp [h9]) hkm⟩
  refine arrEnd_ed h0 hn hs ha hend (fun W hW=>?_) ?_ ?_ (fun k hk=>⟨hc.lt k hk,hcd k hk⟩) (by have:=hvb.lt; omega)
  ·have ha':Al (TRep f W) (l.map Value.pointer) al:=ha.bel fun k hkm=>hW k (ha.lts k hkm) (hnot k hkm).1 (hnot k hkm).2
   have hc':TRep f W (.pointer x) c:=hc.move fun k hkm=>hW k (hc.lt k hkm) (fun e=>hcd k hkm (hown k (Or.inl e))) (fun e=>hcd k hkm (hown k (Or.inr e)))
   rw [Sp.map_lins]
   exact ha'.lins i hc'
  ·exact q1.nodup_iff.2 (List.nodup_append.2 ⟨hcn,p1,fun y hy z hz e=>hcd y hy (hnin _ (e ▸ hz))⟩)
  ·intro k hkm
   rcases List.mem_append.1 (q1.mem_iff.1 hkm) with h | h
   ·exact Or.inr h
   ·exact Or.inl h
 ·cases e3
theorem remA {g:Nat} {al:List Sp.A} (h:TRep (f + 1) w u (Sp.nd b g (.slice al []))) (hn:(Sp.fp (f + 1) (Sp.nd b g (.slice al []))).Nodup) (hi:i < al.length) :
  Calls Tryz.prog 246 #[plV pth b key i] w fun e w'=>e = .returned (.tuple #[]) ∧ ∃ g',(g' = g ∨ w.heap.size ≤ g') ∧ EdOk f w w' u (Sp.nd b g (.slice al [])) (Sp.nd b g' (.slice (Sp.ldel i al) [])) (fun _=>False):=by
 have h0:=h
 obtain ⟨b2,g2,x2,e,hu,h⟩:=h
 unfold Sp.nd at e; injection e with e; injection e with e1 e; injection e with e2 e; injection e with e3 _
 injection e1 with e1; injection e1 with _ e1; injection e2 with e2; injection e2 with _ e2
 obtain rfl:b = b2:=by omega
 obtain rfl:g = g2:=by omega
 rcases h with ⟨j,_,_,rfl,_⟩ | ⟨n,_,rfl,_⟩ | ⟨s,_,rfl,_⟩ | ⟨al2,sl,ps,rfl,hvb,ho,hs,ha⟩ | ⟨es,n,D,rfl,_⟩
 ·cases e3
 ·cases e3
 ·cases e3
 ·injection e3 with e3 _
  subst e3
  obtain ⟨l,rfl,hl⟩:=ptrs_of ha
  rw [List.length_map] at ho
  obtain ⟨p1,p2,p3,p4⟩:=arr_parts hn
  have hbs:sl.ownBlock ≠ some b:=fun h=>by
   obtain ⟨rfl,h9⟩:=own_if hs h
   rw [if_neg h9] at p3; exact p3 rfl
  refine (remove_arr (pth:=pth) (key:=key) hvb ho (show i < l.length by omega) hbs).mono ?_
  intro e w' hend
  obtain ⟨old,hold2⟩:∃ old,al[i]? = some old:=⟨_,List.getElem?_eq_getElem hi⟩
  have q2:=flat_perm (Sp.fp f) (Sp.perm_ldel hold2)
  rw [List.flatMap_cons] at q2
  have r1:=List.nodup_append.1 (q2.nodup_iff.1 p1)
  have hnot:∀ k ∈ al.flatMap (Sp.fp f),k ≠ b ∧ sl.ownBlock ≠ some k:=fun k hkm=>⟨fun e=>p2 (e ▸ hkm),fun h=>by
   obtain ⟨rfl,h9⟩:=own_if hs h
   exact p4 k (by simp [h9]) hkm⟩
  refine arrEnd_ed h0 hn hs ha hend (fun W hW=>?_) r1.2.1 (fun k hkm=>Or.inl (q2.mem_iff.2 (List.mem_append_right _ hkm))) (fun _ h=>h.elim) (by have:=hvb.lt; omega)
  have ha':Al (TRep f W) (l.map Value.pointer) al:=ha.bel fun k hkm=>hW k (ha.lts k hkm) (hnot k hkm).1 (hnot k hkm).2
  rw [Sp.map_ldel]
  exact ha'.ldel i
 ·cases e3
end
end Go.Proofs.YtdpomdelmdofmaaGreatDoor
