/-
  Which blocks of a tree are maps; all the others are cells.
-/
import Derived.Test.YtdpomdelmdofmaaGreatDoorMrg17
import Derived.RangeFuncOwn
import Derived.Test.YtdpomdelmdofmaaGreatDoorMrg21
namespace Go.Proofs.YtdpomdelmdofmaaGreatDoor
section
open Go.RowKit Go.Maps
namespace Sp
def mps:Nat→A→List Nat
 | 0,_=>[]
 | f+1,a=>match a with
  | .agg [.lit (.int _ _),.lit (.int _ g),x]=>(match x with
   | .slice al _=>al.flatMap (mps f)
   | .map es=>g.toNat::es.flatMap (fun p=>mps f p.2)
   | _=>[])
  | _=>[]
theorem mps_arr (f b g:Nat) (al:List A):mps (f+1) (nd b g (.slice al []))=al.flatMap (mps f):=rfl
theorem mps_obj (f b g:Nat) (es:List (Lit×A)):mps (f+1) (nd b g (.map es))=g::es.flatMap (fun p=>mps f p.2):=rfl
end Sp
theorem TRep.maps {w:World}:∀ {f:Nat} {v:Value} {a:Sp.A},TRep f w v a→(∀k∈Sp.mps f a,k∈Sp.fp f a) ∧ ∀k∈Sp.fp f a,k∈Sp.mps f a ∨ ∃o,w.heap[k]? = some o∧o.isCells=true
 | 0,_,_,h=>h.elim
 | f+1,v,a,h=>by
  obtain⟨b,g,x,rfl,hv,h⟩:=h
  rcases h with⟨j,_,_,rfl,h⟩|⟨n,_,rfl,h,_⟩|⟨s,_,rfl,h⟩|⟨al,sl,ps,rfl,h,ho,hs,ha⟩|⟨es,n,D,rfl,h,ho,hp⟩
  ·refine⟨fun k hk=>(by cases hk),fun k hk=>Or.inr ?_⟩
   rw[Sp.fp_word] at hk
   obtain rfl:k=b:=by simpa using hk
   exact⟨_,h,rfl⟩
  ·refine⟨fun k hk=>(by cases hk),fun k hk=>Or.inr ?_⟩
   rw[Sp.fp_num] at hk
   obtain rfl:k=b:=by simpa using hk
   exact⟨_,h,rfl⟩
  ·refine⟨fun k hk=>(by cases hk),fun k hk=>Or.inr ?_⟩
   rw[Sp.fp_str] at hk
   obtain rfl:k=b:=by simpa using hk
   exact⟨_,h,rfl⟩
  ·rw[Sp.fp_arr,Sp.mps_arr]
   refine⟨fun k hk=>?_,fun k hk=>?_⟩
   ·obtain⟨c,hc,hkc⟩:=List.mem_flatMap.1 hk
    obtain⟨u,hu⟩:=ha.right hc
    exact List.mem_cons_of_mem _ (List.mem_append_right _ (List.mem_flatMap.2 ⟨c,hc,(TRep.maps hu).1 k hkc⟩))
   ·rcases List.mem_cons.1 hk with rfl|hk
    ·exact Or.inr ⟨_,h,rfl⟩
    ·rcases List.mem_append.1 hk with hk|hk
     ·split at hk
      ·cases hk
      ·rename_i h0
       obtain rfl:k=g:=by simpa using hk
       rw[if_neg h0] at hs
       rcases ho.2 with⟨h1,_⟩|⟨g',cap,cur,h1,_,h3,_⟩
       ·rw[h1] at hs;cases hs
       ·rw[h1] at hs
        injection hs with hs
        subst hs
        exact Or.inr ⟨_,h3,rfl⟩
     ·obtain⟨c,hc,hkc⟩:=List.mem_flatMap.1 hk
      obtain⟨u,hu⟩:=ha.right hc
      exact ((TRep.maps hu).2 k hkc).imp (fun hm=>List.mem_flatMap.2 ⟨c,hc,hm⟩) id
  ·rw[Sp.fp_obj,Sp.mps_obj]
   refine⟨fun k hk=>?_,fun k hk=>?_⟩
   ·rcases List.mem_cons.1 hk with rfl|hk
    ·simp
    ·obtain⟨p,hpm,hkc⟩:=List.mem_flatMap.1 hk
     obtain⟨u,hu⟩:=hp.right hpm
     exact List.mem_cons_of_mem _ (List.mem_cons_of_mem _ (List.mem_flatMap.2 ⟨p,hpm,(TRep.maps hu).1 k hkc⟩))
   ·rcases List.mem_cons.1 hk with rfl|hk
    ·exact Or.inr ⟨_,h,rfl⟩
    ·rcases List.mem_cons.1 hk with rfl|hk
     ·exact Or.inl (by simp)
     ·obtain⟨p,hpm,hkc⟩:=List.mem_flatMap.1 hk
      obtain⟨u,hu⟩:=hp.right hpm
      exact ((TRep.maps hu).2 k hkc).imp (fun hm=>List.mem_cons_of_mem _ (List.mem_flatMap.2 ⟨p,hpm,hm⟩)) id
end

section
open Go.RowKit Go.Maps
theorem TreeAt.less {L:Nat} {v:Value} {T:Sp.A} {M M' N:Nat→Prop} {wk w:World} (h:TreeAt L v T M' N wk w) (hM:∀k,M k→M' k):TreeAt L v T M N wk w:=by
 obtain⟨T',e,h1,h2,h3⟩:=h.tree
 exact⟨⟨T',e,h1,h2,fun k hk=>⟨fun hm=>(h3 k hk).1 (hM k hm),(h3 k hk).2⟩⟩,fun k hm=>h.held k (hM k hm),fun k hm=>h.low k (hM k hm)⟩
def Und (L:Nat) (B:Nat) (v:Value) (Tb:Sp.A) (Mb:Nat→Prop) (wb:World):List Clo→Sp.A→(Nat→Prop)→World→Prop
 | [],T,M,wk=>∀N w,TreeAt L v T M N wk w→TreeAt L v Tb Mb N wb w
 | c::r,T,M,wk=>∃T0 M0 wk0,Und L B v Tb Mb wb r T0 M0 wk0∧Back L v c.1 c.2 T0 T M0 M wk0 wk∧(∀k,M0 k→M k)∧(∀k∈Sp.mps L T0,k<B)∧Ent c.1
theorem Und.up {L B B':Nat} {v:Value} {Tb:Sp.A} {Mb:Nat→Prop} {wb:World} (hB:B≤B'):∀ {cs:List Clo} {T:Sp.A} {M:Nat→Prop} {wk:World},Und L B v Tb Mb wb cs T M wk→Und L B' v Tb Mb wb cs T M wk
 | [],_,_,_,h=>h
 | _::_,_,_,_,⟨T0,M0,wk0,h1,h2,h3,h4,h5⟩=>⟨T0,M0,wk0,Und.up hB h1,h2,h3,fun k hk=>Nat.lt_of_lt_of_le (h4 k hk) hB,h5⟩
theorem Und.shift {L B:Nat} {v:Value} {Tb T T2:Sp.A} {Mb M M2:Nat→Prop} {wb wk wk2:World} {cs:List Clo} (h:Und L B v Tb Mb wb cs T M wk) (hT:Sp.er L T2=Sp.er L T) (hM:∀k,M k→M2 k∧wk2.heap[k]? = wk.heap[k]?):Und L B v Tb Mb wb cs T2 M2 wk2:=by
 have key:∀N w,TreeAt L v T2 M2 N wk2 w→TreeAt L v T M N wk w:=fun N w hA=>(hA.less fun k hk=>(hM k hk).1).shift hT.symm fun k hk=>(hM k hk).2.symm
 cases cs with
 | nil=>exact fun N w hA=>h N w (key N w hA)
 | cons c r =>
  obtain⟨T0,M0,wk0,h1,h2,h3,h4,h5⟩:=h
  exact⟨T0,M0,wk0,h1,fun N w hN hA=>h2 N w (fun k hk=>⟨fun hm=>(hN k hk).1 (hM k hm).1,(hN k hk).2⟩) (key N w hA),fun k hk=>(hM k (h3 k hk)).1,h4,h5⟩
def Jrn (w:World) (G:Nat→Prop):List Value→List Clo→List Sp.Opn→Prop
 | [],[],[]=>True
 | cv::kv::pv::fv::vv::r,c::s,o::t=>cv=cloV c∧OpnR w G kv pv fv vv o∧Jrn w G r s t
 | _,_,_=>False
theorem Jrn.move {w w':World} {G G':Nat→Prop} (hk:∀k,G k→k<w.heap.size→w'.heap[k]? = w.heap[k]? ∧ G' k):∀ {xs:List Value} {cs:List Clo} {js:List Sp.Opn},Jrn w G xs cs js→Jrn w' G' xs cs js
 | [],[],[],_=>trivial
 | _::_::_::_::_::_,_::_,_::_,⟨e,a,b⟩=>⟨e,a.move hk,Jrn.move hk b⟩
theorem Jrn.snoc {w:World} {G:Nat→Prop} {cv kv pv fv vv:Value} {c:Clo} {o:Sp.Opn} (hc:cv=cloV c) (ho:OpnR w G kv pv fv vv o):∀ {xs:List Value} {cs:List Clo} {js:List Sp.Opn},Jrn w G xs cs js→Jrn w G (xs++[cv,kv,pv,fv,vv]) (cs++[c]) (js++[o])
 | [],[],[],_=>⟨hc,ho,trivial⟩
 | _::_::_::_::_::_,_::_,_::_,⟨e,a,b⟩=>⟨e,a,Jrn.snoc hc ho b⟩
def GA (L:Nat) (Tb:Sp.A) (wb:World) (M:Nat→Prop) (k:Nat):Prop:=M k∧(wb.heap.size≤k∨k∈Sp.fp L Tb)
structure JDoc (L:Nat) (w:World) (D:Nat) (rv jn iv:Value) (ch:Bool) (Tb:Sp.A) (Mb:Nat→Prop) (wb:World) (T:Sp.A) (M:Nat→Prop) (js:List Sp.Opn):Prop where
 ex:∃xs cs,DB w D rv jn ch iv∧w.ownsRow 0 230 5 jn js.length xs∧Jrn w (GA L Tb wb M) xs cs js∧Und L w.heap.size rv Tb Mb wb cs.reverse T M w
 jD:jn.ownBlock≠some D
 jM:∀g,jn.ownBlock=some g → ¬ M g∧g ∉ Sp.fp L T
 tr:TRep L w rv T
 nd:(Sp.fp L T).Nodup
 dD:D ∉ Sp.fp L T ∧ ¬ M D
 low:∀k,M k→k<w.heap.size∧k ∉ Sp.fp L T
 up:wb.heap.size≤w.heap.size ∧ ∀k∈Sp.fp L T,wb.heap.size≤k∨k∈Sp.fp L Tb
structure JEx (M M':Nat→Prop) (w w':World):Prop where
 os:w'.os=w.os
 tape:w'.tape=w.tape
 output:w'.output=w.output
 size:w.heap.size≤w'.heap.size
 kept:∀k,M k→M' k∧w'.heap[k]? = w.heap[k]?
theorem JEx.refl (M:Nat→Prop) (w:World):JEx M M w w:=⟨rfl,rfl,rfl,Nat.le_refl _,fun _ h=>⟨h,rfl⟩⟩
theorem JEx.trans {M M1 M2:Nat→Prop} {w w1 w2:World} (h:JEx M M1 w w1) (k:JEx M1 M2 w1 w2):JEx M M2 w w2 :=
 ⟨k.os.trans h.os,k.tape.trans h.tape,k.output.trans h.output,Nat.le_trans h.size k.size,fun j hj=>⟨(k.kept j (h.kept j hj).1).1,(k.kept j (h.kept j hj).1).2.trans (h.kept j hj).2⟩⟩
section
variable {L:Nat} {w:World} {D:Nat} {rv jn iv:Value} {ch:Bool} {Tb T:Sp.A} {Mb M:Nat→Prop} {wb:World} {js:List Sp.Opn}
theorem JDoc.jlt (h:JDoc L w D rv jn iv ch Tb Mb wb T M js):∀g,jn.ownBlock=some g→g<w.heap.size:=by
 obtain⟨xs,cs,_,h2,_⟩:=h.ex
 exact fun g hg=>(ownsN_lt h2 g hg).1
theorem JDoc.dlt (h:JDoc L w D rv jn iv ch Tb Mb wb T M js):D<w.heap.size:=by
 obtain⟨xs,cs,h1,_⟩:=h.ex
 exact h1.lt
theorem JDoc.grow {w':World} (h:JDoc L w D rv jn iv ch Tb Mb wb T M js) (hb:Below w.heap.size w w') (X:Nat→Prop) (hX:∀k,X k→w.heap.size≤k∧k<w'.heap.size) :
  JDoc L w' D rv jn iv ch Tb Mb wb T (fun k=>M k∨X k) js∧JEx M (fun k=>M k∨X k) w w':=by
 obtain⟨xs,cs,h1,h2,h3,h4⟩:=h.ex
 have hjl:=h.jlt
 have hlt:=h.tr.lt
 have hM:∀k,M k→(M k∨X k)∧w'.heap[k]? = w.heap[k]?:=fun k hk=>⟨Or.inl hk,hb.block k (h.low k hk).1⟩
 refine⟨⟨⟨xs,cs,h1.kept (hb.block D h1.lt),ownsN_kept h2 fun g hg=>hb.block g (hjl g hg),h3.move fun k hk hl=>⟨(hM k hk.1).2,(hM k hk.1).1,hk.2⟩,(h4.shift rfl hM).up hb.size⟩,h.jD,fun g hg=>⟨fun hm=>hm.elim (h.jM g hg).1 fun hx=>by have:=(hX g hx).1;have:=hjl g hg;omega,(h.jM g hg).2⟩,h.tr.bel hb,h.nd,⟨h.dD.1,fun hm=>hm.elim h.dD.2 fun hx=>by have:=(hX D hx).1;have:=h1.lt;omega⟩,fun k hm=>?_,⟨Nat.le_trans h.up.1 hb.size,h.up.2⟩⟩,⟨hb.os,hb.tape,hb.output,hb.size,hM⟩⟩
 rcases hm with hm|hm
 ·exact⟨Nat.lt_of_lt_of_le (h.low k hm).1 hb.size,(h.low k hm).2⟩
 ·exact⟨(hX k hm).2,fun hf=>by have:=hlt k hf;have:=(hX k hm).1;omega⟩
theorem JDoc.lay {w3 w4:World} {T3 T1:Sp.A} {M':Nat→Prop} {xs:List Value} {cs:List Clo} {c:Clo} {kv pv fv vv:Value} {o:Sp.Opn} {e:Ending}
  (h:JDoc L w D rv jn iv ch Tb Mb wb T M js) (hx:Jrn w (GA L Tb wb M) xs cs js) (hu:Und L w.heap.size rv Tb Mb wb cs.reverse T M w) (hk:KeptF (fun k=>k∈Sp.fp L T) w w3) (ht:TRep L w3 rv T3) (hn:(Sp.fp L T3).Nodup) (hD3:D ∉ Sp.fp L T3)
  (hj3:∀g,jn.ownBlock=some g→g ∉ Sp.fp L T3) (hM:∀k,M k→M' k) (hM':∀k,M' k→k<w3.heap.size∧k ∉ Sp.fp L T3∧k≠D∧jn.ownBlock≠some k) (he:LayEnd D rv jn iv ch js.length xs [cloV c,kv,pv,fv,vv] w3 e w4)
  (ho:OpnR w3 (GA L Tb wb M') kv pv fv vv o) (hT:Sp.er L T3=Sp.er L T1) (hB:(∀k,M k→M' k∧w4.heap[k]? = w.heap[k]?)→(∀k,M' k→w4.heap[k]? = w3.heap[k]?)→Back L rv c.1 c.2 T T1 M M' w w4) (hin:Ent c.1) (hup:∀k∈Sp.fp L T3,wb.heap.size≤k∨k∈Sp.fp L Tb) :
  e = .returned (.tuple #[]) ∧ ∃jn',JDoc L w4 D rv jn' iv ch Tb Mb wb T3 M' (js++[o])∧JEx M M' w w4:=by
 obtain⟨rfl,g,cap,g1,g2,g3,g4⟩:=he
 have hlt3:=ht.lt
 have h43:∀k,M' k→w4.heap[k]? = w3.heap[k]?:=fun k hm=>g4.block k (hM' k hm).1 fun hh=>hh.elim (hM' k hm).2.2.1 (hM' k hm).2.2.2
 have hMM:∀k,M k→M' k∧w4.heap[k]? = w.heap[k]?:=fun k hm=>⟨hM k hm,(h43 k (hM k hm)).trans (hk.block k (h.low k hm).1 (h.low k hm).2)⟩
 have hgx:¬ M' g∧g ∉ Sp.fp L T3:=by
  rcases g3 with h|h
  ·exact⟨fun hm=>(hM' g hm).2.2.2 h,hj3 g h⟩
  ·exact⟨fun hm=>by have:=(hM' g hm).1;omega,fun hm=>by have:=hlt3 g hm;omega⟩
 have hgD:g≠D:=by
  rcases g3 with h'|h'
  ·exact fun e=>h.jD (by rw[h',e])
  ·have:=h.dlt;have:=hk.size;omega
 refine⟨rfl,_,⟨⟨xs++[cloV c,kv,pv,fv,vv],cs++[c],g1,by simpa using g2,Jrn.snoc rfl (ho.move fun k hm _=>⟨h43 k hm.1,hm⟩) (hx.move fun k hm _=>⟨(hMM k hm.1).2,hM k hm.1,hm.2⟩),?_⟩,?_,?_,ht.move fun k hkm=>g4.block k (hlt3 k hkm) (fun hh=>hh.elim (fun e=>hD3 (e▸hkm)) fun e=>hj3 k e hkm),hn,⟨hD3,fun hm=>(hM' D hm).2.2.1 rfl⟩,fun k hm=>⟨Nat.lt_of_lt_of_le (hM' k hm).1 g4.size,(hM' k hm).2.1⟩,⟨Nat.le_trans h.up.1 (Nat.le_trans hk.size g4.size),hup⟩⟩,⟨g4.os.trans hk.os,g4.tape.trans hk.tape,g4.output.trans hk.output,Nat.le_trans hk.size g4.size,hMM⟩⟩
 ·rw[List.reverse_append]
  exact Und.shift (T:=T1) (M:=M') (wk:=w4) (cs:=c::cs.reverse) ⟨T,M,w,hu.up (Nat.le_trans hk.size g4.size),hB hMM h43,hM,fun k hkm=>by have:=h.tr.lt k (h.tr.maps.1 k hkm);have:=hk.size;have:=g4.size;omega,hin⟩ hT fun k hm=>⟨hm,rfl⟩
 ·simpa[Value.ownBlock] using hgD
 ·intro g' hg'
  simp only[Value.ownBlock] at hg'
  have:g'=g:=by simpa using hg'.symm
  subst this;exact hgx
end
end

section
open Go.RowKit Go.Maps
theorem skey_find {c:Sp.A} {k:Sp.By}:∀ {es:List (Lit×Sp.A)},Sp.Skey es→(Lit.string k,c)∈es→es.find? (fun p=>p.1.sameKey (.string k))=some (.string k,c)
 | [],_,h=>by cases h
 | y::r,⟨h1,h2⟩,h=>by
  obtain⟨h3,h4⟩:=List.pairwise_cons.1 h1
  rcases List.mem_cons.1 h with e|h
  ·subst e
   exact find_yes (p:=fun p=>p.1.sameKey (.string k)) (WideAt.sameKey_self (show WideAt.IsKeyLit (Lit.string k,c).1 from trivial))
  ·have hne:y.1 ≠ .string k:=fun e=>by
    have hb:=h3 _ h
    rw[e] at hb
    have h9:bytesBefore k k=true:=hb
    rw[WideAt.bytes_irrefl] at h9;cases h9
   rw[find_no (p:=fun p=>p.1.sameKey (.string k)) (by show ¬ (y.1.sameKey (.string k)=true);rw[sameKey_ne hne];decide)]
   exact skey_find ⟨h4,fun p hp=>h2 p (by simp[hp])⟩ h
theorem arr_open {f b g:Nat} {w:World} {u:Value} {al:List Sp.A} (h:TRep (f+1) w u (Sp.nd b g (.slice al []))):∃sl ps,VB w b 5 n0 [] sl (.map none)∧w.ownsRow 0 80 1 sl ps.length ps∧Al (TRep f w) ps al:=by
 obtain⟨b2,g2,x2,e,hu,h⟩:=h
 unfold Sp.nd at e;injection e with e;injection e with e1 e;injection e with e2 e;injection e with e3 _
 injection e1 with e1;injection e1 with _ e1;injection e2 with e2;injection e2 with _ e2
 obtain rfl:b=b2:=by omega
 rcases h with⟨j,_,_,rfl,_⟩|⟨n,_,rfl,_⟩|⟨s,_,rfl,_⟩|⟨al2,sl,ps,rfl,hvb,ho,hs,ha⟩|⟨es,n,D,rfl,hvb,ho,hp⟩
 ·cases e3
 ·cases e3
 ·cases e3
 ·injection e3 with e3 _
  subst e3
  exact⟨sl,ps,hvb,ho,ha⟩
 ·cases e3
theorem get_tree {f i:Nat} {w:World} {u pth:Value} {n c:Sp.A} {key:Sp.By} (h:TRep (f+1) w u n) (hf:Stands n i key c) (hk:key.length≤1048576) :
  Calls Tryz.prog 159 #[plV pth (Sp.blk n) key i] w fun e w'=>(∃y,e = .returned y∧TRep f w y c)∧Below w.heap.size w w':=by
 rcases hf with⟨b,g,al,rfl,h1⟩|⟨b,g,es,rfl,h1,h2⟩
 ·obtain⟨sl,ps,hvb,ho,ha⟩:=arr_open h
  obtain⟨hi,e⟩:=List.getElem?_eq_some_iff.1 h1
  have hi2:i<ps.length:=by rw[ha.length];exact hi
  refine (get_arr (pth:=pth) (key:=key) hvb ho hi2).mono ?_
  rintro x w' ⟨rfl,hb⟩
  exact⟨⟨_,rfl,e▸ha.get i hi2 hi⟩,hb⟩
 ·obtain⟨_,D,hvb,ho,hp⟩:=obj_open h
  have hfd:=skey_find h2 h1
  have hh:Maps.has (.map D) (.string key)=true:=by
   rw[Pt.has _ hp]
   exact List.any_eq_true.2 ⟨_,h1,WideAt.sameKey_self (show WideAt.IsKeyLit (Lit.string key,c).1 from trivial)⟩
  obtain⟨j,k2,c2,x,_,_,e3,e4,e5⟩:=Pt.first (.string key) hp hh
  rw[hfd] at e3
  obtain rfl:c=c2:=(Prod.mk.inj (Option.some.inj e3)).2
  refine (get_obj (pth:=pth) (i:=i) hk hvb ho (e4 _)).mono ?_
  rintro x w' ⟨rfl,hb⟩
  exact⟨⟨_,rfl,e5⟩,hb⟩
theorem fp_split {f:Nat} {w:World} {u:Value} {n:Sp.A} (h:TRep (f+1) w u n):∀k∈Sp.fp (f+1) n,k∈Sp.own n ∨ ∃d∈Sp.kids n,k∈Sp.fp f d:=by
 obtain⟨b,g,x,rfl,hv,h⟩:=h
 rcases h with⟨j,_,_,rfl,h⟩|⟨n,_,rfl,h,hbd⟩|⟨s,_,rfl,h⟩|⟨al,sl,ps,rfl,_⟩|⟨es,n,D,rfl,_⟩
 ·intro k hk;exact Or.inl hk
 ·intro k hk;exact Or.inl hk
 ·intro k hk;exact Or.inl hk
 ·intro k hk
  rw[Sp.fp_arr] at hk
  rw[Sp.own_arr,Sp.kids_arr]
  rcases List.mem_cons.1 hk with rfl|hk
  ·exact Or.inl (by simp)
  ·rcases List.mem_append.1 hk with hk|hk
   ·exact Or.inl (List.mem_cons_of_mem _ hk)
   ·exact Or.inr (List.mem_flatMap.1 hk)
 ·intro k hk
  rw[Sp.fp_obj] at hk
  rw[Sp.own_obj,Sp.kids_obj]
  rcases List.mem_cons.1 hk with rfl|hk
  ·exact Or.inl (by simp)
  ·rcases List.mem_cons.1 hk with rfl|hk
   ·exact Or.inl (by simp)
   ·obtain⟨p,hp,hkp⟩:=List.mem_flatMap.1 hk
    exact Or.inr ⟨p.2,List.mem_map.2 ⟨p,hp,rfl⟩,hkp⟩
theorem Stands.apart {f i:Nat} {m c:Sp.A} {key:Sp.By} (hf:Stands m i key c) (hn:(Sp.fp (f+1) m).Nodup):(∀d∈Sp.kids (Sp.remT i key m),∀k∈Sp.fp f d,k ∉ Sp.fp f c)∧(∀k∈Sp.fp f c,k∈Sp.fp (f+1) m)∧(Sp.fp f c).Nodup∧c∈Sp.kids m:=by
 rcases hf with⟨b,g,al,rfl,h⟩|⟨b,g,es,rfl,h,hs⟩
 ·obtain⟨p1,_⟩:=arr_parts hn
  have q:=flat_perm (Sp.fp f) (Sp.perm_ldel h)
  rw[List.flatMap_cons] at q
  obtain⟨n1,_,n3⟩:=List.nodup_append.1 (q.nodup_iff.1 p1)
  refine⟨fun d hd k hk hkc=>n3 k hkc k (List.mem_flatMap.2 ⟨d,hd,hk⟩) rfl,fun k hk=>?_,n1,?_⟩
  ·rw[Sp.fp_arr]
   exact List.mem_cons_of_mem _ (List.mem_append_right _ (q.mem_iff.2 (List.mem_append_left _ hk)))
  ·rw[Sp.kids_arr];exact List.mem_of_getElem? h
 ·obtain⟨p1,_⟩:=obj_parts hn
  have q:=(Sp.perm_mdel hs h).flatMap_right (fun p=>Sp.fp f p.2)
  rw[List.flatMap_cons] at q
  obtain⟨n1,_,n3⟩:=List.nodup_append.1 (q.nodup_iff.1 p1)
  refine⟨fun d hd k hk hkc=>?_,fun k hk=>?_,n1,?_⟩
  ·obtain⟨p,hp,rfl⟩:=List.mem_map.1 (show d∈(Sp.mdel (.string key) es).map Prod.snd from hd)
   exact n3 k hkc k (List.mem_flatMap.2 ⟨p,hp,hk⟩) rfl
  ·rw[Sp.fp_obj]
   exact List.mem_cons_of_mem _ (List.mem_cons_of_mem _ (q.mem_iff.2 (List.mem_append_left _ hk)))
  ·rw[Sp.kids_obj];exact List.mem_map.2 ⟨_,h,rfl⟩
theorem Stands.kids_set {i:Nat} {m c x:Sp.A} {key:Sp.By} (hf:Stands m i key c):∀d∈Sp.kids (Sp.setT i key x m),d=x∨d∈Sp.kids (Sp.remT i key m):=by
 intro d hd
 rcases hf with⟨b,g,al,rfl,h⟩|⟨b,g,es,rfl,h,hs⟩
 ·have hd2:d∈al.set i x:=hd
  have:=(Sp.perm_lset x h).mem_iff.1 hd2
  exact (List.mem_cons.1 this).imp id id
 ·obtain⟨p,hp,rfl⟩:=List.mem_map.1 (show d∈(Sp.mput (.string key) x es).map Prod.snd from hd)
  rcases List.mem_cons.1 ((Sp.perm_mput (.string key) x es).mem_iff.1 hp) with rfl|hp
  ·exact Or.inl rfl
  ·exact Or.inr (show p.2∈(Sp.mdel (.string key) es).map Prod.snd from List.mem_map.2 ⟨p,hp,rfl⟩)
theorem put_apart {f:Nat} {p:List Nat} {w w':World} {u:Value} {T m n2 c:Sp.A} (hs:Sp.sub p T=some m) (hN:(Sp.fp (f+1+p.length) T).Nodup) (hm:TRep (f+1) w u m) (h2:TRep (f+1) w' u n2) (hc:c∈Sp.kids m) (hcm:∀k∈Sp.fp f c,k∈Sp.fp (f+1) m) (ho:∀k∈Sp.own n2,k∈Sp.own m∨w.heap.size≤k)
  (hk:∀d∈Sp.kids n2,∀k∈Sp.fp f d,k ∉ Sp.fp f c):∀k∈Sp.fp (f+1+p.length) (Sp.put p n2 T),k ∉ Sp.fp f c:=by
 intro k hkT hkc
 obtain⟨rest,q1,q2⟩:=Sp.fp_put (f:=f+1) hs
 rcases List.mem_append.1 ((q2 n2).mem_iff.1 hkT) with h|h
 ·exact (List.nodup_append.1 (q1.nodup_iff.1 hN)).2.2 k h k (hcm k hkc) rfl
 ·rcases fp_split h2 k h with h|⟨d,hd,h⟩
  ·rcases ho k h with h|h
   ·exact own_kid hm (Sp.sub_nodup (f:=f+1) hs hN) hc k h hkc
   ·have:=hm.lt k (hcm k hkc);omega
  ·exact hk d hd k h hkc
end

section
open Go.RowKit Go.Maps
def DocEnd (L:Nat) (D:Nat) (rv iv:Value) (ch:Bool) (Tb:Sp.A) (Mb:Nat→Prop) (wb:World) (T1:Sp.A) (M:Nat→Prop) (js:List Sp.Opn) (w w':World):Prop :=
 ∃jn' T' M',Sp.er L T'=Sp.er L T1∧JDoc L w' D rv jn' iv ch Tb Mb wb T' M' js∧JEx M M' w w'
theorem TRep.kidAt {f:Nat} {w:World} {u:Value} {n c:Sp.A} (h:TRep (f+1) w u n) (hc:c∈Sp.kids n):∃y,TRep f w y c:=by
 obtain⟨j,hj,e⟩:=List.mem_iff_getElem.1 hc
 exact TRep.at (f:=f) (p:=[j]) h (by rw[Sp.sub,List.getElem?_eq_getElem hj,e];rfl)
section
variable {f:Nat} {p:List Nat} {w:World} {D i:Nat} {rv jn iv:Value} {ch:Bool} {Tb T m c x:Sp.A} {Mb M:Nat→Prop} {wb:World} {js:List Sp.Opn} {key:Sp.By} {pa px py:Option Addr} {pl pc:Nat} {path:List Sp.By}
theorem insert_doc (hJ:JDoc (f+1+p.length) w D rv jn iv ch Tb Mb wb T M js) (hs:Sp.sub p T=some m) (hf:Free m i key) (hr:Roomy m key) (hl:js.length≤1000000000) (hp:TokG w (GA (f+1+p.length) Tb wb M) (.slice pa pl pc) path)
  (hc:TRep f w (.pointer px) c) (hcn:(Sp.fp f c).Nodup) (hcd:∀k∈Sp.fp f c,¬ M k∧k ∉ Sp.fp (f+1+p.length) T∧k≠D∧jn.ownBlock≠some k∧wb.heap.size≤k) :
  Calls Tryz.prog 205 #[.pointer (some ⟨D,0,none⟩),plV (.slice pa pl pc) (Sp.blk m) key i,.pointer px] w fun e w'=>e = .returned (.tuple #[]) ∧
   DocEnd (f+1+p.length) D rv iv ch Tb Mb wb (Sp.put p (Sp.insT i key c m) T) M (js++[(1,path,.nil)]) w w':=by
 obtain⟨xs,cs,g1,g2,g3,g4⟩:=hJ.ex
 obtain⟨u,hu⟩:=TRep.at (f:=f+1) hJ.tr hs
 have hDl:=g1.lt
 have hjl:=hJ.jlt
 have hTl:=hJ.tr.lt
 have hcl:=hc.lt
 have hb:Below w.heap.size w (plW w pa pl pc (Sp.blk m) key i):=(Below.refl _ _).alloc (Nat.le_refl _) _
 have hbs:(plW w pa pl pc (Sp.blk m) key i).heap.size=w.heap.size+1:=by simp
 have hnew:PBox (plW w pa pl pc (Sp.blk m) key i) w.heap.size (.slice pa pl pc) (Sp.blk m) key i:=heap_alloc_new w _
 have hown:∀k∈Sp.own m,k∈Sp.fp (f+1+p.length) T:=fun k hk=>Sp.sub_fp hs k (own_fp hu k hk)
 have hZ:∀k∈Sp.fp f c,k<(plW w pa pl pc (Sp.blk m) key i).heap.size∧k ∉ Sp.fp (f+1+p.length) T:=fun k hk=>⟨by have:=hcl k hk;omega,(hcd k hk).2.1⟩
 refine (dInsert_any (D:=D) (rv:=rv) (iv:=iv) (ch:=ch) (xs:=xs) (Q:=fun w2=>∃n2,(Sp.er (f+1) n2=Sp.er (f+1) (Sp.insT i key c m)∧Sp.kids n2=Sp.kids (Sp.insT i key c m) ∧ ∀k∈Sp.own n2,k∈Sp.own m∨(plW w pa pl pc (Sp.blk m) key i).heap.size≤k)∧EdOk f (plW w pa pl pc (Sp.blk m) key i) w2 u m n2 (fun k=>k∈Sp.fp f c)) hl hJ.jD
  (insert_tree (hu.bel hb) (Sp.sub_nodup (f:=f+1) hs hJ.nd) (hf.at (c:=c) hr).1 (hc.bel hb) hcn (fun k hk hm=>(hcd k hk).2.1 (Sp.sub_fp hs k hm))) ?_).mono ?_
 ·rintro w2 ⟨n2,_,hE⟩
  have hold:∀k,k<w.heap.size+1→k ∉ Sp.fp (f+1+p.length) T→w2.heap[k]? = (plW w pa pl pc (Sp.blk m) key i).heap[k]?:=fun k hk hn=>hE.kept.block k (by omega) (fun h=>hn (hown k h))
  refine⟨(hold _ (by omega) (fun h=>by have:=hTl _ h;omega)).trans hnew,g1.kept ((hold D (by omega) hJ.dD.1).trans (hb.block D hDl)),ownsN_kept g2 fun g hg=>(hold g (by have:=hjl g hg;omega) (hJ.jM g hg).2).trans (hb.block g (hjl g hg))⟩
 ·rintro e w4 ⟨w2,⟨n2,⟨e2,_,_⟩,hE⟩,hL⟩
  obtain⟨t1,t2,t3,t4⟩:=ed_put (hJ.tr.bel hb) hs hJ.nd (hu.bel hb) hE hZ
  have hsz:=t4.size
  have k02:KeptF (fun k=>k∈Sp.fp (f+1+p.length) T) w w2:=(KeptF.of_below hb).trans (F':=fun k=>k∈Sp.fp (f+1+p.length) T) t4 fun k _ h=>h
  have hq2:PBox w2 w.heap.size (.slice pa pl pc) (Sp.blk m) key i:=(t4.block _ (by omega) (fun h=>by have:=hTl _ h;omega)).trans hnew
  obtain⟨rfl,jn',hJ',hX⟩:=hJ.lay (T1:=Sp.put p (Sp.insT i key c m) T) (M':=fun k=>M k∨k=w.heap.size) (o:=(1,path,.nil)) g3 g4 k02 t1 t2 (fun hm=>by
    rcases t3 D hm with h|h|h
    ·exact hJ.dD.1 h
    ·exact (hcd D h).2.2.1 rfl
    ·omega) (fun g hg hm=>by
    rcases t3 g hm with h|h|h
    ·exact (hJ.jM g hg).2 h
    ·exact (hcd g h).2.2.2.1 hg
    ·have:=hjl g hg;omega) (fun k hk=>Or.inl hk) (fun k hk=>by
    rcases hk with hk|rfl
    ·have h1:=hJ.low k hk
     refine⟨by omega,fun hm=>?_,fun e=>hJ.dD.2 (e▸hk),fun e=>(hJ.jM k e).1 hk⟩
     rcases t3 k hm with h|h|h
     ·exact h1.2 h
     ·exact (hcd k h).1 hk
     ·omega
    ·refine⟨by omega,fun hm=>?_,by omega,fun e=>by have:=hjl _ e;omega⟩
     rcases t3 _ hm with h|h|h
     ·have:=hTl _ h;omega
     ·have:=hcl _ h;omega
     ·omega) hL ⟨rfl,show (1:Nat)<3 by decide,hp.move fun k hk hkl=>⟨k02.block k hkl (hJ.low k hk.1).2,Or.inl hk.1,hk.2⟩,rfl,Or.inl ⟨rfl,rfl⟩⟩ (by rw[Sp.er_put p (f+1) n2 hs,e2,Sp.er_put p (f+1) _ hs]) (fun h1 h2=>back_insert hJ.tr hs hf hr ((h2 _ (Or.inr rfl)).trans hq2) (Or.inr rfl) h1) ent_insert (fun k hk=>by
    rcases t3 k hk with h|h|h
    ·exact hJ.up.2 k h
    ·exact Or.inl (hcd k h).2.2.2.2
    ·exact Or.inl (by have:=hJ.up.1;omega))
  exact⟨rfl,jn',_,_,by rw[Sp.er_put p (f+1) n2 hs,e2,Sp.er_put p (f+1) _ hs],hJ',hX⟩
theorem remove_doc (hJ:JDoc (f+1+p.length) w D rv jn iv ch Tb Mb wb T M js) (hs:Sp.sub p T=some m) (hf:Stands m i key c) (hr:Roomy m key) (hl:js.length≤1000000000) (hp:TokG w (GA (f+1+p.length) Tb wb M) (.slice pa pl pc) path) (hft:f≤top) :
  Calls Tryz.prog 199 #[.pointer (some ⟨D,0,none⟩),plV (.slice pa pl pc) (Sp.blk m) key i] w fun e w'=>e = .returned (.tuple #[]) ∧
   DocEnd (f+1+p.length) D rv iv ch Tb Mb wb (Sp.put p (Sp.remT i key m) T) M (js++[(0,path,Sp.str f c)]) w w' ∧ ∀y,TRep f w y c→TRep f w' y c:=by
 obtain⟨xs,cs,g1,g2,g3,g4⟩:=hJ.ex
 obtain⟨u,hu⟩:=TRep.at (f:=f+1) hJ.tr hs
 obtain⟨a1,a2,a3,a4⟩:=hf.apart (Sp.sub_nodup (f:=f+1) hs hJ.nd)
 obtain⟨yv,hc⟩:=hu.kidAt a4
 obtain⟨yb,rfl,_⟩:=hc.ptr
 have hDl:=g1.lt
 have hjl:=hJ.jlt
 have hTl:=hJ.tr.lt
 have hcT:∀k∈Sp.fp f c,k∈Sp.fp (f+1+p.length) T:=fun k hk=>Sp.sub_fp hs k (a2 k hk)
 have hb:Below w.heap.size w (plW w pa pl pc (Sp.blk m) key i):=(Below.refl _ _).alloc (Nat.le_refl _) _
 have hbs:(plW w pa pl pc (Sp.blk m) key i).heap.size=w.heap.size+1:=by simp
 have hnew:PBox (plW w pa pl pc (Sp.blk m) key i) w.heap.size (.slice pa pl pc) (Sp.blk m) key i:=heap_alloc_new w _
 have hown:∀k∈Sp.own m,k∈Sp.fp (f+1+p.length) T:=fun k hk=>Sp.sub_fp hs k (own_fp hu k hk)
 have hV:∀w2,Below (w.heap.size+1) (plW w pa pl pc (Sp.blk m) key i) w2→Below w.heap.size w (xW w2 (some ⟨yb,0,none⟩)):=fun w2 h2=>by
  have h3:Below w.heap.size w w2:=⟨h2.os.trans hb.os,h2.tape.trans hb.tape,h2.output.trans hb.output,by have:=h2.size;omega,fun k hk=>(h2.block k (by omega)).trans (hb.block k hk)⟩
  exact h3.alloc (by have:=h2.size;omega) _
 have hVs:∀w2,(xW w2 (some ⟨yb,0,none⟩)).heap.size=w2.heap.size+1:=fun w2=>by simp
 refine (dRemove_any (D:=D) (rv:=rv) (iv:=iv) (ch:=ch) (xs:=xs) (y:=some ⟨yb,0,none⟩) (Q:=fun w2 w3=>∃n2,(Sp.er (f+1) n2=Sp.er (f+1) (Sp.remT i key m)∧Sp.kids n2=Sp.kids (Sp.remT i key m) ∧ ∀k∈Sp.own n2,k∈Sp.own m∨(xW w2 (some ⟨yb,0,none⟩)).heap.size≤k)∧EdOk f (xW w2 (some ⟨yb,0,none⟩)) w3 u m n2 (fun _=>False)) hl hJ.jD
  ((get_tree (hu.bel hb) hf hr.2).mono ?_) (fun w2 hb2=>remove_tree (hu.bel (hV w2 hb2)) (Sp.sub_nodup (f:=f+1) hs hJ.nd) (hf.at hr).1) ?_).mono ?_
 ·rintro e w' ⟨⟨y,rfl,hy⟩,hb2⟩
  obtain rfl:=hy.uniq hc
  exact⟨rfl,hbs▸hb2⟩
 ·rintro w2 w3 hb2 ⟨n2,_,hE⟩
  have hs2:=hb2.size
  have hVs2:=hVs w2
  have hold:∀k,k<w2.heap.size+1→k ∉ Sp.fp (f+1+p.length) T→w3.heap[k]? = (xW w2 (some ⟨yb,0,none⟩)).heap[k]?:=fun k hk hn=>hE.kept.block k (by omega) (fun h=>hn (hown k h))
  refine⟨((hold _ (by omega) (fun h=>by have:=hTl _ h;omega)).trans (Below.heap_alloc w2 _ _ (by omega))).trans ((hb2.block _ (by omega)).trans hnew),(hold _ (by omega) (fun h=>by have:=hTl _ h;omega)).trans (heap_alloc_new w2 _),g1.kept ((hold D (by omega) hJ.dD.1).trans ((hV w2 hb2).block D hDl)),ownsN_kept g2 fun g hg=>(hold g (by have:=hjl g hg;omega) (hJ.jM g hg).2).trans ((hV w2 hb2).block g (hjl g hg))⟩
 ·rintro e w4 ⟨w2,w3,hb2,⟨n2,⟨e2,e3,e4⟩,hE⟩,hL⟩
  have hs2:=hb2.size
  have hVs2:=hVs w2
  obtain⟨t1,t2,t3,t4⟩:=ed_put (hJ.tr.bel (hV w2 hb2)) hs hJ.nd (hu.bel (hV w2 hb2)) hE (fun k hk=>hk.elim)
  have hsz:=t4.size
  have k02:KeptF (fun k=>k∈Sp.fp (f+1+p.length) T) w w3:=(KeptF.of_below (hV w2 hb2)).trans (F':=fun k=>k∈Sp.fp (f+1+p.length) T) t4 fun k _ h=>h
  have hq2:PBox w3 w.heap.size (.slice pa pl pc) (Sp.blk m) key i:=((t4.block _ (by omega) (fun h=>by have:=hTl _ h;omega)).trans (Below.heap_alloc w2 _ _ (by omega))).trans ((hb2.block _ (by omega)).trans hnew)
  have hx2:XBox w3 w2.heap.size (some ⟨yb,0,none⟩):=(t4.block _ (by omega) (fun h=>by have:=hTl _ h;omega)).trans (heap_alloc_new w2 _)
  have hap:∀k∈Sp.fp (f+1+p.length) (Sp.put p n2 T),k ∉ Sp.fp f c:=put_apart hs hJ.nd (hu.bel (hV w2 hb2)) hE.tr a4 a2 e4 (fun d hd k hk=>a1 d (e3▸hd) k hk)
  have hc3:TRep f w3 (.pointer (some ⟨yb,0,none⟩)) c:=(hc.bel (hV w2 hb2)).move fun k hk=>hE.kept.block k (by have:=hTl k (hcT k hk);omega) (fun ho=>own_kid hu (Sp.sub_nodup (f:=f+1) hs hJ.nd) a4 k ho hk)
  obtain⟨r1,r2,r3⟩:=hc3.up hft
  obtain⟨_,_,_,_,_,_,hk4⟩:=id hL
  have hc4:TRep f w4 (.pointer (some ⟨yb,0,none⟩)) c:=hc3.move fun k hk=>hk4.block k (by have:=hTl k (hcT k hk);omega) (fun h=>h.elim (fun e=>hJ.dD.1 (e▸hcT k hk)) fun e=>(hJ.jM k e).2 (hcT k hk))
  obtain⟨rfl,jn',hJ',hX⟩:=hJ.lay (T1:=Sp.put p (Sp.remT i key m) T) (M':=fun k=>M k∨k=w.heap.size∨k=w2.heap.size∨k∈Sp.fp f c) (o:=(0,path,Sp.str f c)) g3 g4 k02 t1 t2 (fun hm=>by
    rcases t3 D hm with h|h|h
    ·exact hJ.dD.1 h
    ·exact h
    ·omega) (fun g hg hm=>by
    rcases t3 g hm with h|h|h
    ·exact (hJ.jM g hg).2 h
    ·exact h.elim
    ·have:=hjl g hg;omega) (fun k hk=>Or.inl hk) (fun k hk=>by
    rcases hk with hk|rfl|rfl|hk
    ·have h1:=hJ.low k hk
     refine⟨by omega,fun hm=>?_,fun e=>hJ.dD.2 (e▸hk),fun e=>(hJ.jM k e).1 hk⟩
     rcases t3 k hm with h|h|h
     ·exact h1.2 h
     ·exact h
     ·omega
    ·refine⟨by omega,fun hm=>?_,by omega,fun e=>by have:=hjl _ e;omega⟩
     rcases t3 _ hm with h|h|h
     ·have:=hTl _ h;omega
     ·exact h.elim
     ·omega
    ·refine⟨by omega,fun hm=>?_,by omega,fun e=>by have:=hjl _ e;omega⟩
     rcases t3 _ hm with h|h|h
     ·have:=hTl _ h;omega
     ·exact h.elim
     ·omega
    ·refine⟨by have:=hTl k (hcT k hk);omega,fun hm=>hap k hm hk,fun e=>hJ.dD.1 (e▸hcT k hk),fun e=>(hJ.jM k e).2 (hcT k hk)⟩) hL ⟨rfl,show (0:Nat)<3 by decide,hp.move fun k hk hkl=>⟨k02.block k hkl (hJ.low k hk.1).2,Or.inl hk.1,hk.2⟩,rfl,Or.inr ⟨show (0:Nat)≠1 by decide,r3▸r1.rep fun k hk=>⟨Or.inr (Or.inr (Or.inr (r2▸hk))),hJ.up.2 k (hcT k (r2▸hk))⟩⟩⟩ (by rw[Sp.er_put p (f+1) n2 hs,e2,Sp.er_put p (f+1) _ hs])
    (fun h1 h2=>back_remove hJ.tr hs hf hr ((h2 _ (Or.inr (Or.inl rfl))).trans hq2) (Or.inr (Or.inl rfl)) ((h2 _ (Or.inr (Or.inr (Or.inl rfl)))).trans hx2) (Or.inr (Or.inr (Or.inl rfl))) (hc3.move fun k hk=>h2 k (Or.inr (Or.inr (Or.inr hk)))) a3 (fun k hk=>⟨Or.inr (Or.inr (Or.inr hk)),fun hm=>(hJ.low k hm).2 (hcT k hk)⟩) h1) ent_remove (fun k hk=>by
    rcases t3 k hk with h|h|h
    ·exact hJ.up.2 k h
    ·exact h.elim
    ·exact Or.inl (by have:=hJ.up.1;omega))
  refine⟨rfl,⟨jn',_,_,by rw[Sp.er_put p (f+1) n2 hs,e2,Sp.er_put p (f+1) _ hs],hJ',hX⟩,fun y hy=>?_⟩
  obtain rfl:=hy.uniq hc
  exact hc4
theorem swap_doc (hJ:JDoc (f+1+p.length) w D rv jn iv ch Tb Mb wb T M js) (hs:Sp.sub p T=some m) (hf:Stands m i key c) (hr:Roomy m key) (hl:js.length≤1000000000) (hp:TokG w (GA (f+1+p.length) Tb wb M) (.slice pa pl pc) path) (hft:f≤top) (hx:TRep f w (.pointer px) x) (hxn:(Sp.fp f x).Nodup) (hxd:∀k∈Sp.fp f x,¬ M k∧k ∉ Sp.fp (f+1+p.length) T∧k≠D∧jn.ownBlock≠some k∧wb.heap.size≤k) :
  Calls Tryz.prog 200 #[.pointer (some ⟨D,0,none⟩),plV (.slice pa pl pc) (Sp.blk m) key i,.pointer px] w fun e w'=>e = .returned (.tuple #[]) ∧
   DocEnd (f+1+p.length) D rv iv ch Tb Mb wb (Sp.put p (Sp.setT i key x m) T) M (js++[(2,path,Sp.str f c)]) w w':=by
 obtain⟨xs,cs,g1,g2,g3,g4⟩:=hJ.ex
 obtain⟨u,hu⟩:=TRep.at (f:=f+1) hJ.tr hs
 obtain⟨a1,a2,a3,a4⟩:=hf.apart (Sp.sub_nodup (f:=f+1) hs hJ.nd)
 obtain⟨yv,hc⟩:=hu.kidAt a4
 obtain⟨yb,rfl,_⟩:=hc.ptr
 have hDl:=g1.lt
 have hjl:=hJ.jlt
 have hTl:=hJ.tr.lt
 have hcT:∀k∈Sp.fp f c,k∈Sp.fp (f+1+p.length) T:=fun k hk=>Sp.sub_fp hs k (a2 k hk)
 have hb:Below w.heap.size w (plW w pa pl pc (Sp.blk m) key i):=(Below.refl _ _).alloc (Nat.le_refl _) _
 have hbs:(plW w pa pl pc (Sp.blk m) key i).heap.size=w.heap.size+1:=by simp
 have hnew:PBox (plW w pa pl pc (Sp.blk m) key i) w.heap.size (.slice pa pl pc) (Sp.blk m) key i:=heap_alloc_new w _
 have hown:∀k∈Sp.own m,k∈Sp.fp (f+1+p.length) T:=fun k hk=>Sp.sub_fp hs k (own_fp hu k hk)
 have hV:∀w2,Below (w.heap.size+1) (plW w pa pl pc (Sp.blk m) key i) w2→Below w.heap.size w (xW w2 (some ⟨yb,0,none⟩)):=fun w2 h2=>by
  have h3:Below w.heap.size w w2:=⟨h2.os.trans hb.os,h2.tape.trans hb.tape,h2.output.trans hb.output,by have:=h2.size;omega,fun k hk=>(h2.block k (by omega)).trans (hb.block k hk)⟩
  exact h3.alloc (by have:=h2.size;omega) _
 have hVs:∀w2,(xW w2 (some ⟨yb,0,none⟩)).heap.size=w2.heap.size+1:=fun w2=>by simp
 refine (dSwap_any (D:=D) (rv:=rv) (iv:=iv) (ch:=ch) (xs:=xs) (y:=some ⟨yb,0,none⟩) (Q:=fun w2 w3=>∃n2,(Sp.er (f+1) n2=Sp.er (f+1) (Sp.setT i key x m)∧Sp.kids n2=Sp.kids (Sp.setT i key x m) ∧ ∀k∈Sp.own n2,k∈Sp.own m∨(xW w2 (some ⟨yb,0,none⟩)).heap.size≤k)∧EdOk f (xW w2 (some ⟨yb,0,none⟩)) w3 u m n2 (fun k=>k∈Sp.fp f x)) hl hJ.jD
  ((get_tree (hu.bel hb) hf hr.2).mono ?_) (fun w2 hb2=>set_tree (hu.bel (hV w2 hb2)) (Sp.sub_nodup (f:=f+1) hs hJ.nd) (hf.at hr).1 (hx.bel (hV w2 hb2)) hxn (fun k hk hm=>(hxd k hk).2.1 (Sp.sub_fp hs k hm))) ?_).mono ?_
 ·rintro e w' ⟨⟨y,rfl,hy⟩,hb2⟩
  obtain rfl:=hy.uniq hc
  exact⟨rfl,hbs▸hb2⟩
 ·rintro w2 w3 hb2 ⟨n2,_,hE⟩
  have hs2:=hb2.size
  have hVs2:=hVs w2
  have hold:∀k,k<w2.heap.size+1→k ∉ Sp.fp (f+1+p.length) T→w3.heap[k]? = (xW w2 (some ⟨yb,0,none⟩)).heap[k]?:=fun k hk hn=>hE.kept.block k (by omega) (fun h=>hn (hown k h))
  refine⟨((hold _ (by omega) (fun h=>by have:=hTl _ h;omega)).trans (Below.heap_alloc w2 _ _ (by omega))).trans ((hb2.block _ (by omega)).trans hnew),(hold _ (by omega) (fun h=>by have:=hTl _ h;omega)).trans (heap_alloc_new w2 _),g1.kept ((hold D (by omega) hJ.dD.1).trans ((hV w2 hb2).block D hDl)),ownsN_kept g2 fun g hg=>(hold g (by have:=hjl g hg;omega) (hJ.jM g hg).2).trans ((hV w2 hb2).block g (hjl g hg))⟩
 ·rintro e w4 ⟨w2,w3,hb2,⟨n2,⟨e2,e3,e4⟩,hE⟩,hL⟩
  have hs2:=hb2.size
  have hVs2:=hVs w2
  obtain⟨t1,t2,t3,t4⟩:=ed_put (hJ.tr.bel (hV w2 hb2)) hs hJ.nd (hu.bel (hV w2 hb2)) hE (fun k hk=>⟨by have:=hx.lt k hk;have:=(hV w2 hb2).size;omega,(hxd k hk).2.1⟩)
  have hsz:=t4.size
  have k02:KeptF (fun k=>k∈Sp.fp (f+1+p.length) T) w w3:=(KeptF.of_below (hV w2 hb2)).trans (F':=fun k=>k∈Sp.fp (f+1+p.length) T) t4 fun k _ h=>h
  have hq2:PBox w3 w.heap.size (.slice pa pl pc) (Sp.blk m) key i:=((t4.block _ (by omega) (fun h=>by have:=hTl _ h;omega)).trans (Below.heap_alloc w2 _ _ (by omega))).trans ((hb2.block _ (by omega)).trans hnew)
  have hx2:XBox w3 w2.heap.size (some ⟨yb,0,none⟩):=(t4.block _ (by omega) (fun h=>by have:=hTl _ h;omega)).trans (heap_alloc_new w2 _)
  have hap:∀k∈Sp.fp (f+1+p.length) (Sp.put p n2 T),k ∉ Sp.fp f c:=put_apart hs hJ.nd (hu.bel (hV w2 hb2)) hE.tr a4 a2 e4 (fun d hd k hk=>by
   rw[e3] at hd
   rcases hf.kids_set d hd with rfl|hd
   ·exact fun hm=>(hxd k hk).2.1 (hcT k hm)
   ·exact a1 d hd k hk)
  have hc3:TRep f w3 (.pointer (some ⟨yb,0,none⟩)) c:=(hc.bel (hV w2 hb2)).move fun k hk=>hE.kept.block k (by have:=hTl k (hcT k hk);omega) (fun ho=>own_kid hu (Sp.sub_nodup (f:=f+1) hs hJ.nd) a4 k ho hk)
  obtain⟨r1,r2,r3⟩:=hc3.up hft
  obtain⟨rfl,jn',hJ',hX⟩:=hJ.lay (T1:=Sp.put p (Sp.setT i key x m) T) (M':=fun k=>M k∨k=w.heap.size∨k=w2.heap.size∨k∈Sp.fp f c) (o:=(2,path,Sp.str f c)) g3 g4 k02 t1 t2 (fun hm=>by
    rcases t3 D hm with h|h|h
    ·exact hJ.dD.1 h
    ·exact (hxd D h).2.2.1 rfl
    ·omega) (fun g hg hm=>by
    rcases t3 g hm with h|h|h
    ·exact (hJ.jM g hg).2 h
    ·exact (hxd g h).2.2.2.1 hg
    ·have:=hjl g hg;omega) (fun k hk=>Or.inl hk) (fun k hk=>by
    rcases hk with hk|rfl|rfl|hk
    ·have h1:=hJ.low k hk
     refine⟨by omega,fun hm=>?_,fun e=>hJ.dD.2 (e▸hk),fun e=>(hJ.jM k e).1 hk⟩
     rcases t3 k hm with h|h|h
     ·exact h1.2 h
     ·exact (hxd k h).1 hk
     ·omega
    ·refine⟨by omega,fun hm=>?_,by omega,fun e=>by have:=hjl _ e;omega⟩
     rcases t3 _ hm with h|h|h
     ·have:=hTl _ h;omega
     ·exact (by have:=hx.lt _ h;omega)
     ·omega
    ·refine⟨by omega,fun hm=>?_,by omega,fun e=>by have:=hjl _ e;omega⟩
     rcases t3 _ hm with h|h|h
     ·have:=hTl _ h;omega
     ·exact (by have:=hx.lt _ h;omega)
     ·omega
    ·refine⟨by have:=hTl k (hcT k hk);omega,fun hm=>hap k hm hk,fun e=>hJ.dD.1 (e▸hcT k hk),fun e=>(hJ.jM k e).2 (hcT k hk)⟩) hL ⟨rfl,show (2:Nat)<3 by decide,hp.move fun k hk hkl=>⟨k02.block k hkl (hJ.low k hk.1).2,Or.inl hk.1,hk.2⟩,rfl,Or.inr ⟨show (2:Nat)≠1 by decide,r3▸r1.rep fun k hk=>⟨Or.inr (Or.inr (Or.inr (r2▸hk))),hJ.up.2 k (hcT k (r2▸hk))⟩⟩⟩ (by rw[Sp.er_put p (f+1) n2 hs,e2,Sp.er_put p (f+1) _ hs])
    (fun h1 h2=>back_swap hJ.tr hs hf hr ((h2 _ (Or.inr (Or.inl rfl))).trans hq2) (Or.inr (Or.inl rfl)) ((h2 _ (Or.inr (Or.inr (Or.inl rfl)))).trans hx2) (Or.inr (Or.inr (Or.inl rfl))) (hc3.move fun k hk=>h2 k (Or.inr (Or.inr (Or.inr hk)))) a3 (fun k hk=>⟨Or.inr (Or.inr (Or.inr hk)),fun hm=>(hJ.low k hm).2 (hcT k hk)⟩) h1) ent_swap (fun k hk=>by
    rcases t3 k hk with h|h|h
    ·exact hJ.up.2 k h
    ·exact Or.inl (hxd k h).2.2.2.2
    ·exact Or.inl (by have:=hJ.up.1;omega))
  exact⟨rfl,jn',_,_,by rw[Sp.er_put p (f+1) n2 hs,e2,Sp.er_put p (f+1) _ hs],hJ',hX⟩
end
end

section
open Go.RowKit Go.Maps
section
variable {w:World} {D b i:Nat} {key:Sp.By} {pa x:Option Addr} {pl pc:Nat}
theorem dPut_swap {y:Addr} {Q:World→Prop} (hG:Calls Tryz.prog 159 #[plV (.slice pa pl pc) b key i] (plW w pa pl pc b key i) fun e w'=>e = .returned (.pointer (some y))∧Below (w.heap.size+1) (plW w pa pl pc b key i) w')
  (hC:∀w2,Below (w.heap.size+1) (plW w pa pl pc b key i) w2→Calls Tryz.prog 200 #[.pointer (some ⟨D,0,none⟩),plV (.slice pa pl pc) b key i,.pointer x] w2 fun e w'=>e = .returned (.tuple #[])∧Q w') :
  Calls Tryz.prog 160 #[.pointer (some ⟨D,0,none⟩),plV (.slice pa pl pc) b key i,.pointer x] w fun e w'=>e = .returned (.tuple #[])∧Q w':=by
 have HG:=hide hG
 have HC:=hide hC
 have hbx:=heap_alloc_new w (.cells #[.slice pa pl pc,.pointer (some ⟨b,0,none⟩),.string ⟨key.toArray⟩,.int .i64 i] 185)
 have HP:=hide (show PBox (plW w pa pl pc b key i) w.heap.size (.slice pa pl pc) b key i from hbx)
 clear hG hC hbx
 go_enter Tryz.func160,Tryz.ntmps160
 go_wp2_with (fail)
 refine (unhide HG).mono ?_
 rintro e w2 ⟨rfl,hb⟩
 have hp2:PBox w2 w.heap.size (.slice pa pl pc) b key i:=(hb.block _ (by omega)).trans (unhide HP)
 have e0:=hp2.c0
 have e1:=hp2.c1
 have e2:=hp2.c2
 have e3:=hp2.c3
 have HB:=hide hb
 clear hb hp2
 go_wp2_with (fail)
 refine (unhide HC w2 (unhide HB)).mono ?_
 rintro e w3 ⟨rfl,hq⟩
 go_wp2_with (fail)
 exact bodyPost_ret (v:=.tuple #[]) (by simp[results,Tryz.results160,go_sem]) rfl ⟨rfl,hq⟩
theorem dPut_insert {Q:World→Prop} (hG:Calls Tryz.prog 159 #[plV (.slice pa pl pc) b key i] (plW w pa pl pc b key i) fun e w'=>e = .returned (.pointer none)∧Below (w.heap.size+1) (plW w pa pl pc b key i) w')
  (hC:∀w2,Below (w.heap.size+1) (plW w pa pl pc b key i) w2→Calls Tryz.prog 205 #[.pointer (some ⟨D,0,none⟩),plV (.slice pa pl pc) b key i,.pointer x] w2 fun e w'=>e = .returned (.tuple #[])∧Q w') :
  Calls Tryz.prog 160 #[.pointer (some ⟨D,0,none⟩),plV (.slice pa pl pc) b key i,.pointer x] w fun e w'=>e = .returned (.tuple #[])∧Q w':=by
 have HG:=hide hG
 have HC:=hide hC
 have hbx:=heap_alloc_new w (.cells #[.slice pa pl pc,.pointer (some ⟨b,0,none⟩),.string ⟨key.toArray⟩,.int .i64 i] 185)
 have HP:=hide (show PBox (plW w pa pl pc b key i) w.heap.size (.slice pa pl pc) b key i from hbx)
 clear hG hC hbx
 go_enter Tryz.func160,Tryz.ntmps160
 go_wp2_with (fail)
 refine (unhide HG).mono ?_
 rintro e w2 ⟨rfl,hb⟩
 have hp2:PBox w2 w.heap.size (.slice pa pl pc) b key i:=(hb.block _ (by omega)).trans (unhide HP)
 have e0:=hp2.c0
 have e1:=hp2.c1
 have e2:=hp2.c2
 have e3:=hp2.c3
 have HB:=hide hb
 clear hb hp2
 go_wp2_with (fail)
 refine (unhide HC w2 (unhide HB)).mono ?_
 rintro e w3 ⟨rfl,hq⟩
 go_wp2_with (fail)
 exact bodyPost_end (results_none rfl _ _ _) rfl ⟨rfl,hq⟩
end
theorem get_none {f b g i:Nat} {w:World} {u pth:Value} {es:List (Lit×Sp.A)} {key:Sp.By} (h:TRep (f+1) w u (Sp.nd b g (.map es))) (hf:∀p∈es,p.1≠Lit.string key) (hk:key.length≤1048576) :
  Calls Tryz.prog 159 #[plV pth b key i] w fun e w'=>e = .returned (.pointer none)∧Below w.heap.size w w':=by
 obtain⟨_,D,hvb,ho,hp⟩:=obj_open h
 have hh:Maps.has (.map D) (.string key)=false:=by
  rw[Pt.has _ hp]
  refine Bool.eq_false_iff.2 fun ht=>?_
  obtain⟨p,h1,h2⟩:=List.any_eq_true.1 (show (es.any fun p=>p.1.sameKey (.string key))=true from ht)
  rw[sameKey_ne (hf p h1)] at h2;cases h2
 have hx:(DataW.map D).atKey (.string key) (.held (.pointer none)) = .held (.pointer none):=by
  have h3:D.find? (fun p=>p.1.sameKey (.string key))=none:=by
   rw[List.find?_eq_none]
   intro p hp ht
   have h4:(D.any fun p=>p.1.sameKey (.string key))=true:=List.any_eq_true.2 ⟨p,hp,ht⟩
   have h5:(D.any fun p=>p.1.sameKey (.string key))=false:=hh
   rw[h5] at h4;cases h4
  rw[atKey_def,h3]
 exact get_obj (pth:=pth) (i:=i) hk hvb ho hx
theorem below_pl {w w2:World} {o:Obj} (h:Below (w.heap.size+1) (w.alloc o) w2):Below w.heap.size w w2:=by
 have hb:Below w.heap.size w (w.alloc o):=(Below.refl _ _).alloc (Nat.le_refl _) _
 exact⟨h.os.trans hb.os,h.tape.trans hb.tape,h.output.trans hb.output,Nat.le_trans hb.size h.size,fun k hk=>(h.block k (by omega)).trans (hb.block k hk)⟩
theorem JDoc.bel {L:Nat} {w w':World} {D:Nat} {rv jn iv:Value} {ch:Bool} {Tb T:Sp.A} {Mb M:Nat→Prop} {wb:World} {js:List Sp.Opn} (h:JDoc L w D rv jn iv ch Tb Mb wb T M js) (hb:Below w.heap.size w w') :
  JDoc L w' D rv jn iv ch Tb Mb wb T M js∧JEx M M w w':=by
 have h1:=h.grow hb (fun _=>False) (fun _ hx=>hx.elim)
 simpa using h1
section
variable {f:Nat} {p:List Nat} {w:World} {D i:Nat} {rv jn iv:Value} {ch:Bool} {Tb T m c x:Sp.A} {Mb M:Nat→Prop} {wb:World} {js:List Sp.Opn} {key:Sp.By} {pa px:Option Addr} {pl pc:Nat} {path:List Sp.By}
theorem put_doc (hJ:JDoc (f+1+p.length) w D rv jn iv ch Tb Mb wb T M js) (hs:Sp.sub p T=some m) (hf:Stands m i key c) (hr:Roomy m key) (hl:js.length≤1000000000) (hp:TokG w (GA (f+1+p.length) Tb wb M) (.slice pa pl pc) path) (hft:f≤top) (hx:TRep f w (.pointer px) x) (hxn:(Sp.fp f x).Nodup) (hxd:∀k∈Sp.fp f x,¬ M k∧k ∉ Sp.fp (f+1+p.length) T∧k≠D∧jn.ownBlock≠some k∧wb.heap.size≤k) :
  Calls Tryz.prog 160 #[.pointer (some ⟨D,0,none⟩),plV (.slice pa pl pc) (Sp.blk m) key i,.pointer px] w fun e w'=>e = .returned (.tuple #[]) ∧
   DocEnd (f+1+p.length) D rv iv ch Tb Mb wb (Sp.put p (Sp.setT i key x m) T) M (js++[(2,path,Sp.str f c)]) w w':=by
 obtain⟨u,hu⟩:=TRep.at (f:=f+1) hJ.tr hs
 obtain⟨a1,a2,a3,a4⟩:=hf.apart (Sp.sub_nodup (f:=f+1) hs hJ.nd)
 obtain⟨yv,hc⟩:=hu.kidAt a4
 obtain⟨yb,rfl,_⟩:=hc.ptr
 have hb:Below w.heap.size w (plW w pa pl pc (Sp.blk m) key i):=(Below.refl _ _).alloc (Nat.le_refl _) _
 have hbs:(plW w pa pl pc (Sp.blk m) key i).heap.size=w.heap.size+1:=by simp
 refine dPut_swap (y:=⟨yb,0,none⟩) ((get_tree (hu.bel hb) hf hr.2).mono ?_) (fun w2 hb2=>?_)
 ·rintro e w' ⟨⟨y,rfl,hy⟩,hb2⟩
  obtain rfl:=hy.uniq hc
  exact⟨rfl,hbs▸hb2⟩
 ·have h2:=below_pl hb2
  obtain⟨hJ2,hX2⟩:=hJ.bel h2
  refine (swap_doc hJ2 hs hf hr hl (hp.move fun k hk hkl=>⟨h2.block k hkl,hk⟩) hft (hx.bel h2) hxn hxd).mono ?_
  rintro e w3 ⟨rfl,jn',T',M',q1,q2,q3⟩
  exact⟨rfl,jn',T',M',q1,q2,hX2.trans q3⟩
theorem putn_doc {b g:Nat} {es:List (Lit×Sp.A)} (hJ:JDoc (f+1+p.length) w D rv jn iv ch Tb Mb wb T M js) (hs:Sp.sub p T=some (Sp.nd b g (.map es))) (hf:∀p∈es,p.1≠Lit.string key) (hr:Roomy (Sp.nd b g (.map es)) key) (hl:js.length≤1000000000) (hp:TokG w (GA (f+1+p.length) Tb wb M) (.slice pa pl pc) path) (hx:TRep f w (.pointer px) x) (hxn:(Sp.fp f x).Nodup) (hxd:∀k∈Sp.fp f x,¬ M k∧k ∉ Sp.fp (f+1+p.length) T∧k≠D∧jn.ownBlock≠some k∧wb.heap.size≤k) :
  Calls Tryz.prog 160 #[.pointer (some ⟨D,0,none⟩),plV (.slice pa pl pc) b key i,.pointer px] w fun e w'=>e = .returned (.tuple #[]) ∧
   DocEnd (f+1+p.length) D rv iv ch Tb Mb wb (Sp.put p (Sp.insT i key x (Sp.nd b g (.map es))) T) M (js++[(1,path,.nil)]) w w':=by
 obtain⟨u,hu⟩:=TRep.at (f:=f+1) hJ.tr hs
 have hb:Below w.heap.size w (plW w pa pl pc b key i):=(Below.refl _ _).alloc (Nat.le_refl _) _
 have hbs:(plW w pa pl pc b key i).heap.size=w.heap.size+1:=by simp
 refine dPut_insert ((get_none (hu.bel hb) hf hr.2).mono ?_) (fun w2 hb2=>?_)
 ·rintro e w' ⟨rfl,hb2⟩
  exact⟨rfl,hbs▸hb2⟩
 ·have h2:=below_pl hb2
  obtain⟨hJ2,hX2⟩:=hJ.bel h2
  refine (insert_doc (m:=Sp.nd b g (.map es)) hJ2 hs (Or.inr ⟨b,g,es,rfl,hf⟩) hr hl (hp.move fun k hk hkl=>⟨h2.block k hkl,hk⟩) (hx.bel h2) hxn hxd).mono ?_
  rintro e w3 ⟨rfl,jn',T',M',q1,q2,q3⟩
  exact⟨rfl,jn',T',M',q1,q2,hX2.trans q3⟩
end
end
end Go.Proofs.YtdpomdelmdofmaaGreatDoor
