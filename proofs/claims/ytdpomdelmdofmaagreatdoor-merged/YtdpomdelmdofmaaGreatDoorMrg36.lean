/-
  Patches: operations in a row; what Read keeps.
-/
import Derived.Test.YtdpomdelmdofmaaGreatDoorMrg27
import Derived.Test.YtdpomdelmdofmaaGreatDoorMrg35
import Derived.Test.YtdpomdelmdofmaaGreatDoorMrg29
import Derived.Test.YtdpomdelmdofmaaGreatDoorMrg32
import Derived.Test.YtdpomdelmdofmaaGreatDoorMrg26
import Derived.Test.YtdpomdelmdofmaaGreatDoorMrg24
namespace Go.Proofs.YtdpomdelmdofmaaGreatDoor
section
open Go.RowKit Go.Maps
theorem owns_cell4 {w:World} {B e n:Nat} {v:Value} {xs:List Value} (h:w.ownsRow B e 4 v n xs):∃ao cap g,v = .slice ao n cap∧(0<n→ao=some ⟨g,0,none⟩∧v.ownBlock=some g∧B≤g ∧ ∀k (hk:k<xs.length),w.cell? ⟨g,k,none⟩=some xs[k]):=by
 obtain⟨hlen,h⟩:=h
 rcases h with⟨h1,h0⟩|⟨g,cap,cur,h1,hB,h3,h4,h5,h6,h7⟩
 ·subst h0
  exact⟨none,0,0,h1,fun h=>absurd h (by omega)⟩
 ·refine⟨_,cap,g,h1,fun _=>⟨rfl,by rw[h1];rfl,hB,fun k hk=>?_⟩⟩
  have h8:cur.toList[k]? = some xs[k]:=by
   have h9:(cur.toList.take (n*4))[k]? = some xs[k]:=by rw[h7];exact List.getElem?_eq_getElem hk
   rw[List.getElem?_take_of_lt (by omega)] at h9
   exact h9
  have h10:cur[k]? = some xs[k]:=by rw[← h8,Array.getElem?_toList]
  simp[World.cell?,h3,h10]
end

section
open Go.RowKit Go.Maps
abbrev FN (F:Nat→Prop) (B:Nat):Nat→Prop:=fun k=>(F k∧k<B)∨B≤k
section
variable {w w2:World} {D R:Nat} {wp:Value} {iv:Value} {ch:Bool} {T a:Sp.A} {v:Sp.V}
theorem patch_start (h:DocT w D R wp (.slice none 0 0) iv ch T a v) (hb:Below w.heap.size w w2) :
  ∃wp0,wp = .pointer wp0∧JS w2 D R wp0 (.slice none 0 0) iv ch T (fun k=>k<w.heap.size∧k ∉ Sp.fp (top+1) T∧k≠D) w T a v (fun k=>k<w2.heap.size∧k ∉ Sp.fp (top+1) T∧k≠D) []:=by
 obtain⟨b,rfl,_⟩:=h.sub.ptr
 have hs:=hb.size
 refine⟨_,rfl,⟨⟨[],[],h.db.kept (hb.block D h.db.lt),⟨rfl,Or.inl ⟨rfl,rfl⟩⟩,trivial,fun N w' hA=>?_⟩,by simp[Value.ownBlock],fun g hg=>by simp[Value.ownBlock] at hg,h.tr.bel hb,h.nd,⟨h.nD,fun hm=>hm.2.2 rfl⟩,fun k hk=>⟨hk.1,hk.2.1⟩,⟨hs,fun k hk=>Or.inr hk⟩⟩,h.move (hb.block D h.db.lt) fun k hk=>hb.block k (h.tr.lt k hk)⟩
 obtain⟨T',e,t1,t2,t3⟩:=hA.tree
 exact⟨⟨T',e,t1,t2,fun k hk=>⟨fun hm=>(t3 k hk).1 ⟨by omega,hm.2⟩,(t3 k hk).2⟩⟩,fun k hm=>(hA.held k ⟨by omega,hm.2⟩).trans (hb.block k hm.1),fun k hm=>hA.low k ⟨by omega,hm.2⟩⟩
theorem DocT.of {w':World} {g:Nat} {T1:Sp.A} {a1:Sp.A} (hd:DB w' D (.pointer (some ⟨R,0,none⟩)) (.slice none 0 0) ch iv) (ht:TRep (top+1) w' (.pointer (some ⟨R,0,none⟩)) T1) (hn:(Sp.fp (top+1) T1).Nodup) (hD:D ∉ Sp.fp (top+1) T1) (e:Sp.er (top+1) T1=Sp.er (top+1) (Sp.nd R g (.slice [a1] []))) :
  ∃wp a,DocT w' D R wp (.slice none 0 0) iv ch T1 a (Sp.str top a1):=by
 obtain⟨g',al',rfl,e2⟩:=ht.er_arr e
 obtain⟨a,rfl⟩:∃a,al'=[a]:=List.length_eq_one_iff.1 (by have:=congrArg List.length e2;simpa using this)
 have e3:Sp.er top a=Sp.er top a1:=by
  have:=congrArg (fun l:List Sp.A=>l[0]?) e2
  simpa using this
 obtain⟨u,hu⟩:∃u,TRep top w' u a:=TRep.at (f:=top) (p:=[0]) ht rfl
 exact⟨u,a,hd,ht,⟨g',rfl⟩,hu,by rw[← Sp.str_er,e3,Sp.str_er],hn,hD⟩
variable {F:Nat→Prop} {B:Nat} {d e:Int} {x:Sp.V×Sp.Inv} {w':World}
theorem patch_back (h:DocT w D R wp (.slice none 0 0) iv ch T a x.1) (hch:ch=x.2.isSome) (hF:∀k∈Sp.fp (top+1) T,F k) (hi:InvR w (fun k=>F k∧k≠D∧k ∉ Sp.fp (top+1) T) iv x.2) (fD:F D) (hl:(Sp.can top x.1).length≤80000) (hg:Sp.gd d e top 1 x.1) (hFB:∀k,F k→k<w.heap.size→k<B) (hB:B≤w.heap.size)
  (hA:TreeAt (top+1) (.pointer (some ⟨R,0,none⟩)) T (fun k=>k<w.heap.size∧k ∉ Sp.fp (top+1) T∧k≠D) (fun k=>k=D) w w') (hd:DB w' D (.pointer (some ⟨R,0,none⟩)) (.slice none 0 0) ch iv) :
  DocF w' (FN F B) (.pointer (some ⟨D,0,none⟩)) d e (some x):=by
 obtain⟨T',er',t1,t2,t3⟩:=hA.tree
 obtain⟨g,eT⟩:=h.one
 have hDl:=h.db.lt
 have hTl:=h.tr.lt
 obtain⟨wp',a',hd'⟩:=DocT.of hd t1 t2 (fun hm=>(t3 D hm).2 rfl) (by rw[er',eT])
 rw[h.str] at hd'
 have hin:∀k∈Sp.fp (top+1) T',w.heap.size≤k∨k∈Sp.fp (top+1) T:=fun k hk=>by
  by_cases h1:w.heap.size≤k
  ·exact Or.inl h1
  ·refine Or.inr (Classical.byContradiction fun h2=>(t3 k hk).1 ⟨by omega,h2,fun h3=>(t3 k hk).2 h3⟩)
 refine⟨D,R,wp',rfl,⟨T',a',iv,by rw[← hch];exact hd',fun k hk=>?_,hi.move fun k hk hkl=>?_⟩,Or.inl ⟨fD,hFB D fD hDl⟩,hl,hg⟩
 ·rcases hin k hk with h1|h1
  ·exact Or.inr (by omega)
  ·exact Or.inl ⟨hF k h1,hFB k (hF k h1) (hTl k h1)⟩
 ·refine⟨hA.held k ⟨hkl,hk.2.2,hk.2.1⟩,Or.inl ⟨hk.1,hFB k hk.1 hkl⟩,hk.2.1,fun hm=>?_⟩
  rcases hin k hm with h1|h1
  ·omega
  ·exact hk.2.2 h1
theorem patch_done {wk:World} {wp':Option Addr} {jn iv':Value} {T2 a2:Sp.A} {Mb M':Nat→Prop} {j:List Sp.Opn} {v':Sp.V} (hF:∀k∈Sp.fp (top+1) T,F k∧k<B) (fD:F D∧D<B) (hB:B≤w.heap.size)
  (hJ:JS wk D R wp' jn iv ch T Mb w T2 a2 v' M' j) (hd:DB w' D (.pointer (some ⟨R,0,none⟩)) (.slice none 0 0) true iv') (ho:OpsR w' (fun k=>GA (top+1) T w M' k∨wk.heap.size≤k) iv' j.reverse) (hk:KeptF (fun k=>k=D) wk w')
  (hl:(Sp.can top v').length≤80000) (hg:Sp.gd d e top 1 v') (hp:(Sp.ptext j.reverse).length≤8796093022208) (hok:∀o∈j.reverse,Sp.IOk o) :
  DocF w' (FN F B) (.pointer (some ⟨D,0,none⟩)) d e (some (v',some j.reverse)):=by
 have h:=hJ.t
 have hTl:=h.tr.lt
 have hup:=hJ.j.up
 have hnD:=h.nD
 have ht:∀k∈Sp.fp (top+1) T2,w'.heap[k]? = wk.heap[k]?:=fun k hkk=>hk.block k (hTl k hkk) fun e=>hnD (e▸hkk)
 have hsub:∀k,k∈Sp.fp top a2→k∈Sp.fp (top+1) T2:=fun k hkk=>by
  obtain⟨g,e⟩:=h.one
  rw[e,Sp.fp_arr]
  exact List.mem_cons_of_mem _ (List.mem_append_right _ (by simpa using hkk))
 have hin:∀k,(w.heap.size≤k∨k∈Sp.fp (top+1) T)→FN F B k:=fun k hh=>hh.elim (fun h1=>Or.inr (by omega)) fun h1=>Or.inl (hF k h1)
 refine⟨D,R,.pointer wp',rfl,⟨T2,a2,iv',⟨hd,h.tr.move ht,h.one,h.sub.move fun k hkk=>ht k (hsub k hkk),h.str,h.nd,h.nD⟩,fun k hkk=>hin k (hup.2 k hkk),ho.move fun k hkk hkl=>⟨rfl,?_⟩,hp,hok⟩,Or.inl fD,hl,hg⟩
 rcases hkk with⟨h1,h2⟩|h1
 ·exact⟨hin k h2,fun e=>hJ.j.dD.2 (e▸h1),(hJ.j.low k h1).2⟩
 ·have h3:=hJ.j.dlt
  exact⟨Or.inr (by have:=hup.1;omega),by omega,fun hm=>by have:=hTl k hm;omega⟩
end
end

section
open Go.RowKit Go.Maps
namespace Sp
theorem tokT_len:∀t:By,(tokT t).length≤2*t.length
 | []=>Nat.le_refl _
 | c::r=>by
  have h1:=tokT_len r
  have h2:(escT1 c).length≤2:=by
   unfold escT1
   repeat' split
   all_goals simp
  simp only[tokT,List.flatMap_cons,List.length_append,List.length_cons] at h1 ⊢
  omega
theorem ptxt_len:∀p:List By,(ptxt p).length≤2*(p.map fun t=>t.length+1).sum
 | []=>Nat.le_refl _
 | t::r=>by
  have h1:=ptxt_len r
  have h2:=tokT_len t
  simp only[ptxt,List.flatMap_cons,List.length_append,List.length_cons,List.map_cons,List.sum_cons] at h1 ⊢
  omega
theorem sum_bd {α:Type} {q:α→Nat} {m:Nat}:∀ {l:List α},(∀a∈l,q a≤m)→(l.map q).sum≤l.length*m
 | [],_=>by simp
 | a::l,h=>by
  have h1:=h a (by simp)
  have h2:=sum_bd (q:=q) (l:=l) fun b hb=>h b (by simp[hb])
  simp only[List.map_cons,List.sum_cons,List.length_cons,Nat.add_mul];omega
theorem arr_lenB {f m:Nat} {es:List V} (h:∀e∈es,(can f e).length≤m):(can (f+1) (vArr es)).length≤2+es.length*(m+1):=by
 rw[can_arr]
 have h1:=joinC_sum (es.map (can f))
 rw[List.map_map] at h1
 have h2:(es.map ((fun x=>x.length+1) ∘ can f)).sum≤es.length*(m+1):=sum_bd fun e he=>by have:=h e he;simp only[Function.comp];omega
 simp only[List.length_cons,List.length_append,List.length_nil]
 omega
theorem obj_lenB {f m:Nat} {es:List (Lit×V)} (h:∀k∈keys es,(item f es k).length≤m):(can (f+1) (vObj es)).length≤2+(keys es).length*(m+1):=by
 rw[can_obj]
 have h1:=joinC_sum ((skeys es).map (item f es))
 have hp:(skeys es).Perm (keys es):=List.mergeSort_perm _ _
 rw[List.map_map] at h1
 have h2:((skeys es).map ((fun x=>x.length+1) ∘ item f es)).sum≤(skeys es).length*(m+1):=sum_bd fun k hk=>by have:=h k (hp.mem_iff.1 hk);simp only[Function.comp];omega
 rw[hp.length_eq] at h2
 simp only[List.length_cons,List.length_append,List.length_nil]
 have h3:(joinC ((skeys es).map (item f es))).length≤(keys es).length*(m+1):=by omega
 exact Nat.le_trans (Nat.add_le_add_right (Nat.add_le_add_right h3 _) _) (by omega)
theorem fit_can {d x:Int} {B:Nat} {v:V} (h:Fit d x B v):(can (top-2) v).length≤B:=by
 have hd:=h.dd
 have g1:=gd_fuel (f:=1000) h.gd (by omega)
 have e1:=can_up 1000 (top-2) 1 v g1 (by unfold top;omega)
 have e2:=can_up 1000 top 1 v g1 (by unfold top;omega)
 have h1:=(can_sz h.gd).1
 have h2:=h.sz
 rw[e1,← e2];omega
theorem elem_len {d x:Int} {o:Opn} (h:OnOk d x 200000 o):(can (top-1) (elemV o)).length≤7300000:=by
 obtain⟨h1,h2⟩:=h
 have h3:=ptxt_len o.2.1
 have hq:=escS_le (ptxt o.2.1)
 have e1:(can (top-2) (vStr (ptxt o.2.1))).length=(quoT (ptxt o.2.1)).length:=rfl
 have hn:(opName o.1).length≤7:=by
  unfold opName
  repeat' split
  all_goals decide
 have hn2:=escS_le (opName o.1)
 have e2:(can (top-2) (vStr (opName o.1))).length=(quoT (opName o.1)).length:=rfl
 have q1:(quoT op_).length=4:=rfl
 have q2:(quoT path_).length=6:=rfl
 have q3:(quoT value_).length=7:=rfl
 unfold elemV
 split
 ·refine Nat.le_trans (obj_lenB (f:=top-2) (m:=2400100) fun k hk=>?_) (by simp[keys])
  have hk2:k=op_∨k=path_:=by simpa[keys] using hk
  rw[item_len]
  rcases hk2 with rfl|rfl
  ·have e3:look [(.string op_,vStr (opName o.1)),(.string path_,vStr (ptxt o.2.1))] op_=vStr (opName o.1):=rfl
   rw[e3,q1];omega
  ·have e3:look [(.string op_,vStr (opName o.1)),(.string path_,vStr (ptxt o.2.1))] path_=vStr (ptxt o.2.1):=rfl
   rw[e3,q2];omega
 ·rename_i hne
  have h4:=fit_can (h2 hne)
  refine Nat.le_trans (obj_lenB (f:=top-2) (m:=2400100) fun k hk=>?_) (by simp[keys])
  have hk2:k=op_∨k=path_∨k=value_:=by simpa[keys] using hk
  rw[item_len]
  rcases hk2 with rfl|rfl|rfl
  ·have e3:look [(.string op_,vStr (opName o.1)),(.string path_,vStr (ptxt o.2.1)),(.string value_,o.2.2)] op_=vStr (opName o.1):=rfl
   rw[e3,q1];omega
  ·have e3:look [(.string op_,vStr (opName o.1)),(.string path_,vStr (ptxt o.2.1)),(.string value_,o.2.2)] path_=vStr (ptxt o.2.1):=rfl
   rw[e3,q2];omega
  ·have e3:look [(.string op_,vStr (opName o.1)),(.string path_,vStr (ptxt o.2.1)),(.string value_,o.2.2)] value_=o.2.2:=rfl
   rw[e3,q3];omega
theorem ptext_len {d x:Int} {j:List Opn} (h:∀o∈j,OnOk d x 200000 o) (hn:j.length≤1000000):(ptext j).length≤8796093022208:=by
 have h1:=arr_lenB (f:=top-1) (m:=7300000) (es:=j.map elemV) fun e he=>by
  obtain⟨o,ho,rfl⟩:=List.mem_map.1 he
  exact elem_len (h o ho)
 have h2:(ptext j).length≤2+(j.map elemV).length*(7300000+1):=h1
 rw[List.length_map] at h2
 have h3:j.length*(7300000+1)≤1000000*7300001:=Nat.mul_le_mul_right _ hn
 omega
end Sp
end

section
set_option maxRecDepth 100000
set_option maxHeartbeats 2000000
open Go.RowKit Go.Maps
noncomputable def Sp.mrgX (v q:Sp.V):Except (Nat×Nat) (Sp.V×List Sp.Opn):=if 20000<(Sp.can top (Sp.mrg top (some v) [] q).1).length then .error (4,0) else .ok (Sp.mrg top (some v) [] q)
section
variable {w:World} {D R:Nat} {wp:Option Addr} {iv:Value} {ch:Bool} {Tb T a:Sp.A} {Mb M F:Nat→Prop} {wb:World} {v q:Sp.V} {d x:Int} {p2:Option Addr}
theorem dmerge_top (h:JS w D R wp (.slice none 0 0) iv ch Tb Mb wb T a v M []) (hgv:Sp.gd d x top 1 v) (hsv:Sp.sz top v≤200000) (hq:Rep top F w (.pointer p2) q) (hF:∀k,F k→M k) (hgq:Sp.gd d x top 1 q) (hsq:Sp.sz top q≤200000) :
  Calls Tryz.prog 120 #[.pointer (some ⟨D,0,none⟩),plV (.slice none 0 0) R [] 0,.pointer p2] w fun e w'=>e = .returned (.tuple #[]) ∧ ∃wp' jn' T' a' M',JS w' D R wp' jn' iv ch Tb Mb wb T' a' (Sp.mrg top (some v) [] q).1 M' (Sp.mrg top (some v) [] q).2∧JEx M M' w w':=by
 obtain⟨g,hT1⟩:=h.t.one
 have hstr:=h.t.str
 have hst:Stands (Sp.nd R g (.slice [a] [])) 0 [] a:=Or.inl ⟨R,g,[a],rfl,rfl⟩
 have H:MergeAt d x top:=merge_doc top
 refine (@H (top+1) [] w D 0 (.pointer (some ⟨R,0,none⟩)) (.slice none 0 0) iv ch Tb T (Sp.nd R g (.slice [a] [])) (some a) Mb M F wb [] [] none 0 0 [] (.pointer p2) q 1 rfl (Nat.le_refl _) h.j (by rw[hT1];rfl) hst ⟨by rw[Sp.kids_arr];show 1+1≤1000000000000;omega,by decide⟩ (by simp only[List.length_nil];omega) (Or.inl ⟨rfl,none,0,rfl,by unfold maxLen;omega⟩) (Nat.le_refl _) (fun _=>⟨0,rfl⟩) hq hF (by omega) hgq (by omega) (fun c hc=>by injection hc with hc;subst hc;rw[hstr];exact⟨hgv,by omega⟩)).mono ?_
 rintro e w' ⟨rfl,c',hend,hc⟩
 rw[show (some a).map (Sp.str top)=some v by rw[← hstr];rfl] at hend hc
 exact⟨rfl,JS.done (js:=(Sp.mrg top (some v) [] q).2) hend rfl hc⟩
theorem dMerge_any (h:JS w D R wp (.slice none 0 0) iv ch Tb Mb wb T a v M []) (hT:Laid w) (hM0:∀k,k<NG→M k) (hMb:∀k,Mb k→k≠D∧k<w.heap.size) (hd:d≤100)
  (hgv:Sp.gd d x top 1 v) (hsv:Sp.sz top v≤200000) (hq:Rep top F w (.pointer p2) q) (hF:∀k,F k→M k) (hgq:Sp.gd d x top 1 q) (hsq:Sp.sz top q≤200000) :
  Calls Tryz.prog 85 #[.pointer (some ⟨D,0,none⟩),.pointer p2] w fun e w'=>∃c:Nat,e = .returned (.int .i64 c)∧PatchEnd D R iv ch Tb Mb wb M d x 100000 w (Sp.mrgX v q) (.returned (.tuple #[.int .i64 0,.int .i64 c])) w':=by
 have HM:=hide (dmerge_top h hgv hsv hq hF hgq hsq)
 obtain⟨q1,q2,q3⟩:=Sp.mrg_ok (d:=d) (x:=x) top 1 (some v) [] q 200000 (by omega) (fun u hu=>by injection hu with hu;subst hu;exact⟨hgv,hsv⟩) hgq
 have q4:Sp.sz top (Sp.mrg top (some v) [] q).1≤400000:=by
  have h1:Sp.sz top (Sp.mrg top (some v) [] q).1≤Sp.sz top v+Sp.sz top q:=Sp.mrg_sz (d:=d) (x:=x) top 1 (some v) [] q (by omega) (fun u hu=>by injection hu with hu;subst hu;exact hgv) hgq
  omega
 have HJS:=hide h
 have hdb:=h.t.db
 have c0:=hdb.c0
 have HT:=hide hT
 have HM0:=hide hM0
 have HMB:=hide hMb
 have HG:=hide q1
 have HO:=hide (fun o (ho:o∈(Sp.mrg top (some v) [] q).2)=>Sp.mok_on (q2 o ho) (by omega) (by simp only[List.map_nil,List.sum_nil];omega))
 have HL:=hide (show (Sp.mrg top (some v) [] q).2.length≤200000 by omega)
 have HSZ:=hide q4
 obtain⟨v1,hv1⟩:∃v1,v1=(Sp.mrg top (some v) [] q).1:=⟨_,rfl⟩
 obtain⟨j1,hj1⟩:∃j1,j1=(Sp.mrg top (some v) [] q).2:=⟨_,rfl⟩
 have HX:=hide (show Sp.mrgX v q=if 20000<(Sp.can top v1).length then .error (4,0) else .ok (v1,j1) by unfold Sp.mrgX;rw[hv1,hj1])
 rw[← hv1] at HM HG HSZ
 rw[← hj1] at HM HO HL
 obtain⟨r,hr⟩:∃r,r=Sp.mrgX v q:=⟨_,rfl⟩
 rw[← hr] at HX ⊢
 obtain⟨Q,hQ⟩:∃Q:Ending→World→Prop,Q=fun e w'=>∃c:Nat,e = .returned (.int .i64 c)∧PatchEnd D R iv ch Tb Mb wb M d x 100000 w r (.returned (.tuple #[.int .i64 0,.int .i64 c])) w':=⟨_,rfl⟩
 rw[← hQ]
 have HQ:=hide hQ
 clear h hT hM0 hMb hgv hsv hq hF hgq hsq q1 q2 q3 q4 hdb hv1 hj1 hr hQ
 go_enter Tryz.func85,Tryz.ntmps85
 go_wp2_with (fail)
 refine (unhide HM).mono ?_
 rintro e w1 ⟨rfl,wp1,jn1,T1,a1,M1,s1,s2⟩
 have HJ:=hide s1
 have HX1:=hide s2
 have HIL:=hide (isLong_doc (d:=d) (x:=x) (B:=400000) s1 ((unhide HT).jex (unhide HM0) s2) ⟨unhide HG,by omega,unhide HSZ⟩ (by omega))
 clear s1 s2
 go_wp2_with (fail)
 refine (unhide HIL).mono ?_
 rintro e w2 ⟨rfl,hb2⟩
 have HB2:=hide hb2
 clear hb2 HIL
 by_cases hlong:20000<(Sp.can top v1).length
 ·have HTB:=hide (takeBack_end (d:=d) (x:=x) (n:=100000) (c:=4) (i:=0) ((unhide HJ).bel (unhide HB2)) ((unhide HX1).trans ((unhide HJ).j.bel (unhide HB2)).2) (unhide HMB))
  have hr:=unhide HX
  rw[if_pos hlong] at hr
  have hdec:=decide_eq_true hlong
  rw[hdec]
  clear hdec hlong HX
  go_wp2_with (fail)
  refine (unhide HTB).mono ?_
  rintro e w3 ⟨rfl,hp⟩
  have HP:=hide hp
  clear hp HTB
  go_wp2_with (fail)
  show Q (.returned (.int .i64 4)) _
  rw[unhide HQ]
  refine⟨4,rfl,?_⟩
  rw[hr]
  exact unhide (unhide HP)
 ·have HK:=hide (keep_any (((unhide HJ).bel (unhide HB2)).j) (by have:=unhide HL;omega))
  have hr:=unhide HX
  rw[if_neg hlong] at hr
  have HSH:=hide (show (Sp.can top v1).length≤20000 by omega)
  have hdec:=decide_eq_false hlong
  rw[hdec]
  clear hdec hlong HX
  go_wp2_with (fail)
  refine (unhide HK).mono ?_
  rintro e w3 ⟨rfl,iv',k1,k2,k3⟩
  have HP:=hide (show PatchEnd D R iv ch Tb Mb wb M d x 100000 w (.ok (v1,j1)) (.returned (.tuple #[.int .i64 0,.int .i64 0])) w3 from⟨rfl,wp1,jn1,T1,a1,M1,w2,iv',(unhide HJ).bel (unhide HB2),(unhide HX1).trans ((unhide HJ).j.bel (unhide HB2)).2,k1,k2,k3,⟨unhide HG,by omega,by have:=(Sp.can_sz (unhide HG)).2;have:=unhide HSH;omega⟩,by have:=unhide HSH;omega,unhide HO,by have:=unhide HL;omega⟩)
  clear k1 k2 k3 HK
  go_wp2_with (fail)
  show Q (.returned (.int .i64 0)) _
  rw[unhide HQ]
  refine⟨0,rfl,?_⟩
  rw[hr]
  exact unhide HP
end
end

section
open Go.RowKit Go.Maps
theorem am_fin {F:Nat→Prop} {p:Value} {d e:Int} {A:Sp.Ans} {v':Sp.V×Sp.Inv} {w w3:World} (a b c:Value) (hk:KeptF (fun k=>F k∧k<w.heap.size) w w3) (hd:DocF w3 (FN (fun k=>F k∧k<w.heap.size) (w.heap.size+1)) p d e (some v')) :
  AmEnd F p d e (A,v') w (.returned (ansA A)) (((w3.setCell ⟨w.heap.size,0,none⟩ a).setCell ⟨w.heap.size,1,none⟩ b).setCell ⟨w.heap.size,2,none⟩ c):=by
 have hs:=SameBut.of3 w.heap.size w3 a b c
 refine⟨rfl,(hs.kept hk (Nat.le_refl _)).mono fun k h=>h.1,hd.move fun k hk hkl=>⟨hs.block k ?_,?_⟩⟩
 ·rcases hk with⟨⟨_,h1⟩,_⟩|h1<;>omega
 ·rcases hk with⟨h1,_⟩|h1
  ·exact Or.inl h1
  ·exact Or.inr (by omega)
end
end Go.Proofs.YtdpomdelmdofmaaGreatDoor
