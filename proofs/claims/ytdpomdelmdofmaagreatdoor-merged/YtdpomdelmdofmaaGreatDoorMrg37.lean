/-
  The session's merge.
-/
import Derived.Test.YtdpomdelmdofmaaGreatDoorMrg36
import Derived.Test.YtdpomdelmdofmaaGreatDoorMrg34
import Derived.Test.YtdpomdelmdofmaaGreatDoorMrg30
import Derived.Test.YtdpomdelmdofmaaGreatDoorMrg31
namespace Go.Proofs.YtdpomdelmdofmaaGreatDoor
section
set_option maxRecDepth 100000
set_option maxHeartbeats 2000000
open Go.RowKit Go.Maps
def MergeR (F:Nat→Prop) (w W0:World) (D:Nat) (d e:Int) (v:Sp.V×Sp.Inv) (q:Sp.V) (x:Ending) (w3:World):Prop:=∃ (c:Nat) (v':Sp.V×Sp.Inv),x = .returned (.int .i64 c)∧w3.heap[w.heap.size]? = W0.heap[w.heap.size]? ∧ KeptF F w w3 ∧
 DocF w3 (FN F (w.heap.size+1)) (.pointer (some ⟨D,0,none⟩)) d e (some v')∧Sp.mergeA v q=((c,0,[]),v')
theorem merge_call {w W0 w9:World} {F:Nat→Prop} {D R lo:Nat} {wp:Value} {d e:Int} {v:Sp.V×Sp.Inv} {q:Sp.V} {p2:Option Addr} (hd:DocW w F D R wp d e v) (hF:∀k,F k→NG≤k∧k<w.heap.size∧k<lo) (hW:Below w.heap.size w W0) (hWs:W0.heap.size=w.heap.size+1) (hb:Below W0.heap.size W0 w9) (hT:Laid w9)
  (hq:Rep top (fun k=>lo≤k) w9 (.pointer p2) q) (hgq:Sp.gd d e top 1 q) (hlq:(Sp.can top q).length≤80000) (hd2:d≤20) :
  Calls Tryz.prog 85 #[.pointer (some ⟨D,0,none⟩),.pointer p2] w9 (MergeR F w W0 D d e v q):=by
 obtain⟨T,a,iv,h1,h2,h3⟩:=hd.ex
 have fD:=hd.fD
 have hlen:=hd.len
 have hgd:=hd.gd
 have h1':DocT W0 D R wp (.slice none 0 0) iv v.2.isSome T a v.1:=h1.move (hW.block D h1.db.lt) fun k hk=>hW.block k (h1.tr.lt k hk)
 have h3':InvR W0 (fun k=>F k∧k≠D∧k ∉ Sp.fp (top+1) T) iv v.2:=h3.move fun k hk hkl=>⟨hW.block k hkl,hk⟩
 obtain⟨wp0,rfl,hJ⟩:=patch_start h1' hb
 have hTl:=h1.tr.lt
 have hDl:=h1.db.lt
 have hbs:=hb.size
 have hng:=hT.ng
 refine (dMerge_any (d:=d) (x:=e) hJ hT (fun k hk=>⟨?_,fun hm=>?_,fun e=>?_⟩) (fun k hk=>⟨hk.2.2,by omega⟩) (by omega) hgd (by have:=(Sp.can_sz hgd).2;omega) (hq.move (F':=fun k=>lo≤k∧k<w9.heap.size) fun k hk hkl=>⟨rfl,hk,hkl⟩) (fun k hk=>⟨hk.2,fun hm=>?_,fun e=>?_⟩) hgq (by have:=(Sp.can_sz hgq).2;omega)).mono ?_
 ·omega
 ·have:=(hF k (h2 k hm)).1;omega
 ·have:=(hF k (e▸fD)).1;omega
 ·have:=(hF k (h2 k hm)).2.2;omega
 ·have:=(hF k (e▸fD)).2.2;omega
 ·rintro x w3 ⟨c,rfl,hp⟩
  have hkeep:∀k,k<w.heap.size → ¬ F k→k<W0.heap.size∧k ∉ Sp.fp (top+1) T∧k≠D:=fun k hk hx=>⟨by omega,fun hm=>hx (h2 k hm),fun e=>hx (e▸fD)⟩
  have hq:w.heap.size<W0.heap.size∧w.heap.size ∉ Sp.fp (top+1) T∧w.heap.size≠D:=⟨by omega,fun hm=>by have:=hTl _ hm;omega,by omega⟩
  unfold Sp.mrgX at hp
  by_cases hlong:20000<(Sp.can top (Sp.mrg top (some v.1) [] q).1).length
  ·rw[if_pos hlong] at hp
   obtain⟨e1,p1,p2,p3,p4,p5,p6⟩:=hp
   injection e1 with e1;injection e1 with e1
   obtain rfl:c=4:=by
    have h:=congrArg (fun a:Array Value=>a[1]?) e1
    simp at h
    omega
   refine⟨4,v,rfl,p2.held _ hq,⟨p3.trans (hb.os.trans hW.os),p4.trans (hb.tape.trans hW.tape),p5.trans (hb.output.trans hW.output),by have:=hW.size;omega,fun k hk hx=>(p2.held k (hkeep k hk hx)).trans (hW.block k hk)⟩,?_,by unfold Sp.mergeA;rw[if_pos hlong]⟩
   exact patch_back h1' rfl h2 h3' fD hlen hgd (fun k hk _=>by have:=(hF k hk).2.1;omega) (by omega) p2 p1
  ·rw[if_neg hlong] at hp
   obtain⟨e1,wp',jn,T2,a2,M',wk,iv',s1,s2,s3,s4,s5,s6,s7,s8,s9⟩:=hp
   injection e1 with e1;injection e1 with e1
   obtain rfl:c=0:=by
    have h:=congrArg (fun a:Array Value=>a[1]?) e1
    simp at h
    omega
   have hM:∀k,k<W0.heap.size∧k ∉ Sp.fp (top+1) T∧k≠D→w3.heap[k]? = W0.heap[k]?:=fun k hk=>by
    have h4:=s2.kept k ⟨by omega,hk.2⟩
    exact (s5.block k (by have:=s2.size;omega) hk.2.2).trans (h4.2.trans (hb.block k hk.1))
   refine⟨0,((Sp.mrg top (some v.1) [] q).1,some (Sp.mrg top (some v.1) [] q).2.reverse),rfl,hM _ hq,⟨s5.os.trans (s2.os.trans (hb.os.trans hW.os)),s5.tape.trans (s2.tape.trans (hb.tape.trans hW.tape)),s5.output.trans (s2.output.trans (hb.output.trans hW.output)),by have:=hW.size;have:=s2.size;have:=s5.size;omega,fun k hk hx=>(hM k (hkeep k hk hx)).trans (hW.block k hk)⟩,?_,by unfold Sp.mergeA;rw[if_neg hlong]⟩
   refine patch_done (F:=F) (B:=w.heap.size+1) (fun k hk=>⟨h2 k hk,by have:=hTl k hk;omega⟩) ⟨fD,by omega⟩ (by omega) s1 s3 s4 s5 s7 s6.gd (Sp.ptext_len (d:=d) (x:=e) (fun o ho=>s8 o (List.mem_reverse.1 ho)) ?_) fun o ho=>⟨by have:=(s8 o (List.mem_reverse.1 ho)).1;omega,fun h=>⟨_,_,((s8 o (List.mem_reverse.1 ho)).2 h).gd,((s8 o (List.mem_reverse.1 ho)).2 h).dd⟩⟩
   rw[List.length_reverse];exact Nat.le_trans s9 (by decide)
theorem smerge_any {S lo:Nat} {d e n:Int} {p:Value} {v:Sp.V×Sp.Inv} {F:Nat→Prop} {s:Sp.By} {q:Sp.V} {p2:Option Addr} {w:World} (hcfg:Sp.cfg d e n=true) (hF:∀k,F k→NG≤k∧k≠S∧k<lo) (hS:SB w S d e n p) (hD:DocF w F p d e (some v)) (hT:Laid w)
  (hr:Sp.readTo s d e=(0,some q)) (hq:Tr top lo w (.pointer p2) q) :
  Calls Tryz.prog 60 #[.pointer (some ⟨S,0,none⟩),.pointer p2] w (AmEnd F p d e (Sp.mergeA v q) w):=by
 obtain⟨hd1,hd2⟩:1≤d∧d≤20:=by
  unfold Sp.cfg Sp.inB at hcfg
  simp at hcfg;omega
 obtain⟨D,R,wp,rfl,hdw⟩:=hD
 have hdw':=hdw.move (F':=fun k=>F k∧k<w.heap.size) (fun k h1 h2=>⟨rfl,h1,h2⟩)
 obtain⟨W0,hW0⟩:∃W0,W0=w.alloc (.cells #[.int .i64 0,.int .i64 0,.string ⟨#[]⟩] 46):=⟨_,rfl⟩
 have hb0:Below w.heap.size w W0:=by rw[hW0];exact (Below.refl _ _).alloc (Nat.le_refl _) _
 have hs0:W0.heap.size=w.heap.size+1:=by rw[hW0];simp
 have hab0:AB W0 w.heap.size:=by rw[hW0];exact AB.new w
 have HM:=hide (merge_call hdw' (fun k hk=>⟨(hF k hk.1).1,hk.2,(hF k hk.1).2.2⟩) hb0 hs0 (Below.refl _ _) (hT.below (hb0.mono hT.ng)) (hq.rep.bel hb0) (read_gd hr) (read_bd hr top) hd2)
 have HAB0:=hide hab0
 have hS0:=hS.low hb0
 have c3:=hS0.c3
 obtain⟨RR,hRR⟩:∃RR,RR=Sp.mergeA v q:=⟨_,rfl⟩
 rw[← hRR]
 have HRR:=hide hRR
 have HW0:=hide hW0
 rw[hW0] at c3
 clear hcfg hF hS hdw hdw' hT hb0 hs0 hab0 hS0 hRR hW0 hr hq
 go_enter Tryz.func60,Tryz.ntmps60
 go_wp2_with (fail)
 rw[← unhide HW0]
 refine (unhide HM).mono ?_
 rintro x w3 ⟨c,v',rfl,q1,q2,q3,q4⟩
 have HEND:=hide (show KeptF (fun k=>F k∧k<w.heap.size) w w3∧DocF w3 (FN (fun k=>F k∧k<w.heap.size) (w.heap.size+1)) (.pointer (some ⟨D,0,none⟩)) d e (some v')∧RR=((c,0,[]),v') from⟨q2,q3,(unhide HRR).trans q4⟩)
 have a3:AB w3 w.heap.size:=q1.trans (unhide HAB0)
 have g0:=a3.c0
 have g1:=a3.c1
 have g2:=a3.c2
 have z:=a3.fz
 clear q1 q2 q3 q4 a3 HM c3
 go_wp2_with (fail)
 refine bodyPost_ret (v:=ansA (c,0,[])) (by simp[results,Tryz.results60,go_sem,ansA,g0,g1,g2]) rfl ?_
 obtain⟨q2,q3,q4⟩:=unhide HEND
 rw[q4]
 exact am_fin _ _ _ q2 q3
theorem merge_ok:MergeOk:=fun _ _ _ _ _ _ _ _ _ _ _ _ hc hF hS hD hT hr hq=>smerge_any hc hF hS hD hT hr hq
end

section
set_option maxRecDepth 100000
set_option maxHeartbeats 400000
open Go.RowKit Go.Maps
def MdfRes (F':Nat→Prop) (w:World) (e:Ending) (w':World):Option Sp.V→Prop
 | none=>e = .returned (.tuple #[.pointer none,.bool false])
 | some z=>∃p,e = .returned (.tuple #[.pointer (some p),.bool true])∧Rep top (fun k=>F' k∨w.heap.size≤k) w' (.pointer (some p)) z
theorem MdfEnd.as {F':Nat→Prop} {a b:Sp.V} {w w':World} {e:Ending} {f:Nat} (hf:f=top) (h:MdfEnd f F' a b w e w') {r:Option Sp.V} (hr:r=Sp.mdf f a b):Below w.heap.size w w'∧MdfRes F' w e w' r:=by
 obtain⟨h1,h2⟩:=h
 refine⟨h1,?_⟩
 cases hm:Sp.mdf f a b with
 | none=>rw[hm] at h2 hr;subst hr;exact h2
 | some z=>rw[hm] at h2 hr;subst hr;subst hf;exact h2
theorem mergeDiff_ok:MergeDiffOk:=by
 intro S lo d e n p v F s q p2 w hcfg hS hD hT hr hq
 obtain⟨hd1,hd2⟩:1≤d∧d≤20:=by
  unfold Sp.cfg Sp.inB at hcfg
  simp at hcfg;omega
 obtain⟨D,R,wp,rfl,hdw⟩:=hD
 obtain⟨T,a,iv,h1,h2,h3⟩:=hdw.ex
 have hba:Below w.heap.size w (w.alloc (.cells #[.int .i64 0,.int .i64 0,.string ⟨#[]⟩] 46)):=(Below.refl _ _).alloc (Nat.le_refl _) _
 have c3:=(hS.low hba).c3
 have HAB:=hide (AB.new w)
 have HBA:=hide hba
 have hsz:(w.alloc (.cells #[.int .i64 0,.int .i64 0,.string ⟨#[]⟩] 46)).heap.size=w.heap.size+1:=by simp
 have HT:=hide (hT.below (hba.mono hT.ng))
 have h1':DocT (w.alloc (.cells #[.int .i64 0,.int .i64 0,.string ⟨#[]⟩] 46)) D R wp (.slice none 0 0) iv v.2.isSome T a v.1:=h1.move (hba.block D h1.db.lt) fun k hk=>hba.block k (h1.tr.lt k hk)
 obtain⟨b,rfl,_⟩:=h1'.sub.ptr
 have HW:=hide (WholeT h1')
 have hrep:Rep top (fun _=>True) (w.alloc (.cells #[.int .i64 0,.int .i64 0,.string ⟨#[]⟩] 46)) (.pointer (some ⟨b,0,none⟩)) v.1:=by
  rw[← h1'.str]
  exact h1'.sub.rep fun _ _=>trivial
 have HREP:=hide hrep
 have HQ2:=hide (hq.rep.bel hba)
 have hgd:=hdw.gd
 have hgq:=read_gd hr
 have hs1:Sp.sz top v.1≤160000:=by have:=(Sp.can_sz hgd).2;have:=hdw.len;omega
 have hs2:Sp.sz top q≤160000:=by have:=(Sp.can_sz hgq).2;have:=read_bd hr top;omega
 have htop:top=2000+1:=by decide
 have hms:=mems_ok (g:=2000) (by rw[← htop];exact hgd)
 rw[← htop] at hms
 have HMD:=hide (fun (w2:World) (hb:Below (w.alloc (.cells #[.int .i64 0,.int .i64 0,.string ⟨#[]⟩] 46)).heap.size (w.alloc (.cells #[.int .i64 0,.int .i64 0,.string ⟨#[]⟩] 46)) w2) =>
  mdf_any (d:=d) (x:=e) top 2000 1 (fun _=>True) (fun k=>lo≤k∧k<w2.heap.size) w2 (.pointer (some ⟨b,0,none⟩)) (.pointer p2) v.1 q htop (src_of (by rw[← htop];exact (unhide HREP).bel hb)) hms.1 (by omega) (((unhide HQ2).bel hb).move fun k hk hkl=>⟨rfl,hk,hkl⟩) (fun k hk=>hk.2) hgq (by omega))
 obtain⟨r,hrr⟩:∃r,r=Sp.mdf top v.1 q:=⟨_,rfl⟩
 have HR:=hide hrr
 have HLEN:=hide (fun z (hz:r=some z)=>(show (Sp.can top z).length≤8796093022208 by
  obtain⟨g1,g2⟩:=mdf_bd (d:=d) (x:=e) top 1 v.1 q z 160000 hgq (fun g hg=>by
   obtain rfl:g=2000:=by omega
   exact⟨hms.1,by omega⟩) (hrr.symm.trans hz)
  have g3:=(Sp.can_sz g1).1
  have g4:(2*160000+1)*Sp.sz top q≤(2*160000+1)*160000:=Nat.mul_le_mul_left _ hs2
  omega))
 obtain⟨RR,hRR⟩:∃RR,RR=Sp.mdiffAns v.1 q:=⟨_,rfl⟩
 rw[← hRR]
 have HRR:=hide hRR
 clear hcfg hS hdw h1 h2 h3 hT hr hq hba h1' hrep hgd hgq hs1 hs2 hms hRR hrr htop
 go_enter Tryz.func63,Tryz.ntmps63
 go_wp2_with (fail)
 refine (unhide HW).mono ?_
 rintro x w2 ⟨rfl,hb2⟩
 have HB2:=hide hb2
 have hmd:=unhide HMD w2 hb2
 obtain⟨QQ,hQQ⟩:∃QQ:Ending→World→Prop,QQ=MdfEnd top (fun k=>lo≤k∧k<w2.heap.size) v.1 q w2:=⟨_,rfl⟩
 rw[← hQQ] at hmd
 have HMD2:=hide hmd
 have HQQ:=hide hQQ
 have HT2:=hide ((unhide HT).below (hb2.mono (unhide HT).ng))
 have A2:=hide ((unhide HAB).low (hb2.mono (by rw[hsz];omega)))
 clear hb2 HW hmd hQQ HMD
 go_wp2_with (fail)
 refine (unhide HMD2).mono ?_
 intro x w3 hx
 rw[unhide HQQ] at hx
 obtain⟨hb3,he⟩:=MdfEnd.as rfl hx (unhide HR)
 clear hx
 have hsz2:w.heap.size<w2.heap.size:=by have:=(unhide HB2).size;omega
 have A3:=hide ((unhide A2).low (hb3.mono (by omega)))
 have HBW:=hide ((unhide HBA).trans (((unhide HB2).trans (hb3.mono (unhide HB2).size)).mono (by rw[hsz];omega)))
 have HT3:=hide ((unhide HT2).below (hb3.mono (unhide HT2).ng))
 clear hb3
 cases hm:r with
 | none =>
  rw[hm] at he
  obtain rfl:x = .returned (.tuple #[.pointer none,.bool false]):=he
  have HR2:=hide (show RR=(15,0,[]) by rw[unhide HRR];unfold Sp.mdiffAns;rw[← unhide HR,hm])
  clear hm
  go_wp2_with (fail)
  refine (failed_any 15 w3).mono ?_
  rintro x w4 ⟨rfl,hb4⟩
  have a3:=(unhide A3).low (hb4.mono (by have:=(unhide HBW).size;omega))
  have g0:=a3.c0
  have g1:=a3.c1
  have g2:=a3.c2
  have z:=a3.fz
  have HB3:=hide ((unhide HBW).trans (hb4.mono (unhide HBW).size))
  clear a3 hb4
  unfold ansV
  go_wp2_with (fail)
  refine bodyPost_ret (v:=ansA (15,0,[])) (by simp[results,Tryz.results63,go_sem,ansA,g0,g1,g2]) rfl ?_
  rw[unhide HR2]
  exact⟨rfl,(SameBut.of3 w.heap.size w4 _ _ _).below (unhide HB3) (Nat.le_refl _)⟩
 | some z =>
  rw[hm] at he
  obtain⟨p,rfl,hz⟩:=he
  have HR2:=hide (show RR=(0,0,Sp.can top z) by rw[unhide HRR];unfold Sp.mdiffAns;rw[← unhide HR,hm])
  have HC:=hide (Canonical_any hz (unhide HT3) (unhide HLEN z hm))
  clear hm hz
  go_wp2_with (fail)
  refine (unhide HC).mono ?_
  rintro x w4 ⟨rfl,hb4⟩
  have a3:=(unhide A3).low (hb4.mono (by have:=(unhide HBW).size;omega))
  have g0:=a3.c0
  have g1:=a3.c1
  have g2:=a3.c2
  have z':=a3.fz
  have HB3:=hide ((unhide HBW).trans (hb4.mono (unhide HBW).size))
  clear a3 hb4
  go_wp2_with (fail)
  refine bodyPost_ret (v:=ansA (0,0,Sp.can top z)) (by simp[results,Tryz.results63,go_sem,ansA,g0,g1,g2]) rfl ?_
  rw[unhide HR2]
  exact⟨rfl,(SameBut.of3 w.heap.size w4 _ _ _).below (unhide HB3) (Nat.le_refl _)⟩
end

section
open Go.RowKit Go.Maps
namespace Sp
variable {d x:Int}
theorem like_get {es es':List (Lit×V)} {k:Lit} (h:Like es es' k):get? es k=get? es' k:=by
 unfold get?
 rw[h.1,h.2]
theorem get_has {es:List (Lit×V)} {k:Lit} {z:V} (h1:Maps.has (.map es:V) k=true) (h2:(DataW.map es).atKey k .nil=z):get? es k=some z:=by
 unfold get?
 rw[if_pos h1,h2]
theorem mrg_none {f:Nat} {lv:Int} {s s':List By} {z:V} (hz:gd d x f lv z):(mrg f none s z).1=(mrg f (some (.map [])) s' z).1:=by
 cases f with
 | zero=>exact hz.elim
 | succ f =>
  cases hob:isObj z with
  | false=>rw[mrg_leaf (Or.inr hob),mrg_leaf (Or.inr hob)]
  | true =>
   obtain⟨ps,rfl⟩:∃ps,z = .map ps:=by
    cases z<;>first|exact⟨_,rfl⟩|cases hob
   have hpm:=(gd_map hz).2
   rw[mrg_map]
   have hnil:Skey ([]:List (Lit×V)):=⟨List.Pairwise.nil,fun p hp=>by cases hp⟩
   obtain⟨g1,g2⟩:=mall_get (m:=mrg f) (s:=s') hpm.skey hnil
   obtain⟨q1,q2⟩:=pureM_get (f:=f) hpm.skey
   show DataW.map (pureM f ps)=_
   congr 1
   refine skey_ext q1 g1 fun k=>?_
   rw[g2 k,q2 k]
   unfold mget
   cases hg:get? ps (.string k) with
   | none=>rfl
   | some q =>
    simp only
    split
    ·rfl
    ·have hq:=(hpm.2 _ (get_mem hpm.skey hg)).2
     have e:get? ([]:List (Lit×V)) (.string k)=none:=rfl
     rw[e]
     cases f with
     | zero=>exact hq.elim
     | succ f=>rfl
theorem mrg_mems {f:Nat} {lv:Int} {v:V} {s:List By} {ps:List (Lit×V)} (hz:gd d x (f+1) lv (.map ps)):(mrg (f+1) (some v) s (.map ps)).1=(mrg (f+1) (some (.map (memsOf v))) s (.map ps)).1:=by
 cases hv:isObj v with
 | false =>
  have e:memsOf v=[]:=by cases v<;>first|rfl|cases hv
  rw[e,← mrg_none (s:=s) hz]
  cases v<;>first|rfl|cases hv
 | true =>
  cases v<;>first|rfl|cases hv
theorem mdf_null {f:Nat} {a b z:V} (h:mdf f a b=some z) (hb:isNull b=false):isNull z=false:=by
 cases f with
 | zero=>cases h
 | succ f =>
  cases b with
  | map bs =>
   have h':(mdfs (mdf f) (memsOf a) bs (gone (memsOf a) bs)).map DataW.map=some z:=h
   obtain⟨out,_,rfl⟩:=Option.map_eq_some_iff.1 h'
   rfl
  | _=>(have h':some _=some z:=h;injection h' with h';rw[← h'];exact hb)
theorem mdfs_all {m:V→V→Option V} {xs l out out':List (Lit×V)} (h:mdfs m xs l out=some out'):∀q∈l,mst m xs q.1 q.2≠none:=fun q hq e=>by
 rw[mdfs_fail ⟨q,hq,e⟩] at h
 cases h
theorem mrg_mdf:∀ (f:Nat) {lv:Int} {a b z:V} {s:List By},1≤lv→gd d x f lv b→(∀g,f=g+1→Mok d x g lv (memsOf a))→mdf f a b=some z→(mrg f (some a) s z).1=b
 | 0,_,_,_,_,_,_,h,_,_=>h.elim
 | f+1,lv,a,b,z,s,hlv,hb,ha,e=>by
  cases hob:isObj b with
  | false =>
   have e1:mdf (f+1) a b=some b:=by cases b<;>first|rfl|cases hob
   rw[e1] at e
   injection e with e
   subst e
   rw[mrg_leaf (Or.inr hob)]
   exact _root_.Go.Proofs.YtdpomdelmdofmaaGreatDoor.pure_leaf hob
  | true =>
   obtain⟨bs,rfl⟩:∃bs,b = .map bs:=by
    cases b<;>first|exact⟨_,rfl⟩|cases hob
   have hgz:=(mdf_bd (f+1) lv a (.map bs) z (costs f (memsOf a)) hb (fun g hg=>by have hfg:f=g:=(by omega);subst hfg;exact⟨ha f rfl,Nat.le_refl _⟩) e).1
   have hma:=ha f rfl
   have hmb:=(gd_map hb).2
   have e':(mdfs (mdf f) (memsOf a) bs (gone (memsOf a) bs)).map DataW.map=some z:=e
   obtain⟨out,hm,rfl⟩:=Option.map_eq_some_iff.1 e'
   have hmo:=(gd_map hgz).2
   have hgone:=gone_skey (bs:=bs) hma.skey
   obtain⟨out',e2,hso,hK⟩:=mdfs_ok hmb.skey hgone (mdfs_all hm)
   rw[hm] at e2
   injection e2 with e2
   subst e2
   rw[mrg_mems hgz,mrg_map]
   obtain⟨g1,g2⟩:=mall_get (m:=mrg f) (s:=s) hso hma.skey
   congr 1
   refine skey_ext g1 hmb.skey fun k=>?_
   rw[g2 k]
   obtain⟨hin,hno⟩:=hK k
   obtain⟨gh1,gh2⟩:=gone_has (bs:=bs) hma.skey (.string k)
   unfold mget
   rcases key_two bs k with⟨y,hy⟩|hn
   ·rw[get_yes hmb.skey hy]
    have hhb:Maps.has (.map bs:V) (.string k)=true:=(List.any_eq_true.2 ⟨_,hy,by simp[Lit.sameKey]⟩)
    have hng:get? (gone (memsOf a) bs) (.string k)=none:=by
     unfold get?
     rw[gh1,hhb]
     simp
    have hgy:=(hmb.2 _ hy).2
    cases hst:mst (mdf f) (memsOf a) (.string k) y with
    | none=>exact absurd hst (mdfs_all hm _ hy)
    | some o =>
     cases o with
     | none =>
      rw[like_get ((hin y hy).1 hst),hng]
      simp only
      unfold mst at hst
      cases hg:get? (memsOf a) (.string k) with
      | none =>
       rw[hg] at hst
       simp only at hst
       split at hst
       ·cases hst
       ·cases hmd:mdf f (.map []) y<;>rw[hmd] at hst<;>cases hst
      | some w =>
       rw[hg] at hst
       simp only at hst
       split at hst
       ·rename_i hv
        unfold veq at hv
        have:=@of_decide_eq_true _ (Classical.propDecidable _) hv
        rw[this]
       ·split at hst
        ·cases hst
        ·cases hmd:mdf f w y<;>rw[hmd] at hst<;>cases hst
     | some z =>
      obtain⟨h1,h2⟩:=(hin y hy).2 z hst
      rw[get_has h1 h2]
      simp only
      unfold mst at hst
      cases hg:get? (memsOf a) (.string k) with
      | none =>
       rw[hg] at hst
       simp only at hst
       split at hst
       ·cases hst
       ·rename_i hnn
        cases hmd:mdf f (.map []) y with
        | none=>rw[hmd] at hst;cases hst
        | some z' =>
         rw[hmd] at hst
         have hz:z'=z:=by
          have:some (some z')=some (some z):=hst
          injection this with this
          injection this
         subst hz
         rw[mdf_null hmd (by simpa using hnn)]
         have hno:Mok d x f (lv+1) ([]:List (Lit×V)):=⟨List.Pairwise.nil,fun p hp=>by cases hp⟩
         have hgz':=(mdf_bd f (lv+1) (.map []) y z' 0 hgy (fun g _=>⟨⟨List.Pairwise.nil,fun p hp=>by cases hp⟩,Nat.le_refl _⟩) hmd).1
         rw[mrg_none (s':=s++[k]) hgz',mrg_mdf f (by omega) hgy (fun g _=>⟨List.Pairwise.nil,fun p hp=>by cases hp⟩) hmd]
         rfl
      | some w =>
       rw[hg] at hst
       simp only at hst
       split at hst
       ·cases hst
       ·split at hst
        ·cases hst
        ·rename_i hnn
         cases hmd:mdf f w y with
         | none=>rw[hmd] at hst;cases hst
         | some z' =>
          rw[hmd] at hst
          have hz:z'=z:=by
           have:some (some z')=some (some z):=hst
           injection this with this
           injection this
          subst hz
          rw[mdf_null hmd (by simpa using hnn)]
          have hgw:=(hma.2 _ (get_mem hma.skey hg)).2
          rw[mrg_mdf f (by omega) hgy (fun g hg=>by subst hg;exact (mems_ok hgw).1) hmd]
          rfl
   ·rw[get_no hn]
    have hhb:Maps.has (.map bs:V) (.string k)=false:=by
     cases hh:Maps.has (.map bs:V) (.string k) with
     | false=>rfl
     | true =>
      obtain⟨p,hp,hs⟩:=List.any_eq_true.1 (show bs.any (fun q=>q.1.sameKey (.string k))=true from hh)
      exact absurd (WideAt.sameKey_eq hs) (hn p hp)
    rw[like_get (hno hn)]
    rw[hhb,Bool.not_false,Bool.and_true] at gh1
    cases hha:Maps.has (.map (memsOf a):V) (.string k) with
    | true =>
     have:=get_has (gh1.trans hha) (gh2 (gh1.trans hha))
     rw[this]
     rfl
    | false =>
     have e1:get? (gone (memsOf a) bs) (.string k)=none:=by
      unfold get?
      rw[gh1,hha]
      rfl
     rw[e1]
     simp only
     unfold get?
     rw[hha]
     rfl
def Nul (t:By):Prop:=∃ (p r:By) (o:Bool),t=p++110::r∧scn (false,false) p=some (false,o)
theorem Nul.app {t:By} (h:Nul t) {a:By} (ha:scn (false,false) a=some (false,false)) (b:By):Nul (a++(t++b)):=by
 obtain⟨p,r,o,rfl,hp⟩:=h
 exact⟨a++p,r++b,o,by simp,by rw[scn_app _ _ _ _ ha,hp]⟩
theorem nul_join {l:List By} (hs:∀y∈l,scn (false,false) y=some (false,false)) {y:By} (hy:y∈l) (hn:Nul y):Nul (joinC l):=by
 have hR:∀l:List By,(∀y∈l,scn (false,false) y=some (false,false))→y∈l→Nul (joinR l):=by
  intro l
  induction l with
  | nil=>intro _ h;cases h
  | cons a l ih =>
   intro hs hy
   have ha:=hs a List.mem_cons_self
   rw[joinR]
   rcases List.mem_cons.1 hy with rfl|hy
   ·exact hn.app (a:=[44]) rfl _
   ·have h1:=ih (fun y h=>hs y (List.mem_cons_of_mem _ h)) hy
    have h2:=h1.app (a:=44::a) (by rw[scn,stp_pl ⟨by decide,by decide,by decide⟩];exact ha) []
    simpa using h2
 cases l with
 | nil=>cases hy
 | cons a l =>
  have ha:=hs a List.mem_cons_self
  rw[joinC]
  rcases List.mem_cons.1 hy with rfl|hy
  ·exact hn.app (a:=[]) rfl _
  ·have h1:=hR l (fun y h=>hs y (List.mem_cons_of_mem _ h)) hy
   have h2:=h1.app ha []
   simpa using h2
theorem isNull_can {f:Nat} {lv:Int} {y:V} (hg:gd d x f lv y) (h:isNull y=true):Nul (can f y):=by
 cases f with
 | zero=>exact hg.elim
 | succ f =>
  obtain⟨_,⟨k,hk,rfl⟩|⟨s,_,rfl⟩|⟨n,hn,_,_,rfl⟩|⟨es,hes,rfl⟩|⟨es,hp,hes,rfl⟩⟩:=hg
  ·match k,hk,h with
   | 0,_,_=>exact⟨[],[117,108,108],false,rfl,rfl⟩
   | 1,_,h=>cases h
   | 2,_,h=>cases h
  all_goals cases h
theorem mdf_none:∀ (f:Nat) {lv:Int} {a b:V},gd d x f lv b→(∀g,f=g+1→Mok d x g lv (memsOf a))→mdf f a b=none→Nul (can f b)
 | 0,_,_,_,h,_,_=>h.elim
 | f+1,lv,a,b,hb,ha,e=>by
  obtain⟨bs,rfl⟩:∃bs,b = .map bs:=by
   cases b<;>first|exact⟨_,rfl⟩|cases e
  have hma:=ha f rfl
  have hmb:=(gd_map hb).2
  have e':(mdfs (mdf f) (memsOf a) bs (gone (memsOf a) bs)).map DataW.map=none:=e
  have hbad:∃q∈bs,mst (mdf f) (memsOf a) q.1 q.2=none:=by
   apply Classical.byContradiction
   intro hn
   obtain⟨out',e2,_,_⟩:=mdfs_ok (m:=mdf f) (xs:=memsOf a) hmb.skey (gone_skey (bs:=bs) hma.skey) fun q hq h=>hn ⟨q,hq,h⟩
   rw[e2] at e'
   cases e'
  obtain⟨q,hq,hst⟩:=hbad
  have hgq:=(hmb.2 q hq).2
  have hnul:Nul (can f q.2):=by
   unfold mst at hst
   cases hg:get? (memsOf a) q.1 with
   | none =>
    rw[hg] at hst
    simp only at hst
    split at hst
    ·rename_i h;exact isNull_can hgq h
    ·refine mdf_none f hgq (a:=.map []) (fun g _=>⟨List.Pairwise.nil,fun p hp=>by cases hp⟩) ?_
     cases hmd:mdf f (.map []) q.2 with
     | none=>rfl
     | some z=>rw[hmd] at hst;cases hst
   | some w =>
    rw[hg] at hst
    simp only at hst
    split at hst
    ·cases hst
    ·split at hst
     ·rename_i h;exact isNull_can hgq h
     ·obtain⟨s,hs⟩:=get_kl hma.skey hg
      have hgw:=(hma.2 _ hs).2
      refine mdf_none f hgq (a:=w) (fun g hg=>by subst hg;exact (mems_ok hgw).1) ?_
      cases hmd:mdf f w q.2 with
      | none=>rfl
      | some z=>rw[hmd] at hst;cases hst
  have hc:can (f+1) (.map bs)=123::(joinC (bs.map (entT f))++[125]):=obj_text hmb.1 fun p hpm=>let ⟨⟨s,hs,_⟩,_⟩:=hmb.2 p hpm; ⟨s,hs⟩
  rw[hc]
  have hsc:∀p∈bs,scn (false,false) (entT f p)=some (false,false):=fun p hp=>by
   unfold entT
   rw[scn_app _ _ _ _ (scn_quoT _),scn,stp_pl ⟨by decide,by decide,by decide⟩]
   exact scn_can f _ _ (hmb.2 p hp).2
  have h1:Nul (entT f q):=by
   unfold entT
   have:=hnul.app (a:=quoT (strOf q.1)++[58]) (by rw[scn_app _ _ _ _ (scn_quoT _)];rfl) []
   simpa using this
  have h2:Nul (joinC (bs.map (entT f))):=nul_join (fun y hy=>by obtain⟨p,hp,rfl⟩:=List.mem_map.1 hy;exact hsc p hp) (List.mem_map.2 ⟨q,hq,rfl⟩) h1
  exact h2.app (a:=[123]) rfl [125]
end Sp
theorem read_three {t:Sp.By} {d x:Int}:(∃c,Sp.readTo t d x=(c,none)∧0<c∧c≠15) ∨ ∃v,Sp.readTo t d x=(0,some v):=by
 unfold Sp.readTo
 split
 ·exact Or.inl ⟨4,rfl,by omega,by omega⟩
 ·split
  ·exact Or.inl ⟨5,rfl,by omega,by omega⟩
  ·rename_i v r fl hv
   split
   ·split
    ·exact Or.inl ⟨6,rfl,by omega,by omega⟩
    ·split
     ·exact Or.inl ⟨7,rfl,by omega,by omega⟩
     ·split
      ·exact Or.inl ⟨8,rfl,by omega,by omega⟩
      ·exact Or.inr ⟨v,rfl⟩
   ·exact Or.inl ⟨5,rfl,by omega,by omega⟩
def Sp.mrs (doc pt:Sp.By):List Sp.St:=[(1,doc,[]),(9,pt,[])]
def Sp.mrs2 (doc pt z:Sp.By):List Sp.St:=[(1,doc,[]),(9,pt,[]),(6,z,[]),(2,[],[])]
theorem run_mrs {d e n:Int} (hc:Sp.cfg d e n=true) (doc pt:Sp.By) :
  (∃c,0<c∧Sp.run d e n none (Sp.mrs doc pt)=[(c,0,[]),(3,0,[])]) ∨
  (∃ (c:Nat),0<c∧c≠15∧Sp.run d e n none (Sp.mrs doc pt)=[(0,0,[]),(c,0,[])]∧Sp.dmp d e pt=(c,[])) ∨
  (∃ (t:Sp.By),Sp.run d e n none (Sp.mrs doc pt)=[(0,0,[]),(15,0,[])]∧Sp.dmp d e pt=(0,t)∧t.length≤80000∧Sp.scn (false,false) t=some (false,false)∧Sp.Nul t) ∨
  (∃ (t z:Sp.By),Sp.run d e n none (Sp.mrs doc pt)=[(0,0,[]),(0,0,z)]∧Sp.dmp d e pt=(0,t)∧(z.length≤2000→Sp.run d e n none (Sp.mrs2 doc pt z)=[(0,0,[]),(0,0,z),(0,0,[]),(0,0,t)])):=by
 obtain⟨h1,h2,h3,h4⟩:=cfg_d hc
 rcases read_two (t:=doc) (d:=d) (x:=e) with⟨c,hr,hpos⟩|⟨v,hr⟩
 ·refine Or.inl ⟨c,hpos,?_⟩
  simp only[Sp.mrs,Sp.run,step_load hc,hr,Sp.ldd,step_none hc 9 (by omega) (by omega)]
 ·right
  have hgv:=read_gd hr
  rcases read_three (t:=pt) (d:=d) (x:=e) with⟨c,hp,hpos,h15⟩|⟨p,hp⟩
  ·refine Or.inl ⟨c,hpos,h15,?_,by unfold Sp.dmp;rw[hp]⟩
   have hm:∀i,Sp.stMergeDiff d e (v,i) pt=(c,0,[]):=fun i=>by unfold Sp.stMergeDiff;rw[hp]
   simp only[Sp.mrs,Sp.run,step_load hc,hr,Sp.ldd,step_mdiff hc,hm]
  ·right
   have hgp:=read_gd hp
   have hmv:∀g,top=g+1→Sp.Mok d e g 1 (Sp.memsOf v):=fun g hg=>by
    have hgv':=hgv
    rw[hg] at hgv'
    exact (mems_ok hgv').1
   cases hmd:Sp.mdf top v p with
   | none =>
    refine Or.inl ⟨Sp.can top p,?_,by unfold Sp.dmp;rw[hp],read_bd hp top,scn_can _ _ _ hgp,Sp.mdf_none top hgp hmv hmd⟩
    have hm:∀i,Sp.stMergeDiff d e (v,i) pt=(15,0,[]):=fun i=>by unfold Sp.stMergeDiff;rw[hp];simp only[Sp.mdiffAns,hmd]
    simp only[Sp.mrs,Sp.run,step_load hc,hr,Sp.ldd,step_mdiff hc,hm]
   | some z =>
    have hm:∀i,Sp.stMergeDiff d e (v,i) pt=(0,0,Sp.can top z):=fun i=>by unfold Sp.stMergeDiff;rw[hp];simp only[Sp.mdiffAns,hmd]
    refine Or.inr ⟨Sp.can top p,Sp.can top z,?_,by unfold Sp.dmp;rw[hp],fun hl=>?_⟩
    ·simp only[Sp.mrs,Sp.run,step_load hc,hr,Sp.ldd,step_mdiff hc,hm]
    ·obtain⟨C,hC⟩:∃C,∀g,top=g+1→Sp.Mok d e g 1 (Sp.memsOf v)∧Sp.costs g (Sp.memsOf v)≤C:=⟨Sp.costs 2000 (Sp.memsOf v),fun g hg=>by
      obtain rfl:g=2000:=by unfold top at hg;omega
      exact⟨hmv _ hg,Nat.le_refl _⟩⟩
     have hgz:=(mdf_bd top 1 v p z C hgp hC hmd).1
     have r1:=reread hgz h3 (by omega) [] [] (fun l=>rfl) rfl (by intro c t e;cases e) (by simpa using hl)
     simp only[List.nil_append,List.append_nil] at r1
     have hmg:(Sp.mrg top (some v) [] z).1=p:=Sp.mrg_mdf top (by omega) hgp hmv hmd
     have hcz:=(Sp.can_sz hgp).1
     have hco:=read_cost hp h4
     have m1:∀i,Sp.stMerge d e (v,i) (Sp.can top z)=_:=fun i=>stMerge_ok (v:=(v,i)) r1 (by simp only[hmg];exact hgp) (by simp only[hmg];omega)
     simp only[Sp.mrs2,Sp.run,step_load hc,hr,Sp.ldd,step_mdiff hc,hm,step_merge hc,m1,step_dump hc,hmg]
end

section
open Go.RowKit
def sc3V (o:Sp.St):List Value:=[.int .i64 o.1,.string ⟨o.2.1.toArray⟩,.string ⟨o.2.2.toArray⟩]
def sc3C (l:List Sp.St):List Value:=l.flatMap sc3V
theorem sc3C_len (l:List Sp.St):(sc3C l).length=l.length*3:=by
 induction l with
 | nil=>rfl
 | cons p r ih=>simp[sc3C,sc3V] at ih ⊢; omega
theorem sc3C_at (l:List Sp.St):∀ (i:Nat) (hi:i<l.length),(sc3C l)[i*3]? = some (.int .i64 l[i].1)∧(sc3C l)[i*3+1]? = some (.string ⟨l[i].2.1.toArray⟩)∧(sc3C l)[i*3+2]? = some (.string ⟨l[i].2.2.toArray⟩):=by
 induction l with
 | nil=>intro i hi;exact absurd hi (by simp)
 | cons p r ih =>
  intro i hi
  cases i with
  | zero=>exact⟨rfl,rfl,rfl⟩
  | succ i =>
   have h:=ih i (by simpa using hi)
   have e:sc3C (p::r) = .int .i64 p.1 :: .string ⟨p.2.1.toArray⟩ :: .string ⟨p.2.2.toArray⟩::sc3C r:=rfl
   rw[e,show (i+1)*3=i*3+1+1+1 by omega]
   exact h
def Own (w:World) (B:Nat) (v:Value) (n:Nat) (l:List Sp.St):Prop:=n=l.length∧w.ownsRow B 49 3 v n (sc3C l)
theorem Own.scr {w:World} {B g n cap:Nat} {l:List Sp.St} (h:Own w B (.slice (some ⟨g,0,none⟩) n cap) n l):Scr w g 0 l∧B≤g∧g<w.heap.size∧n≤cap:=by
 obtain⟨hn,hl,⟨h1,_⟩|⟨g',cap',cur,h1,h2,h3,h4,h5,h6,h7⟩⟩:=h
 ·cases h1
 ·injection h1 with h1 _ h8
  injection h1 with h1
  injection h1 with h1
  subst h1 h8
  refine⟨fun i hi=>?_,h2,(Array.getElem?_eq_some_iff.1 h3).1,h4⟩
  have hc:∀j,j<n*3→w.cell? ⟨g,j,none⟩=(sc3C l)[j]?:=fun j hj=>by
   rw[cell_of_row w g j _ _ _ h3,← h7,List.getElem?_take,if_pos hj,Array.getElem?_toList]
  obtain⟨q0,q1,q2⟩:=sc3C_at l i hi
  rw[Nat.zero_add,hc _ (by omega),hc _ (by omega),hc _ (by omega)]
  exact⟨q0,q1,q2⟩
theorem Own.bel {w w':World} {B g n cap:Nat} {l:List Sp.St} (h:Own w B (.slice (some ⟨g,0,none⟩) n cap) n l) (hb:Below w.heap.size w w'):Own w' B (.slice (some ⟨g,0,none⟩) n cap) n l:=by
 obtain⟨hn,hl,⟨h1,_⟩|⟨g',cap',cur,h1,h2,h3,h4⟩⟩:=h
 ·cases h1
 ·exact⟨hn,hl,Or.inr ⟨g',cap',cur,h1,h2,(hb.block _ (Array.getElem?_eq_some_iff.1 h3).1).trans h3,h4⟩⟩
theorem Own.new {w:World} {B n:Nat} {cs:Array Value} {l:List Sp.St} (hB:B≤w.heap.size) (hn:n=l.length) (hs:n≤1000) (hc:cs.toList=sc3C l):Own (w.alloc (.cells cs 49)) B (.slice (some ⟨w.heap.size,0,none⟩) n n) n l:=by
 have hz:cs.size=n*3:=by rw[← Array.length_toList,hc,sc3C_len,hn]
 refine⟨hn,by rw[sc3C_len,hn],Or.inr ⟨w.heap.size,n,cs,rfl,hB,heap_alloc_new w _,Nat.le_refl _,by unfold maxLen;omega,hz,?_⟩⟩
 rw[hc,List.take_of_length_le (by rw[sc3C_len];omega)]
theorem Own.run {d e n:Int} {l:List Sp.St} {w:World} {B g m cap:Nat} (h:Own w B (.slice (some ⟨g,0,none⟩) m cap) m l) (hpl:Plain l) (hpos:0<m) (hb:m≤1000) (hT:Laid w) :
  Calls Tryz.prog 24 #[.agg #[.int .i64 d,.int .i64 e,.int .i64 n],.slice (some ⟨g,0,none⟩) m cap] w fun x w'=>RunEnd m (Sp.run d e n none l) w x w':=by
 obtain⟨h1,_,h3,h4⟩:=h.scr
 exact Run_some h1 hpl h.1 hpos h4 (by omega) h3 hT
theorem kop_info:(Tryz.prog.info? 49).map (fun i=>(i.zero,i.size,i.bytes))=some (some (.agg #[.int .i64 0,.string ⟨#[]⟩,.string ⟨#[]⟩]),3,40):=by kernel_rfl
theorem own_more {w w1 w3:World} {v:Value} {B m k g cap:Nat} {l l':List Sp.St} {xs new:List Value} (h:Own w1 B v m l) (hb:Below B w w1) (hB:B≤w1.heap.size) (hk:k=l'.length) (hx:xs=sc3C l) (hnew:new=sc3C l') (hown:w3.ownsRow B 49 3 (.slice (some ⟨g,0,none⟩) (m+k) cap) (m+k) (xs++new)) (hg:w1.grownBy w3 v.ownBlock) :
  Own w3 B (.slice (some ⟨g,0,none⟩) (m+k) cap) (m+k) (l++l')∧Below B w w3:=by
 subst hx hnew hk
 refine⟨⟨by rw[List.length_append,h.1],?_⟩,hb.trans ((Below.refl B w1).grown hg hB fun j hj=>(h.2.lt j hj).1)⟩
 have e:sc3C (l++l')=sc3C l++sc3C l':=by simp[sc3C]
 rw[e]
 exact hown
end

section
set_option maxRecDepth 100000
set_option maxHeartbeats 1000000
open Go.RowKit Go.Maps
theorem paQuoted_any {w:World} (s:Sp.By) :
  Calls Tryz.prog 164 #[.string ⟨s.toArray⟩] w fun e w'=>e = .returned (.pointer (some ⟨w.heap.size,0,none⟩))∧VB w' w.heap.size 4 n0 s (.slice none 0 0) (.map none)∧Below w.heap.size w w'∧w'.heap.size=w.heap.size+1:=by
 go_enter Tryz.func164,Tryz.ntmps164
 go_wp2_with (fail)
 go_ret
 exact⟨rfl,heap_alloc_new w _,(Below.refl _ _).alloc (Nat.le_refl _) _,by simp⟩
end
end Go.Proofs.YtdpomdelmdofmaaGreatDoor
