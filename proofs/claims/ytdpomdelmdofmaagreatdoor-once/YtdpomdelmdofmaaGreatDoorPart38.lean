/-
  The session's invert.
-/
import Derived.Test.YtdpomdelmdofmaaGreatDoorPart37
import Derived.Test.YtdpomdelmdofmaaGreatDoorPart34
import Derived.Test.YtdpomdelmdofmaaGreatDoorPart33
import Derived.Test.YtdpomdelmdofmaaGreatDoorPart31
import Derived.Test.YtdpomdelmdofmaaGreatDoorPart29
import Derived.Laws.BytesArg
import Derived.Laws.IdiomStrings
import Derived.Test.YtdpomdelmdofmaaGreatDoorPart32
import Derived.Lib.MapLaws
import Derived.Test.YtdpomdelmdofmaaGreatDoorPart13
import Derived.BigRegion
import Derived.Deep.DeepCutAuto
import Derived.Lib.SplitLaws
import Derived.Test.YtdpomdelmdofmaaGreatDoorPart24
import Derived.Test.YtdpomdelmdofmaaGreatDoorPart17
import Derived.Test.YtdpomdelmdofmaaGreatDoorPart36
import Derived.Test.YtdpomdelmdofmaaGreatDoorPart26
namespace Go.Proofs.YtdpomdelmdofmaaGreatDoor
section
open Go.RowKit Go.Maps
theorem Opns.at {w:World} {G:Nat→Prop}:∀ {xs:List Value} {j:List Sp.Opn},Opns w G xs j → ∀k (hk:k<j.length),∃ (h:k*4+3<xs.length),OpnR w G (xs[k*4]'(by omega)) (xs[k*4+1]'(by omega)) (xs[k*4+2]'(by omega)) xs[k*4+3] j[k]
 | [],[],_,_,hk=>absurd hk (by simp)
 | [],_::_,h,_,_=>h.elim
 | _::_::_::_::_,_::_,⟨a,_⟩,0,_=>⟨by simp,a⟩
 | _::_::_::_::r,_::s,⟨_,b⟩,k+1,hk=>by
  obtain⟨h1,h2⟩:=Opns.at b k (by simpa using hk)
  refine⟨by simp;omega,?_⟩
  have e0:(k+1)*4=k*4+4:=by omega
  simp only[e0,List.getElem_cons_succ]
  simpa using h2
theorem cap_le {w:World} {B e n cap:Nat} {ao:Option Addr} {xs:List Value} (h:w.ownsRow B e 4 (.slice ao n cap) n xs) (hp:0<n):n≤cap:=by
 rcases h.2 with⟨_,h0⟩|⟨g,cap',cur,h1,hB,h3,h4,_⟩
 ·omega
 ·injection h1 with _ _ h1
  subst h1
  exact h4
namespace Sp
theorem joinR_ge:∀l:List By,l.length≤(joinR l).length
 | []=>by simp
 | a::l=>by
  have h:=joinR_ge l
  simp only[joinR,List.length_cons,List.length_append]
  omega
theorem joinC_ge (l:List By):l.length≤(joinC l).length+1:=by
 cases l with
 | nil=>simp
 | cons a r =>
  have h:=joinR_ge r
  simp only[joinC,List.length_cons,List.length_append]
  omega
theorem ptext_ge (j:List Opn):j.length≤(ptext j).length:=by
 have h:=joinC_ge ((j.map elemV).map (can (top-1)))
 rw[List.length_map,List.length_map] at h
 show _≤(can (top-1+1) (vArr (j.map elemV))).length
 rw[can_arr]
 simp only[List.length_cons,List.length_append,List.length_nil]
 omega
end Sp
theorem text_inv {w:World} {G:Nat→Prop} {iv:Value} {j:List Sp.Opn} (h:InvR w G iv (some j)) (hT:Laid w) :
  Calls Tryz.prog 87 #[iv] w fun e w'=>e = .returned (.string ⟨(Sp.ptext j).toArray⟩)∧Below w.heap.size w w':=by
 obtain⟨⟨xs,ho,hG,hr⟩,hl,hok⟩:=h
 obtain⟨ao,cap,g,rfl,hc⟩:=owns_cell4 ho
 have hlen:j.length≤10000000000000:=by
  have h1:j.length≤(Sp.ptext j).length:=Sp.ptext_ge j
  omega
 refine paText_any (f:=top-2) (G:=G) (by unfold top;omega) rfl (fun hp=>?_) (fun o ho=>(hok o ho).1) hlen hl hT
 obtain⟨e1,e2,_,e3⟩:=hc hp
 obtain⟨_,hb⟩:=ownsN_lt ho g e2
 refine⟨g,e1,(ownsN_lt ho g e2).1,cap_le ho hp,fun k hk=>?_⟩
 obtain⟨hx,q0,q1,q2,q3,q4⟩:=hr.at k hk
 obtain⟨pa,pl,pc,hpv⟩:=tokG_slice q2
 have hz:∃y,xs[k*4+3] = .pointer y:=by
  rcases q4 with⟨_,e⟩|⟨_,hr⟩
  ·exact⟨_,e⟩
  ·obtain⟨b,e,_⟩:=Rep.ptr hr;exact⟨_,e⟩
 obtain⟨y,hy⟩:=hz
 have c0:=e3 (k*4) (by omega)
 have c1:=e3 (k*4+1) (by omega)
 have c2:=e3 (k*4+2) (by omega)
 have c3:=e3 (k*4+3) (by omega)
 refine⟨pa,pl,pc,y,⟨rfl,q1,hpv▸q2,rfl,q4.imp (fun ⟨a,b⟩=>⟨a,hy▸b⟩) fun ⟨a,b⟩=>⟨a,?_⟩⟩,by rw[c0,q0],by rw[c1,hpv],by rw[c2,q3],by rw[c3,hy]⟩
 obtain⟨d,x,g1,g2⟩:=(hok _ (List.getElem_mem hk)).2 a
 rw[← hy]
 exact Rep.dn b g1 (by unfold top;omega)
end

section
set_option maxHeartbeats 4000000
open Go.RowKit Go.Maps
theorem config_3 (a b c:Int) (ha0:-9223372036854775808≤a) (ha1:a≤9223372036854775807) (hb0:-9223372036854775808≤b) (hb1:b≤9223372036854775807) (hc0:-9223372036854775808≤c) (hc1:c≤9223372036854775807) (w:World) :
  Calls Tryz.prog 18 #[.int .i64 a,.int .i64 b,.int .i64 c] w fun x w'=>(∃ (d e n:Int),Sp.cfg d e n=true∧x = .returned (.agg #[.int .i64 d,.int .i64 e,.int .i64 n]))∧Below w.heap.size w w':=by
 go_enter Tryz.func18,Tryz.ntmps18
 go_wp2_with (fail)
 refine (pick_any a 20 ha0 ha1 (by omega) (by omega) _).mono ?_
 rintro x w1 ⟨⟨d,hd,rfl⟩,rfl⟩
 go_wp2_with (fail)
 refine (pick_any b 401 hb0 hb1 (by omega) (by omega) _).mono ?_
 rintro x w1 ⟨⟨e,he,rfl⟩,rfl⟩
 go_wp2_with (fail)
 refine (pick_any c 2001 hc0 hc1 (by omega) (by omega) _).mono ?_
 rintro x w1 ⟨⟨n,hn,rfl⟩,rfl⟩
 go_wp2_with (fail)
 refine bodyPost_ret (v:=.agg #[.int .i64 ((d+1:Nat):Int),.int .i64 e,.int .i64 n]) (by simp[results,Tryz.results18,go_sem];omega) rfl ⟨⟨_,_,_,?_,rfl⟩,?_⟩
 ·simp[Sp.cfg,Sp.inB];omega
 ·exact (Below.refl _ w).alloc (Nat.le_refl _) _
end

section
set_option maxRecDepth 100000
def Sp.m1:Sp.By:=[123,34,97,34,58,49,125]
def Sp.m2:Sp.By:=[123,34,98,34,58,50,125]
def Sp.m4:Sp.By:=[123,34,97,34,58,49,44,34,98,34,58,50,125]
def Sp.m5:Sp.By:=[123,125]
def Sp.m6:Sp.By:=[123,34,99,34,58,110,117,108,108,125]
def Sp.mv1:Sp.V:=Sp.vObj [(.string [97],Sp.vNum (false,[49],0))]
def Sp.mp2:Sp.V:=Sp.vObj [(.string [98],Sp.vNum (false,[50],0))]
def Sp.mv2:Sp.V:=Sp.vObj [(.string [97],Sp.vNum (false,[49],0)),(.string [98],Sp.vNum (false,[50],0))]
def Sp.mi2:List Sp.Opn:=[(1,[[98]],.nil)]
def Sp.mp5:Sp.V:=Sp.vObj []
def Sp.mp6:Sp.V:=Sp.vObj [(.string [99],Sp.vWord 0)]
def Sp.mx5:Sp.V:=Sp.vObj [(.string [97],Sp.vWord 0),(.string [98],Sp.vWord 0)]
def Sp.ms:List Sp.St:=[(1,Sp.m1,[]),(6,Sp.m2,[]),(2,[],[]),(8,Sp.m5,[]),(9,Sp.m6,[]),(9,Sp.m5,[])]
theorem read_m1:Sp.readTo Sp.m1 3 9=(0,some Sp.mv1):=by kernel_rfl
theorem read_m2:Sp.readTo Sp.m2 3 9=(0,some Sp.mp2):=by kernel_rfl
theorem read_m5:Sp.readTo Sp.m5 3 9=(0,some Sp.mp5):=by kernel_rfl
theorem read_m6:Sp.readTo Sp.m6 3 9=(0,some Sp.mp6):=by kernel_rfl
theorem mrg_m2:Sp.mrg top (some Sp.mv1) [] Sp.mp2=(Sp.mv2,Sp.mi2):=by kernel_rfl
theorem can_m2:Sp.can top Sp.mv2=Sp.m4:=by
 show Sp.can (2000+1) (Sp.vObj [(.string [97],Sp.vNum (false,[49],0)),(.string [98],Sp.vNum (false,[50],0))])=_
 rw[Sp.can_obj,skeys_id (by decide) (by simp)]
 rfl
theorem mdf_m5:Sp.mdf top Sp.mv2 Sp.mp5=some Sp.mx5:=by kernel_rfl
theorem mdf_m6:Sp.mdf top Sp.mv2 Sp.mp6=none:=by kernel_rfl
theorem run_ms:Sp.run 3 9 100 none Sp.ms=[(0,0,[]),(0,0,[]),(0,0,Sp.m4),(0,0,Sp.ptext (Sp.diff 100 top [] Sp.mv2 Sp.mp5)),(15,0,[]),(0,0,Sp.can top Sp.mx5)]:=by
 have hc:Sp.cfg 3 9 100=true:=by decide
 have h6:Sp.stMerge 3 9 (Sp.mv1,none) Sp.m2=((0,0,[]),(Sp.mv2,some Sp.mi2.reverse)):=by
  unfold Sp.stMerge
  rw[read_m2]
  simp only
  unfold Sp.mergeA
  rw[mrg_m2]
  simp only
  rw[can_m2,if_neg (by decide)]
 have h8:Sp.stDiff 3 9 100 (Sp.mv2,some Sp.mi2.reverse) Sp.m5=(0,0,Sp.ptext (Sp.diff 100 top [] Sp.mv2 Sp.mp5)):=by
  unfold Sp.stDiff
  rw[read_m5]
  rfl
 have h9:Sp.stMergeDiff 3 9 (Sp.mv2,some Sp.mi2.reverse) Sp.m6=(15,0,[]):=by
  unfold Sp.stMergeDiff
  rw[read_m6]
  simp only
  unfold Sp.mdiffAns
  rw[mdf_m6]
 have h9':Sp.stMergeDiff 3 9 (Sp.mv2,some Sp.mi2.reverse) Sp.m5=(0,0,Sp.can top Sp.mx5):=by
  unfold Sp.stMergeDiff
  rw[read_m5]
  simp only
  unfold Sp.mdiffAns
  rw[mdf_m5]
 simp only[Sp.ms,Sp.run,step_load hc,read_m1,Sp.ldd,step_merge hc,h6,step_dump hc,can_m2,step_diff hc,h8,step_mdiff hc,h9,h9']
end

section
set_option maxRecDepth 100000
set_option maxHeartbeats 2000000
open Go.RowKit Go.Maps
noncomputable def Sp.mrgX (v q:Sp.V):Except (Nat×Nat) (Sp.V×List Sp.Opn):=if 20000<(Sp.can top (Sp.mrg top (some v) [] q).1).length then .error (4,0) else .ok (Sp.mrg top (some v) [] q)
section
variable {w:World} {D R:Nat} {wp:Option Addr} {iv:Value} {ch:Bool} {Tb T a:Sp.A} {Mb M F:Nat→Prop} {wb:World} {v q:Sp.V} {d x:Int} {p2:Option Addr}
theorem dmerge_top (h:JS w D R wp (.slice none 0 0) iv ch Tb Mb wb T a v M []) (hgv:Sp.gd d x top 1 v) (hsv:Sp.sz top v≤200000) (hq:Rep top F w (.pointer p2) q) (hF:∀k,F k→M k) (hgq:Sp.gd d x top 1 q) (hsq:Sp.sz top q≤200000) :
  Calls Tryz.prog 120 #[.pointer (some ⟨D,0,none⟩),plV (.slice none 0 0) R [] 0,.pointer p2] w fun e w'=>e = .returned (.tuple #[]) ∧ ∃wp' jn' T' a' M',JS w' D R wp' jn' iv ch Tb Mb wb T' a' (Sp.mrg top (some v) [] q).1 M' (Sp.mrg top (some v) [] q).2∧JEx M M' w w':=by
 obtain⟨g,hT1⟩:=h.t.one
 have hstr:=h.t.str
 have hst:Stands (Sp.nd R g (.slice [a] [])) 0 [] a:=Or.inl ⟨R,g,[a],rfl,rfl⟩
 have H:MergeAt d x top:=merge_doc top
 refine (@H (top+1) [] w D 0 (.pointer (some ⟨R,0,none⟩)) (.slice none 0 0) iv ch Tb T (Sp.nd R g (.slice [a] [])) (some a) Mb M F wb [] [] none 0 0 [] (.pointer p2) q 1 rfl (Nat.le_refl _) h.j (by rw[hT1];rfl) hst ⟨by rw[Sp.kids_arr];show 1+1≤1000000000000;omega,by decide⟩ (by simp only[List.length_nil];omega) (Or.inl ⟨rfl,none,0,rfl,by unfold maxLen;omega⟩) (Nat.le_refl _) (fun _=>⟨0,rfl⟩) hq hF (by omega) hgq (by omega) (fun c hc=>by injection hc with hc;subst hc;rw[hstr];exact⟨hgv,by omega⟩)).mono ?_
 rintro e w' ⟨rfl,c',hend,hc⟩
 rw[show (some a).map (Sp.str top)=some v by rw[← hstr];rfl] at hend hc
 exact⟨rfl,JS.done (js:=(Sp.mrg top (some v) [] q).2) hend rfl hc⟩
theorem dMerge_any (h:JS w D R wp (.slice none 0 0) iv ch Tb Mb wb T a v M []) (hT:Laid w) (hM0:∀k,k<NG→M k) (hMb:∀k,Mb k→k≠D∧k<w.heap.size) (hd:d≤100)
  (hgv:Sp.gd d x top 1 v) (hsv:Sp.sz top v≤200000) (hq:Rep top F w (.pointer p2) q) (hF:∀k,F k→M k) (hgq:Sp.gd d x top 1 q) (hsq:Sp.sz top q≤200000) :
  Calls Tryz.prog 85 #[.pointer (some ⟨D,0,none⟩),.pointer p2] w fun e w'=>∃c:Nat,e = .returned (.int .i64 c)∧PatchEnd D R iv ch Tb Mb wb M d x 100000 w (Sp.mrgX v q) (.returned (.tuple #[.int .i64 0,.int .i64 c])) w':=by
 have HM:=hide (dmerge_top h hgv hsv hq hF hgq hsq)
 obtain⟨q1,q2,q3⟩:=Sp.mrg_ok (d:=d) (x:=x) top 1 (some v) [] q 200000 (by omega) (fun u hu=>by injection hu with hu;subst hu;exact⟨hgv,hsv⟩) hgq
 have q4:Sp.sz top (Sp.mrg top (some v) [] q).1≤400000:=by
  have h1:Sp.sz top (Sp.mrg top (some v) [] q).1≤Sp.sz top v+Sp.sz top q:=Sp.mrg_sz (d:=d) (x:=x) top 1 (some v) [] q (by omega) (fun u hu=>by injection hu with hu;subst hu;exact hgv) hgq
  omega
 have HJS:=hide h
 have hdb:=h.t.db
 have c0:=hdb.c0
 have HT:=hide hT
 have HM0:=hide hM0
 have HMB:=hide hMb
 have HG:=hide q1
 have HO:=hide (fun o (ho:o∈(Sp.mrg top (some v) [] q).2)=>Sp.mok_on (q2 o ho) (by omega) (by simp only[List.map_nil,List.sum_nil];omega))
 have HL:=hide (show (Sp.mrg top (some v) [] q).2.length≤200000 by omega)
 have HSZ:=hide q4
 obtain⟨v1,hv1⟩:∃v1,v1=(Sp.mrg top (some v) [] q).1:=⟨_,rfl⟩
 obtain⟨j1,hj1⟩:∃j1,j1=(Sp.mrg top (some v) [] q).2:=⟨_,rfl⟩
 have HX:=hide (show Sp.mrgX v q=if 20000<(Sp.can top v1).length then .error (4,0) else .ok (v1,j1) by unfold Sp.mrgX;rw[hv1,hj1])
 rw[← hv1] at HM HG HSZ
 rw[← hj1] at HM HO HL
 obtain⟨r,hr⟩:∃r,r=Sp.mrgX v q:=⟨_,rfl⟩
 rw[← hr] at HX ⊢
 obtain⟨Q,hQ⟩:∃Q:Ending→World→Prop,Q=fun e w'=>∃c:Nat,e = .returned (.int .i64 c)∧PatchEnd D R iv ch Tb Mb wb M d x 100000 w r (.returned (.tuple #[.int .i64 0,.int .i64 c])) w':=⟨_,rfl⟩
 rw[← hQ]
 have HQ:=hide hQ
 clear h hT hM0 hMb hgv hsv hq hF hgq hsq q1 q2 q3 q4 hdb hv1 hj1 hr hQ
 go_enter Tryz.func85,Tryz.ntmps85
 go_wp2_with (fail)
 refine (unhide HM).mono ?_
 rintro e w1 ⟨rfl,wp1,jn1,T1,a1,M1,s1,s2⟩
 have HJ:=hide s1
 have HX1:=hide s2
 have HIL:=hide (isLong_doc (d:=d) (x:=x) (B:=400000) s1 ((unhide HT).jex (unhide HM0) s2) ⟨unhide HG,by omega,unhide HSZ⟩ (by omega))
 clear s1 s2
 go_wp2_with (fail)
 refine (unhide HIL).mono ?_
 rintro e w2 ⟨rfl,hb2⟩
 have HB2:=hide hb2
 clear hb2 HIL
 by_cases hlong:20000<(Sp.can top v1).length
 ·have HTB:=hide (takeBack_end (d:=d) (x:=x) (n:=100000) (c:=4) (i:=0) ((unhide HJ).bel (unhide HB2)) ((unhide HX1).trans ((unhide HJ).j.bel (unhide HB2)).2) (unhide HMB))
  have hr:=unhide HX
  rw[if_pos hlong] at hr
  have hdec:=decide_eq_true hlong
  rw[hdec]
  clear hdec hlong HX
  go_wp2_with (fail)
  refine (unhide HTB).mono ?_
  rintro e w3 ⟨rfl,hp⟩
  have HP:=hide hp
  clear hp HTB
  go_wp2_with (fail)
  show Q (.returned (.int .i64 4)) _
  rw[unhide HQ]
  refine⟨4,rfl,?_⟩
  rw[hr]
  exact unhide (unhide HP)
 ·have HK:=hide (keep_any (((unhide HJ).bel (unhide HB2)).j) (by have:=unhide HL;omega))
  have hr:=unhide HX
  rw[if_neg hlong] at hr
  have HSH:=hide (show (Sp.can top v1).length≤20000 by omega)
  have hdec:=decide_eq_false hlong
  rw[hdec]
  clear hdec hlong HX
  go_wp2_with (fail)
  refine (unhide HK).mono ?_
  rintro e w3 ⟨rfl,iv',k1,k2,k3⟩
  have HP:=hide (show PatchEnd D R iv ch Tb Mb wb M d x 100000 w (.ok (v1,j1)) (.returned (.tuple #[.int .i64 0,.int .i64 0])) w3 from⟨rfl,wp1,jn1,T1,a1,M1,w2,iv',(unhide HJ).bel (unhide HB2),(unhide HX1).trans ((unhide HJ).j.bel (unhide HB2)).2,k1,k2,k3,⟨unhide HG,by omega,by have:=(Sp.can_sz (unhide HG)).2;have:=unhide HSH;omega⟩,by have:=unhide HSH;omega,unhide HO,by have:=unhide HL;omega⟩)
  clear k1 k2 k3 HK
  go_wp2_with (fail)
  show Q (.returned (.int .i64 0)) _
  rw[unhide HQ]
  refine⟨0,rfl,?_⟩
  rw[hr]
  exact unhide HP
end
end

section
set_option maxRecDepth 100000
set_option maxHeartbeats 2000000
open Go.RowKit Go.Maps
def MergeR (F:Nat→Prop) (w W0:World) (D:Nat) (d e:Int) (v:Sp.V×Sp.Inv) (q:Sp.V) (x:Ending) (w3:World):Prop:=∃ (c:Nat) (v':Sp.V×Sp.Inv),x = .returned (.int .i64 c)∧w3.heap[w.heap.size]? = W0.heap[w.heap.size]? ∧ KeptF F w w3 ∧
 DocF w3 (FN F (w.heap.size+1)) (.pointer (some ⟨D,0,none⟩)) d e (some v')∧Sp.mergeA v q=((c,0,[]),v')
theorem merge_call {w W0 w9:World} {F:Nat→Prop} {D R lo:Nat} {wp:Value} {d e:Int} {v:Sp.V×Sp.Inv} {q:Sp.V} {p2:Option Addr} (hd:DocW w F D R wp d e v) (hF:∀k,F k→NG≤k∧k<w.heap.size∧k<lo) (hW:Below w.heap.size w W0) (hWs:W0.heap.size=w.heap.size+1) (hb:Below W0.heap.size W0 w9) (hT:Laid w9)
  (hq:Rep top (fun k=>lo≤k) w9 (.pointer p2) q) (hgq:Sp.gd d e top 1 q) (hlq:(Sp.can top q).length≤80000) (hd2:d≤20) :
  Calls Tryz.prog 85 #[.pointer (some ⟨D,0,none⟩),.pointer p2] w9 (MergeR F w W0 D d e v q):=by
 obtain⟨T,a,iv,h1,h2,h3⟩:=hd.ex
 have fD:=hd.fD
 have hlen:=hd.len
 have hgd:=hd.gd
 have h1':DocT W0 D R wp (.slice none 0 0) iv v.2.isSome T a v.1:=h1.move (hW.block D h1.db.lt) fun k hk=>hW.block k (h1.tr.lt k hk)
 have h3':InvR W0 (fun k=>F k∧k≠D∧k ∉ Sp.fp (top+1) T) iv v.2:=h3.move fun k hk hkl=>⟨hW.block k hkl,hk⟩
 obtain⟨wp0,rfl,hJ⟩:=patch_start h1' hb
 have hTl:=h1.tr.lt
 have hDl:=h1.db.lt
 have hbs:=hb.size
 have hng:=hT.ng
 refine (dMerge_any (d:=d) (x:=e) hJ hT (fun k hk=>⟨?_,fun hm=>?_,fun e=>?_⟩) (fun k hk=>⟨hk.2.2,by omega⟩) (by omega) hgd (by have:=(Sp.can_sz hgd).2;omega) (hq.move (F':=fun k=>lo≤k∧k<w9.heap.size) fun k hk hkl=>⟨rfl,hk,hkl⟩) (fun k hk=>⟨hk.2,fun hm=>?_,fun e=>?_⟩) hgq (by have:=(Sp.can_sz hgq).2;omega)).mono ?_
 ·omega
 ·have:=(hF k (h2 k hm)).1;omega
 ·have:=(hF k (e▸fD)).1;omega
 ·have:=(hF k (h2 k hm)).2.2;omega
 ·have:=(hF k (e▸fD)).2.2;omega
 ·rintro x w3 ⟨c,rfl,hp⟩
  have hkeep:∀k,k<w.heap.size → ¬ F k→k<W0.heap.size∧k ∉ Sp.fp (top+1) T∧k≠D:=fun k hk hx=>⟨by omega,fun hm=>hx (h2 k hm),fun e=>hx (e▸fD)⟩
  have hq:w.heap.size<W0.heap.size∧w.heap.size ∉ Sp.fp (top+1) T∧w.heap.size≠D:=⟨by omega,fun hm=>by have:=hTl _ hm;omega,by omega⟩
  unfold Sp.mrgX at hp
  by_cases hlong:20000<(Sp.can top (Sp.mrg top (some v.1) [] q).1).length
  ·rw[if_pos hlong] at hp
   obtain⟨e1,p1,p2,p3,p4,p5,p6⟩:=hp
   injection e1 with e1;injection e1 with e1
   obtain rfl:c=4:=by
    have h:=congrArg (fun a:Array Value=>a[1]?) e1
    simp at h
    omega
   refine⟨4,v,rfl,p2.held _ hq,⟨p3.trans (hb.os.trans hW.os),p4.trans (hb.tape.trans hW.tape),p5.trans (hb.output.trans hW.output),by have:=hW.size;omega,fun k hk hx=>(p2.held k (hkeep k hk hx)).trans (hW.block k hk)⟩,?_,by unfold Sp.mergeA;rw[if_pos hlong]⟩
   exact patch_back h1' rfl h2 h3' fD hlen hgd (fun k hk _=>by have:=(hF k hk).2.1;omega) (by omega) p2 p1
  ·rw[if_neg hlong] at hp
   obtain⟨e1,wp',jn,T2,a2,M',wk,iv',s1,s2,s3,s4,s5,s6,s7,s8,s9⟩:=hp
   injection e1 with e1;injection e1 with e1
   obtain rfl:c=0:=by
    have h:=congrArg (fun a:Array Value=>a[1]?) e1
    simp at h
    omega
   have hM:∀k,k<W0.heap.size∧k ∉ Sp.fp (top+1) T∧k≠D→w3.heap[k]? = W0.heap[k]?:=fun k hk=>by
    have h4:=s2.kept k ⟨by omega,hk.2⟩
    exact (s5.block k (by have:=s2.size;omega) hk.2.2).trans (h4.2.trans (hb.block k hk.1))
   refine⟨0,((Sp.mrg top (some v.1) [] q).1,some (Sp.mrg top (some v.1) [] q).2.reverse),rfl,hM _ hq,⟨s5.os.trans (s2.os.trans (hb.os.trans hW.os)),s5.tape.trans (s2.tape.trans (hb.tape.trans hW.tape)),s5.output.trans (s2.output.trans (hb.output.trans hW.output)),by have:=hW.size;have:=s2.size;have:=s5.size;omega,fun k hk hx=>(hM k (hkeep k hk hx)).trans (hW.block k hk)⟩,?_,by unfold Sp.mergeA;rw[if_neg hlong]⟩
   refine patch_done (F:=F) (B:=w.heap.size+1) (fun k hk=>⟨h2 k hk,by have:=hTl k hk;omega⟩) ⟨fD,by omega⟩ (by omega) s1 s3 s4 s5 s7 s6.gd (Sp.ptext_len (d:=d) (x:=e) (fun o ho=>s8 o (List.mem_reverse.1 ho)) ?_) fun o ho=>⟨by have:=(s8 o (List.mem_reverse.1 ho)).1;omega,fun h=>⟨_,_,((s8 o (List.mem_reverse.1 ho)).2 h).gd,((s8 o (List.mem_reverse.1 ho)).2 h).dd⟩⟩
   rw[List.length_reverse];exact Nat.le_trans s9 (by decide)
theorem smerge_any {S lo:Nat} {d e n:Int} {p:Value} {v:Sp.V×Sp.Inv} {F:Nat→Prop} {s:Sp.By} {q:Sp.V} {p2:Option Addr} {w:World} (hcfg:Sp.cfg d e n=true) (hF:∀k,F k→NG≤k∧k≠S∧k<lo) (hS:SB w S d e n p) (hD:DocF w F p d e (some v)) (hT:Laid w)
  (hr:Sp.readTo s d e=(0,some q)) (hq:Tr top lo w (.pointer p2) q) :
  Calls Tryz.prog 60 #[.pointer (some ⟨S,0,none⟩),.pointer p2] w (AmEnd F p d e (Sp.mergeA v q) w):=by
 obtain⟨hd1,hd2⟩:1≤d∧d≤20:=by
  unfold Sp.cfg Sp.inB at hcfg
  simp at hcfg;omega
 obtain⟨D,R,wp,rfl,hdw⟩:=hD
 have hdw':=hdw.move (F':=fun k=>F k∧k<w.heap.size) (fun k h1 h2=>⟨rfl,h1,h2⟩)
 obtain⟨W0,hW0⟩:∃W0,W0=w.alloc (.cells #[.int .i64 0,.int .i64 0,.string ⟨#[]⟩] 46):=⟨_,rfl⟩
 have hb0:Below w.heap.size w W0:=by rw[hW0];exact (Below.refl _ _).alloc (Nat.le_refl _) _
 have hs0:W0.heap.size=w.heap.size+1:=by rw[hW0];simp
 have hab0:AB W0 w.heap.size:=by rw[hW0];exact AB.new w
 have HM:=hide (merge_call hdw' (fun k hk=>⟨(hF k hk.1).1,hk.2,(hF k hk.1).2.2⟩) hb0 hs0 (Below.refl _ _) (hT.below (hb0.mono hT.ng)) (hq.rep.bel hb0) (read_gd hr) (read_bd hr top) hd2)
 have HAB0:=hide hab0
 have hS0:=hS.low hb0
 have c3:=hS0.c3
 obtain⟨RR,hRR⟩:∃RR,RR=Sp.mergeA v q:=⟨_,rfl⟩
 rw[← hRR]
 have HRR:=hide hRR
 have HW0:=hide hW0
 rw[hW0] at c3
 clear hcfg hF hS hdw hdw' hT hb0 hs0 hab0 hS0 hRR hW0 hr hq
 go_enter Tryz.func60,Tryz.ntmps60
 go_wp2_with (fail)
 rw[← unhide HW0]
 refine (unhide HM).mono ?_
 rintro x w3 ⟨c,v',rfl,q1,q2,q3,q4⟩
 have HEND:=hide (show KeptF (fun k=>F k∧k<w.heap.size) w w3∧DocF w3 (FN (fun k=>F k∧k<w.heap.size) (w.heap.size+1)) (.pointer (some ⟨D,0,none⟩)) d e (some v')∧RR=((c,0,[]),v') from⟨q2,q3,(unhide HRR).trans q4⟩)
 have a3:AB w3 w.heap.size:=q1.trans (unhide HAB0)
 have g0:=a3.c0
 have g1:=a3.c1
 have g2:=a3.c2
 have z:=a3.fz
 clear q1 q2 q3 q4 a3 HM c3
 go_wp2_with (fail)
 refine bodyPost_ret (v:=ansA (c,0,[])) (by simp[results,Tryz.results60,go_sem,ansA,g0,g1,g2]) rfl ?_
 obtain⟨q2,q3,q4⟩:=unhide HEND
 rw[q4]
 exact am_fin _ _ _ q2 q3
theorem merge_ok:MergeOk:=fun _ _ _ _ _ _ _ _ _ _ _ _ hc hF hS hD hT hr hq=>smerge_any hc hF hS hD hT hr hq
end
end Go.Proofs.YtdpomdelmdofmaaGreatDoor
