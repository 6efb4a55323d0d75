/-
  Walks of get and test.
-/
import Derived.Test.YtdpomdelmdofmaaGreatDoorPart41
import Derived.Test.YtdpomdelmdofmaaGreatDoorPart33
import Derived.Test.YtdpomdelmdofmaaGreatDoorPart18
import Derived.Test.YtdpomdelmdofmaaGreatDoorPart17
import Derived.Test.YtdpomdelmdofmaaGreatDoorPart36
import Derived.Test.YtdpomdelmdofmaaGreatDoorPart46
import Derived.Test.YtdpomdelmdofmaaGreatDoorPart45
import Derived.Test.YtdpomdelmdofmaaGreatDoorPart37
namespace Go.Proofs.YtdpomdelmdofmaaGreatDoor
open Go.RowKit
theorem found_can {F:Nat → Prop} {w:World} {v:Value} {dd xx lv:Int} {d e:Sp.V} {l:List Sp.By} (hg:Sp.gd dd xx top lv d) (hl:(Sp.can top d).length ≤ 80000) (hf:Sp.find d l = .ok e) (h:RepE F w v e) :
  ∃ M,Rep M F w v e ∧ Sp.can M e = Sp.can top e ∧ (Sp.can M e).length ≤ 80000:=by
 obtain ⟨f',lv',h1,h2,h3⟩:=gd_find l top lv d e hg hf
 obtain ⟨f,h⟩:=h
 refine ⟨max f top,h.up (Nat.le_max_left _ _),?_,?_⟩
 ·rw [can_up f' _ lv' e h2 (Nat.le_trans h1 (Nat.le_max_right _ _)),can_up f' _ lv' e h2 h1]
 ·rw [can_up f' _ lv' e h2 (Nat.le_trans h1 (Nat.le_max_right _ _))]; omega
theorem find_err:∀ {l:List Sp.By} {d:Sp.V} {c:Nat},Sp.find d l = .error c → c = 11 ∨ c = 12
 | [],d,c,h=>by cases h
 | t :: r,d,c,h=>by
  unfold Sp.find at h
  split at h
  ·exact find_err h
  ·rename_i c2 hc
   injection h with h
   subst h
   exact child_err hc
set_option maxHeartbeats 4000000 in
theorem get_ok:GetOk:=by
 intro S d e n p v F s w hn hS hD hT
 obtain ⟨D,R,wp,rfl,hdw⟩:=hD
 have hba:Below w.heap.size w (w.alloc (.cells #[.int .i64 0,.int .i64 0,.string ⟨#[]⟩] 46)):=(Below.refl _ _).alloc (Nat.le_refl _) _
 have hTa:=hT.below (hba.mono hT.ng)
 have hcall:=hide (pRead_any hn hTa hTa.pesc hTa.mx)
 have HDW:=hide (hdw.bel hba)
 have HS:=hide (hS.low hba)
 have HT:=hide hTa
 have HA:=hide (AB.new w)
 have HBA:=hide hba
 have hng:=hT.ng
 have hTL:=hide (fun ks (h:Sp.toks s = some ks)=>toks_len h)
 obtain ⟨RR,hRR⟩:∃ RR,RR = Sp.gotA v.1 s:=⟨_,rfl⟩
 rw [← hRR]
 have HRR:=hide hRR
 clear hT hS hdw hTa hba hRR
 go_enter Tryz.func57,Tryz.ntmps57
 go_wp2_with (fail)
 refine (unhide hcall).mono ?_
 rintro x w1 ⟨he,hb1⟩
 have A1:=hide ((unhide HA).low hb1)
 have S1:=hide ((unhide HS).low hb1)
 have D1:=hide ((unhide HDW).bel hb1)
 have T1:=hide ((unhide HT).below (hb1.mono (unhide HT).ng))
 have hb01:=(unhide HBA).trans (hb1.mono (unhide HBA).size)
 have HB1:=hide hb01
 clear hb1 hb01 HA HS HDW HBA HT hcall
 cases htk:Sp.toks s with
 | none =>
  rw [htk] at he
  have he2:x = .returned (.tuple #[.slice none 0 0,.bool false]):=he
  subst he2
  have HE:=hide (show RR = (9,0,[]) by rw [unhide HRR]; unfold Sp.gotA; rw [htk])
  clear he htk
  go_wp2_with (fail)
  refine (failed_any 9 _).mono ?_
  rintro x w2 ⟨rfl,hb2⟩
  have a2:=(unhide A1).low hb2
  have g0:=a2.c0
  have g1:=a2.c1
  have g2:=a2.c2
  have z:=a2.fz
  have HB2:=hide ((unhide HB1).trans (hb2.mono (unhide HB1).size))
  clear a2 hb2
  unfold ansV
  go_wp2_with (fail)
  refine bodyPost_ret (v:=ansV 9 []) (by simp [results,Tryz.results57,go_sem,ansV,g0,g1,g2]) rfl ⟨?_,?_⟩
  ·rw [unhide HE]; rfl
  ·exact below_set (below_set (below_set (unhide HB2) _ 0 (by omega) _) _ 1 (by omega) _) _ 2 (by omega) _
 | some ks =>
  rw [htk] at he
  obtain ⟨pv,rfl,hpv⟩:=he
  have HPV:=hide hpv
  have HTK:=hide htk
  clear hpv htk
  have d0:=(unhide S1).c3
  go_wp2_with (fail)
  refine (Whole_any (unhide D1)).mono ?_
  rintro x w2 ⟨rfl,hb2⟩
  have A2:=hide ((unhide A1).low hb2)
  have D2:=hide ((unhide D1).bel hb2)
  have T2:=hide ((unhide T1).below (hb2.mono (unhide T1).ng))
  have P2:=hide ((unhide HPV).bel hb2)
  have HB2:=hide ((unhide HB1).trans (hb2.mono (unhide HB1).size))
  clear hb2 A1 D1 T1 HPV HB1 d0
  go_wp2_with (fail)
  have hkl:=unhide hTL ks (unhide HTK)
  refine (Find_any (F:=F) (d:=v.1) (fun t ht=>Nat.le_trans (hkl.2 t ht) hn) (Nat.le_trans hkl.1 hn) (unhide T2).rng ⟨top,(unhide D2).rep⟩ (unhide P2)).mono ?_
  rintro x w3 ⟨ho,hb3⟩
  have A3:=hide ((unhide A2).low hb3)
  have D3:=hide ((unhide D2).bel hb3)
  have T3:=hide ((unhide T2).below (hb3.mono (unhide T2).ng))
  have HB3:=hide ((unhide HB2).trans (hb3.mono (unhide HB2).size))
  clear hb3 A2 D2 T2 P2 HB2 hkl
  cases hfd:Sp.find v.1 ks with
  | error c =>
   rw [hfd] at ho
   have ho2:x = .returned (.tuple #[.pointer none,.int .i64 c]):=ho
   subst ho2
   have HE:=hide (show RR = (c,0,[]) by rw [unhide HRR]; unfold Sp.gotA; rw [unhide HTK]; simp only [hfd])
   have hc0:c = 11 ∨ c = 12:=find_err hfd
   have e1:((c:Int) == 0) = false:=by rw [beq_eq_false_iff_ne]; omega
   have e2:((c:Int) != 0) = true:=by rw [bne_iff_ne]; omega
   clear ho hfd hc0
   go_wp2_with (fail)
   refine (failed_any c _).mono ?_
   rintro x w4 ⟨rfl,hb4⟩
   have a2:=(unhide A3).low hb4
   have g0:=a2.c0
   have g1:=a2.c1
   have g2:=a2.c2
   have z:=a2.fz
   have HB4:=hide ((unhide HB3).trans (hb4.mono (unhide HB3).size))
   clear a2 hb4
   unfold ansV
   go_wp2_with (fail)
   refine bodyPost_ret (v:=ansV c []) (by simp [results,Tryz.results57,go_sem,ansV,g0,g1,g2]) rfl ⟨?_,?_⟩
   ·rw [unhide HE]; rfl
   ·exact below_set (below_set (below_set (unhide HB4) _ 0 (by omega) _) _ 1 (by omega) _) _ 2 (by omega) _
  | ok y =>
   rw [hfd] at ho
   obtain ⟨yv,rfl,hy⟩:=ho
   have HE:=hide (show RR = (0,0,Sp.can top y) by rw [unhide HRR]; unfold Sp.gotA; rw [unhide HTK]; simp only [hfd])
   have hgd:=(unhide D3).gd
   obtain ⟨M,hM,hMc,hMl⟩:=found_can hgd (unhide D3).len hfd hy
   have HCAN:=hide (Canonical_any hM (unhide T3) (by omega))
   rw [hMc] at HCAN
   clear hfd hy hgd hM hMc hMl
   go_wp2_with (fail)
   refine (unhide HCAN).mono ?_
   rintro x w4 ⟨rfl,hb4⟩
   have a2:=(unhide A3).low hb4
   have g0:=a2.c0
   have g1:=a2.c1
   have g2:=a2.c2
   have z:=a2.fz
   have HB4:=hide ((unhide HB3).trans (hb4.mono (unhide HB3).size))
   clear a2 hb4 HCAN
   go_wp2_with (fail)
   refine bodyPost_ret (v:=ansV 0 (Sp.can top y)) (by simp [results,Tryz.results57,go_sem,ansV,g0,g1,g2]) rfl ⟨?_,?_⟩
   ·rw [unhide HE]; rfl
   ·exact below_set (below_set (below_set (unhide HB4) _ 0 (by omega) _) _ 1 (by omega) _) _ 2 (by omega) _
end Go.Proofs.YtdpomdelmdofmaaGreatDoor

namespace Go.Proofs.YtdpomdelmdofmaaGreatDoor
open Go.RowKit
theorem tst_none {d e:Int} {v:Sp.V} {s t:Sp.By} (h:Sp.toks s = none):Sp.tst d e v s t = 9:=by unfold Sp.tst; rw [h]
theorem tst_bad {d e:Int} {v:Sp.V} {s t:Sp.By} {ks:List Sp.By} {c:Nat} (h:Sp.toks s = some ks) (h2:Sp.readTo t d e = (c,none)):Sp.tst d e v s t = c:=by unfold Sp.tst; rw [h]; simp only [h2]
theorem tst_err {d e:Int} {v:Sp.V} {s t:Sp.By} {ks:List Sp.By} {x:Sp.V} {c:Nat} (h:Sp.toks s = some ks) (h2:Sp.readTo t d e = (0,some x)) (h3:Sp.find v ks = .error c):Sp.tst d e v s t = c:=by unfold Sp.tst; rw [h]; simp only [h2,h3]
theorem tst_ok {d e:Int} {v:Sp.V} {s t:Sp.By} {ks:List Sp.By} {x y:Sp.V} (h:Sp.toks s = some ks) (h2:Sp.readTo t d e = (0,some x)) (h3:Sp.find v ks = .ok y):Sp.tst d e v s t = if veq y x = true then 0 else 14:=by unfold Sp.tst; rw [h]; simp only [h2,h3]
theorem same_top {f:Nat} {F F':Nat → Prop} {w:World} {v v':Value} {a b:Sp.V} (h:Rep f F w v a) (h':Rep top F' w v' b):Calls Tryz.prog 82 #[v,v'] w fun e w'=>e = .returned (.bool (veq a b)) ∧ Below w.heap.size w w' :=
 Same_any (max f top) F F' w v v' a b (h.up (Nat.le_max_left _ _)) (h'.up (Nat.le_max_right _ _))
set_option maxHeartbeats 4000000 in
theorem test_ok:TestOk:=by
 intro S d e n p v F s t w hn hS hD hT
 obtain ⟨D,R,wp,rfl,hdw⟩:=hD
 have hba:Below w.heap.size w (w.alloc (.cells #[.int .i64 0,.int .i64 0,.string ⟨#[]⟩] 46)):=(Below.refl _ _).alloc (Nat.le_refl _) _
 have hTa:=hT.below (hba.mono hT.ng)
 have hcall:=hide (pRead_any hn hTa hTa.pesc hTa.mx)
 have HDW:=hide (hdw.bel hba)
 have HS:=hide (hS.low hba)
 have HT:=hide hTa
 have HA:=hide (AB.new w)
 have HBA:=hide hba
 have hng:=hT.ng
 have hTL:=hide (fun ks (h:Sp.toks s = some ks)=>toks_len h)
 obtain ⟨RR,hRR⟩:∃ RR,RR = Sp.tst d e v.1 s t:=⟨_,rfl⟩
 rw [← hRR]
 have HRR:=hide hRR
 clear hT hS hdw hTa hba hRR
 go_enter Tryz.func58,Tryz.ntmps58
 go_wp2_with (fail)
 refine (unhide hcall).mono ?_
 rintro x w1 ⟨he,hb1⟩
 have A1:=hide ((unhide HA).low hb1)
 have S1:=hide ((unhide HS).low hb1)
 have D1:=hide ((unhide HDW).bel hb1)
 have T1:=hide ((unhide HT).below (hb1.mono (unhide HT).ng))
 have hb01:=(unhide HBA).trans (hb1.mono (unhide HBA).size)
 have HB1:=hide hb01
 clear hb1 hb01 HA HS HDW HBA HT hcall
 cases htk:Sp.toks s with
 | none =>
  rw [htk] at he
  have he2:x = .returned (.tuple #[.slice none 0 0,.bool false]):=he
  subst he2
  have HE:=hide (show RR = 9 by rw [unhide HRR,tst_none htk])
  clear he htk
  go_wp2_with (fail)
  refine (failed_any 9 _).mono ?_
  rintro x w2 ⟨rfl,hb2⟩
  have a2:=(unhide A1).low hb2
  have g0:=a2.c0
  have g1:=a2.c1
  have g2:=a2.c2
  have z:=a2.fz
  have HB2:=hide ((unhide HB1).trans (hb2.mono (unhide HB1).size))
  clear a2 hb2
  unfold ansV
  go_wp2_with (fail)
  refine bodyPost_ret (v:=ansV 9 []) (by simp [results,Tryz.results58,go_sem,ansV,g0,g1,g2]) rfl ⟨?_,?_⟩
  ·rw [unhide HE]; rfl
  ·exact below_set (below_set (below_set (unhide HB2) _ 0 (by omega) _) _ 1 (by omega) _) _ 2 (by omega) _
 | some ks =>
  rw [htk] at he
  obtain ⟨pv,rfl,hpv⟩:=he
  have HPV:=hide hpv
  have HTK:=hide htk
  clear hpv htk
  go_wp2_with (fail)
  refine (sread_any t (unhide S1) (unhide T1)).mono ?_
  rintro x w2 ⟨p2,c,rfl,hb2,hcs⟩
  have A2:=hide ((unhide A1).low hb2)
  have S2:=hide ((unhide S1).low hb2)
  have D2:=hide ((unhide D1).bel hb2)
  have T2:=hide ((unhide T1).below (hb2.mono (unhide T1).ng))
  have P2:=hide ((unhide HPV).bel hb2)
  have HB2:=hide ((unhide HB1).trans (hb2.mono (unhide HB1).size))
  clear hb2 A1 D1 T1 S1 HPV HB1
  rcases hcs with ⟨hpos,hrd⟩ | ⟨rfl,xv,hrd,hrep⟩
  ·have HE:=hide (show RR = c by rw [unhide HRR,tst_bad (unhide HTK) hrd])
   have e0:((c:Int) != 0) = true:=by simp; omega
   clear hrd hpos
   go_wp2_with (fail)
   refine (failed_any c _).mono ?_
   rintro x w3 ⟨rfl,hb3⟩
   have a2:=(unhide A2).low hb3
   have g0:=a2.c0
   have g1:=a2.c1
   have g2:=a2.c2
   have z:=a2.fz
   have HB3:=hide ((unhide HB2).trans (hb3.mono (unhide HB2).size))
   clear a2 hb3
   unfold ansV
   go_wp2_with (fail)
   refine bodyPost_ret (v:=ansV c []) (by simp [results,Tryz.results58,go_sem,ansV,g0,g1,g2]) rfl ⟨?_,?_⟩
   ·rw [unhide HE]; rfl
   ·exact below_set (below_set (below_set (unhide HB3) _ 0 (by omega) _) _ 1 (by omega) _) _ 2 (by omega) _
  have HRD:=hide hrd
  have HX:=hide hrep
  clear hrd hrep
  have d0:=(unhide S2).c3
  go_wp2_with (fail)
  refine (Whole_any (unhide D2)).mono ?_
  rintro x w3 ⟨rfl,hb3⟩
  have A3:=hide ((unhide A2).low hb3)
  have D3:=hide ((unhide D2).bel hb3)
  have T3:=hide ((unhide T2).below (hb3.mono (unhide T2).ng))
  have P3:=hide ((unhide P2).bel hb3)
  have X3:=hide ((unhide HX).bel hb3)
  have HB3:=hide ((unhide HB2).trans (hb3.mono (unhide HB2).size))
  clear hb3 A2 D2 T2 P2 HX HB2 d0 S2
  go_wp2_with (fail)
  have hkl:=unhide hTL ks (unhide HTK)
  refine (Find_any (F:=F) (d:=v.1) (fun t ht=>Nat.le_trans (hkl.2 t ht) hn) (Nat.le_trans hkl.1 hn) (unhide T3).rng ⟨top,(unhide D3).rep⟩ (unhide P3)).mono ?_
  rintro x w4 ⟨ho,hb4⟩
  have A4:=hide ((unhide A3).low hb4)
  have T4:=hide ((unhide T3).below (hb4.mono (unhide T3).ng))
  have X4:=hide ((unhide X3).bel hb4)
  have HB4:=hide ((unhide HB3).trans (hb4.mono (unhide HB3).size))
  clear hb4 A3 D3 T3 P3 HB3 X3 hkl
  cases hfd:Sp.find v.1 ks with
  | error c =>
   rw [hfd] at ho
   have ho2:x = .returned (.tuple #[.pointer none,.int .i64 c]):=ho
   subst ho2
   have HE:=hide (show RR = c by rw [unhide HRR,tst_err (unhide HTK) (unhide HRD) hfd])
   have hc0:c = 11 ∨ c = 12:=find_err hfd
   have e1:((c:Int) == 0) = false:=by rw [beq_eq_false_iff_ne]; omega
   have e2:((c:Int) != 0) = true:=by rw [bne_iff_ne]; omega
   clear ho hfd hc0
   go_wp2_with (fail)
   refine (failed_any c _).mono ?_
   rintro x w5 ⟨rfl,hb5⟩
   have a2:=(unhide A4).low hb5
   have g0:=a2.c0
   have g1:=a2.c1
   have g2:=a2.c2
   have z:=a2.fz
   have HB5:=hide ((unhide HB4).trans (hb5.mono (unhide HB4).size))
   clear a2 hb5
   unfold ansV
   go_wp2_with (fail)
   refine bodyPost_ret (v:=ansV c []) (by simp [results,Tryz.results58,go_sem,ansV,g0,g1,g2]) rfl ⟨?_,?_⟩
   ·rw [unhide HE]; rfl
   ·exact below_set (below_set (below_set (unhide HB5) _ 0 (by omega) _) _ 1 (by omega) _) _ 2 (by omega) _
  | ok y =>
   rw [hfd] at ho
   obtain ⟨yv,rfl,f,hy⟩:=ho
   have HE:=hide (show RR = if veq y xv = true then 0 else 14 by rw [unhide HRR,tst_ok (unhide HTK) (unhide HRD) hfd])
   have HSAME:=hide (same_top hy (unhide X4))
   clear hfd hy
   go_wp2_with (fail)
   refine (unhide HSAME).mono ?_
   rintro x w5 ⟨rfl,hb5⟩
   have A5:=hide ((unhide A4).low hb5)
   have HB5:=hide ((unhide HB4).trans (hb5.mono (unhide HB4).size))
   have T5:=hide ((unhide T4).below (hb5.mono (unhide T4).ng))
   clear hb5 A4 HB4 T4 HSAME X4
   cases hq:veq y xv with
   | false =>
    have HE2:=hide (show RR = 14 by rw [unhide HE,hq,if_neg (by decide)])
    clear hq HE
    go_wp2_with (fail)
    refine (failed_any 14 _).mono ?_
    rintro x w6 ⟨rfl,hb6⟩
    have a2:=(unhide A5).low hb6
    have g0:=a2.c0
    have g1:=a2.c1
    have g2:=a2.c2
    have z:=a2.fz
    have HB6:=hide ((unhide HB5).trans (hb6.mono (unhide HB5).size))
    clear a2 hb6
    unfold ansV
    go_wp2_with (fail)
    refine bodyPost_ret (v:=ansV 14 []) (by simp [results,Tryz.results58,go_sem,ansV,g0,g1,g2]) rfl ⟨?_,?_⟩
    ·rw [unhide HE2]; rfl
    ·exact below_set (below_set (below_set (unhide HB6) _ 0 (by omega) _) _ 1 (by omega) _) _ 2 (by omega) _
   | true =>
    have HE2:=hide (show RR = 0 by rw [unhide HE,hq,if_pos rfl])
    clear hq HE
    have a2:=unhide A5
    have g0:=a2.c0
    have g1:=a2.c1
    have g2:=a2.c2
    have z:=a2.fz
    clear a2
    go_wp2_with (fail)
    refine bodyPost_ret (v:=ansV 0 []) (by simp [results,Tryz.results58,go_sem,ansV,g0,g1,g2]) rfl ⟨?_,?_⟩
    ·rw [unhide HE2]; rfl
    ·exact below_set (below_set (below_set (unhide HB5) _ 0 (by omega) _) _ 1 (by omega) _) _ 2 (by omega) _
end Go.Proofs.YtdpomdelmdofmaaGreatDoor

namespace Go.Proofs.YtdpomdelmdofmaaGreatDoor
open Go.RowKit
def patchingCells:Array Value:=#[.int .i64 1,.string ⟨#[91,49,44,50,93]⟩,.string ⟨#[]⟩,.int .i64 5,.string ⟨#[91,123,34,111,112,34,58,34,97,100,100,34,44,34,112,97,116,104,34,58,34,47,49,34,44,34,118,97,108,117,101,34,58,57,125,93]⟩,.string ⟨#[]⟩,.int .i64 2,.string ⟨#[]⟩,.string ⟨#[]⟩,.int .i64 7,.string ⟨#[]⟩,.string ⟨#[]⟩,.int .i64 3,.string ⟨#[47,49]⟩,.string ⟨#[]⟩]
theorem scr_patching {w:World} {g:Nat} (h:w.heap[g]? = some (.cells patchingCells 49 (0,0))):Scr w g 0 Sp.ps:=by
 intro i hi
 have hc:∀ j,w.cell? ⟨g,j,none⟩ = patchingCells[j]?:=fun j=>by simp [World.cell?,h]
 rw [hc,hc,hc]
 match i,hi with
 | 0,_=>exact ⟨rfl,rfl,rfl⟩
 | 1,_=>exact ⟨rfl,rfl,rfl⟩
 | 2,_=>exact ⟨rfl,rfl,rfl⟩
 | 3,_=>exact ⟨rfl,rfl,rfl⟩
 | 4,_=>exact ⟨rfl,rfl,rfl⟩
theorem plain_patching:Plain Sp.ps:=by
 intro o ho
 simp only [Sp.ps,List.mem_cons,List.not_mem_nil,or_false] at ho
 rcases ho with rfl | rfl | rfl | rfl | rfl
 ·exact Or.inl (Or.inl (by decide))
 ·exact Or.inr (Or.inr (Or.inl ⟨rfl,patch_ok⟩))
 ·exact Or.inl (Or.inl (by decide))
 ·exact Or.inr (Or.inr (Or.inr (Or.inr (Or.inl ⟨rfl,invert_ok⟩))))
 ·exact Or.inr (Or.inl ⟨Or.inl rfl,get_ok,test_ok,by decide⟩)
set_option maxRecDepth 100000 in
set_option maxHeartbeats 4000000 in
theorem patching_any (w:World) (hT:Laid w):Calls Tryz.prog 25 #[] w fun x w'=>x = .returned (.bool true) ∧ Below w.heap.size w w':=by
 have HT:=hide hT
 have hng:=hT.ng
 clear hT
 go_enter Tryz.func25,Tryz.ntmps25
 go_wp2_with (fail)
 refine (kstep_any 1 _ _ _).mono ?_
 rintro x w1 ⟨rfl,hb1⟩
 go_wp2_with (fail)
 refine (kstep_any 5 _ _ _).mono ?_
 rintro x w2 ⟨rfl,hb2⟩
 go_wp2_with (fail)
 refine (kstep_any 2 _ _ _).mono ?_
 rintro x w3 ⟨rfl,hb3⟩
 go_wp2_with (fail)
 refine (kstep_any 7 _ _ _).mono ?_
 rintro x w4 ⟨rfl,hb4⟩
 go_wp2_with (fail)
 refine (kstep_any 3 _ _ _).mono ?_
 rintro x w5 ⟨rfl,hb5⟩
 have g1:Below w.heap.size w w1:=hb1
 have g2:Below w.heap.size w w2:=g1.trans (hb2.mono g1.size)
 have g3:Below w.heap.size w w3:=g2.trans (hb3.mono g2.size)
 have g4:Below w.heap.size w w4:=g3.trans (hb4.mono g3.size)
 have g5:Below w.heap.size w w5:=g4.trans (hb5.mono g4.size)
 have HB4:=hide g5
 have hs4:=g5.size
 clear hb1 g1 hb2 g2 hb3 g3 hb4 g4 hb5 g5
 go_wp2_with (fail)
 have hb5:Below w.heap.size w (w5.alloc (.cells patchingCells 49)):=(unhide HB4).alloc hs4 _
 refine (Run_some (d:=3) (e:=9) (n:=100) (sb:=w5.heap.size) (so:=0) (m:=5) (cap:=5) (l:=Sp.ps) (scr_patching (heap_new w5 _ _ rfl)) plain_patching rfl (by omega) (by omega) (by omega) (by simp) ((unhide HT).below (hb5.mono hng))).mono ?_
 rintro x v0 ⟨A,cs,rfl,hA,hrow,hans,hb6⟩
 rw [run_ps] at hans
 obtain ⟨hsz,hc⟩:=hans
 have hcell:∀ j,v0.cell? ⟨A,j,none⟩ = cs[j]?:=fun j=>by simp [World.cell?,hrow]
 have q0:=hc 0 (by simp)
 have q1:=hc 1 (by simp)
 have q2:=hc 2 (by simp)
 have q3:=hc 3 (by simp)
 have q4:=hc 4 (by simp)
 simp only [List.getElem_cons_zero,List.getElem_cons_succ] at q0 q1 q2 q3 q4
 have c0_1_0:=(hcell 3).trans q1.1
 have c0_1_1:=(hcell 4).trans q1.2.1
 have c0_1_2:=(hcell 5).trans q1.2.2
 have c0_2_0:=(hcell 6).trans q2.1
 have c0_2_1:=(hcell 7).trans q2.2.1
 have c0_2_2:=(hcell 8).trans q2.2.2
 have c0_3_0:=(hcell 9).trans q3.1
 have c0_4_0:=(hcell 12).trans q4.1
 have c0_4_1:=(hcell 13).trans q4.2.1
 have c0_4_2:=(hcell 14).trans q4.2.2
 have HB:=hide (hb5.trans (hb6.mono hb5.size))
 have hA0:A < v0.heap.size:=(Array.getElem?_eq_some_iff.1 hrow).1
 clear q0 q1 q2 q3 q4 hc hcell hrow hsz hb5 hb6
 go_wp2_with (fail)
 refine (told_yes [] v0).mono ?_
 rintro x v1 ⟨rfl,hb7⟩
 have c1_2_0:=(hb7.cell (p:=⟨A,6,none⟩) hA0).trans c0_2_0
 have c1_2_1:=(hb7.cell (p:=⟨A,7,none⟩) hA0).trans c0_2_1
 have c1_2_2:=(hb7.cell (p:=⟨A,8,none⟩) hA0).trans c0_2_2
 have c1_3_0:=(hb7.cell (p:=⟨A,9,none⟩) hA0).trans c0_3_0
 have c1_4_0:=(hb7.cell (p:=⟨A,12,none⟩) hA0).trans c0_4_0
 have c1_4_1:=(hb7.cell (p:=⟨A,13,none⟩) hA0).trans c0_4_1
 have c1_4_2:=(hb7.cell (p:=⟨A,14,none⟩) hA0).trans c0_4_2
 have HB:=hide ((unhide HB).trans (hb7.mono (unhide HB).size))
 have hA1:A < v1.heap.size:=Nat.lt_of_lt_of_le hA0 hb7.size
 clear c0_1_0 c0_1_1 c0_1_2 c0_2_0 c0_2_1 c0_2_2 c0_3_0 c0_4_0 c0_4_1 c0_4_2 hb7
 go_wp2_with (fail)
 refine (told_yes Sp.p4 v1).mono ?_
 rintro x v2 ⟨rfl,hb7⟩
 have c2_3_0:=(hb7.cell (p:=⟨A,9,none⟩) hA1).trans c1_3_0
 have c2_4_0:=(hb7.cell (p:=⟨A,12,none⟩) hA1).trans c1_4_0
 have c2_4_1:=(hb7.cell (p:=⟨A,13,none⟩) hA1).trans c1_4_1
 have c2_4_2:=(hb7.cell (p:=⟨A,14,none⟩) hA1).trans c1_4_2
 have HB:=hide ((unhide HB).trans (hb7.mono (unhide HB).size))
 have hA2:A < v2.heap.size:=Nat.lt_of_lt_of_le hA1 hb7.size
 clear c1_2_0 c1_2_1 c1_2_2 c1_3_0 c1_4_0 c1_4_1 c1_4_2 hb7
 go_wp2_with (fail)
 refine (told_yes [57] v2).mono ?_
 rintro x v3 ⟨rfl,hb7⟩
 have c3_3_0:=(hb7.cell (p:=⟨A,9,none⟩) hA2).trans c2_3_0
 have HB:=hide ((unhide HB).trans (hb7.mono (unhide HB).size))
 have hA3:A < v3.heap.size:=Nat.lt_of_lt_of_le hA2 hb7.size
 clear c2_3_0 c2_4_0 c2_4_1 c2_4_2 hb7
 go_wp2_with (fail)
 go_ret
 exact ⟨rfl,unhide HB⟩
end Go.Proofs.YtdpomdelmdofmaaGreatDoor

namespace Go.Proofs.YtdpomdelmdofmaaGreatDoor
open Go.RowKit Go.Maps
theorem fine_patch (s t:Sp.By):Fine (5,s,t):=Or.inr (Or.inr (Or.inl ⟨rfl,patch_ok⟩))
theorem fine_invert (s t:Sp.By):Fine (7,s,t):=Or.inr (Or.inr (Or.inr (Or.inr (Or.inl ⟨rfl,invert_ok⟩))))
theorem fine_get (s t:Sp.By) (h:s.length ≤ 1048576):Fine (3,s,t):=Or.inr (Or.inl ⟨Or.inl rfl,get_ok,test_ok,h⟩)
set_option maxHeartbeats 4000000 in
theorem config_3 (a b c:Int) (ha0:-9223372036854775808 ≤ a) (ha1:a ≤ 9223372036854775807) (hb0:-9223372036854775808 ≤ b) (hb1:b ≤ 9223372036854775807) (hc0:-9223372036854775808 ≤ c) (hc1:c ≤ 9223372036854775807) (w:World) :
  Calls Tryz.prog 18 #[.int .i64 a,.int .i64 b,.int .i64 c] w fun x w'=>(∃ (d e n:Int),Sp.cfg d e n = true ∧ x = .returned (.agg #[.int .i64 d,.int .i64 e,.int .i64 n])) ∧ Below w.heap.size w w':=by
 go_enter Tryz.func18,Tryz.ntmps18
 go_wp2_with (fail)
 refine (pick_any a 20 ha0 ha1 (by omega) (by omega) _).mono ?_
 rintro x w1 ⟨⟨d,hd,rfl⟩,rfl⟩
 go_wp2_with (fail)
 refine (pick_any b 401 hb0 hb1 (by omega) (by omega) _).mono ?_
 rintro x w1 ⟨⟨e,he,rfl⟩,rfl⟩
 go_wp2_with (fail)
 refine (pick_any c 2001 hc0 hc1 (by omega) (by omega) _).mono ?_
 rintro x w1 ⟨⟨n,hn,rfl⟩,rfl⟩
 go_wp2_with (fail)
 refine bodyPost_ret (v:=.agg #[.int .i64 ((d + 1:Nat):Int),.int .i64 e,.int .i64 n]) (by simp [results,Tryz.results18,go_sem]; omega) rfl ⟨⟨_,_,_,?_,rfl⟩,?_⟩
 ·simp [Sp.cfg,Sp.inB]; omega
 ·exact (Below.refl _ w).alloc (Nat.le_refl _) _
def rlsCells (t p:ByteArray):Array Value:=#[.int .i64 1,.string t,.string ⟨#[]⟩,.int .i64 2,.string ⟨#[]⟩,.string ⟨#[]⟩,.int .i64 5,.string p,.string ⟨#[]⟩,.int .i64 2,.string ⟨#[]⟩,.string ⟨#[]⟩,.int .i64 7,.string ⟨#[]⟩,.string ⟨#[]⟩,.int .i64 3,.string ⟨#[]⟩,.string ⟨#[]⟩]
theorem scr_rls {w:World} {g:Nat} {t p:ByteArray} (h:w.heap[g]? = some (.cells (rlsCells t p) 49 (0,0))):Scr w g 0 (Sp.rls t.data.toList p.data.toList):=by
 intro i hi
 have hc:∀ j,w.cell? ⟨g,j,none⟩ = (rlsCells t p)[j]?:=fun j=>by simp [World.cell?,h]
 rw [hc,hc,hc]
 match i,hi with
 | 0,_=>exact ⟨rfl,by simp [rlsCells,Sp.rls],rfl⟩
 | 1,_=>exact ⟨rfl,rfl,rfl⟩
 | 2,_=>exact ⟨rfl,by simp [rlsCells,Sp.rls],rfl⟩
 | 3,_=>exact ⟨rfl,rfl,rfl⟩
 | 4,_=>exact ⟨rfl,rfl,rfl⟩
 | 5,_=>exact ⟨rfl,rfl,rfl⟩
theorem plain_rls (t p:Sp.By):Plain (Sp.rls t p):=by
 intro o ho
 simp only [Sp.rls,List.mem_cons,List.not_mem_nil,or_false] at ho
 rcases ho with rfl | rfl | rfl | rfl | rfl | rfl
 ·exact Or.inl (Or.inl (show (1:Int) < 3 by decide))
 ·exact Or.inl (Or.inl (show (2:Int) < 3 by decide))
 ·exact fine_patch _ _
 ·exact Or.inl (Or.inl (show (2:Int) < 3 by decide))
 ·exact fine_invert _ _
 ·exact fine_get _ _ (by decide)
set_option maxRecDepth 100000 in
set_option maxHeartbeats 8000000 in
theorem Rolled_any {a:Int} (ha0:-9223372036854775808 ≤ a) (ha1:a ≤ 9223372036854775807) (t p:ByteArray) (w:World) (hT:Laid w) :
  Calls Tryz.prog 9 #[.int .i64 a,.string t,.string p] w fun x w'=>x = .returned (.bool true) ∧ Below w.heap.size w w':=by
 have HT:=hide hT
 have hng:=hT.ng
 clear hT
 go_enter Tryz.func9,Tryz.ntmps9
 go_wp2_with (fail)
 refine (patching_any w (unhide HT)).mono ?_
 rintro x w1 ⟨rfl,hb1⟩
 have HB1:=hide hb1
 clear hb1
 go_wp2_with (fail)
 refine (config_3 a 400 2000 ha0 ha1 (by omega) (by omega) (by omega) (by omega) w1).mono ?_
 rintro x w2 ⟨⟨d,e,n,hc,rfl⟩,hb2⟩
 have HC:=hide hc
 have HB2:=hide ((unhide HB1).trans (hb2.mono (unhide HB1).size))
 clear hb2 hc
 go_upto_region 3 with (fail)
 obtain ⟨wb,hwb⟩:∃ wb,wb = w2.alloc (.cells #[.int .i64 d,.int .i64 e,.int .i64 n] 23):=⟨_,rfl⟩
 rw [← hwb]
 have hz:wb.heap[w2.heap.size]? = some (.cells #[.int .i64 d,.int .i64 e,.int .i64 n] 23 (0,0)):=by rw [hwb]; exact heap_alloc_new w2 _
 have hzl:w2.heap.size < wb.heap.size:=(Array.getElem?_eq_some_iff.1 hz).1
 have y0:wb.cell? ⟨w2.heap.size,0,none⟩ = some (.int .i64 d):=by simp [World.cell?,hz]
 have y1:wb.cell? ⟨w2.heap.size,1,none⟩ = some (.int .i64 e):=by simp [World.cell?,hz]
 have y2:wb.cell? ⟨w2.heap.size,2,none⟩ = some (.int .i64 n):=by simp [World.cell?,hz]
 have hbw:Below w.heap.size w wb:=by rw [hwb]; exact (unhide HB2).alloc (unhide HB2).size _
 have HRUN:∀ (w0:World) (g:Nat),Below wb.heap.size wb w0 → w0.heap[g]? = some (.cells (rlsCells t p) 49 (0,0)) → Calls Tryz.prog 24 #[.agg #[.int .i64 d,.int .i64 e,.int .i64 n],.slice (some ⟨g,0,none⟩) 6 6] w0 fun x w'=>RunEnd 6 (Sp.run d e n none (Sp.rls t.data.toList p.data.toList)) w0 x w':=by
  intro w0 g h0 h1
  exact Run_some (d:=d) (e:=e) (n:=n) (l:=Sp.rls t.data.toList p.data.toList) (m:=6) (cap:=6) (scr_rls h1) (plain_rls _ _) rfl (by decide) (by decide) (by decide) (Array.getElem?_eq_some_iff.1 h1).1 ((unhide HT).below ((hbw.trans (h0.mono hbw.size)).mono hng))
 go_cut [9] (fun s9 wx=>∃ A cs,s9 = .slice (some ⟨A,0,none⟩) 6 6 ∧ wx.heap[A]? = some (.cells cs 46 (0,0)) ∧ AnsC cs 6 (Sp.run d e n none (Sp.rls t.data.toList p.data.toList)) ∧ Below wb.heap.size wb wx)
 case first =>
  refine wp_region_any (by kernel_rfl) ?_
  refine wpAny_invC (fun lJ aJ wJ=>lJ.size = 12 ∧ (lJ.getD 10 false = false → Below (wb).heap.size wb wJ) ∧ ∃ x16 x17 x18 x19 x20 x21 x22 x23 x24 x25 x26 x9,aJ = { tmps:=#[.int .i64 a,.string t,.string p,undef,undef,undef,.bool false,.bool true,.pointer (some ⟨w2.heap.size,0,none⟩),x9,undef,undef,undef,.bool true,.int .i64 a,.agg #[.int .i64 d,.int .i64 e,.int .i64 n],x16,x17,x18,x19,x20,x21,x22,x23,x24,x25,x26,undef,undef,undef,undef,undef,undef,undef,undef,undef,undef,undef,undef,undef,undef,undef,undef,undef,undef,undef,undef,undef,undef,undef,undef,undef,undef,undef,undef,undef,undef,undef,undef,undef,undef,undef,undef,undef,undef,undef,undef,undef,undef,undef,undef,undef,undef,undef,undef,undef,undef,undef,undef,undef,undef,undef,undef,undef,undef,undef,undef,undef,undef,undef,undef,undef,undef,undef,undef,undef,undef,undef,undef,undef,undef,undef,undef,undef,undef,undef,undef,undef,undef,undef,undef,undef,undef,undef,undef,undef,undef,undef],defers:=[] } ∧ (lJ.getD 0 false = true → x16 = .agg #[.int .i64 d,.int .i64 e,.int .i64 n]) ∧ (lJ.getD 1 false = true → x17 = .string t) ∧ (lJ.getD 2 false = true → x18 = .agg #[.int .i64 1,.string t,.string ⟨#[]⟩]) ∧ (lJ.getD 3 false = true → x19 = .agg #[.int .i64 2,.string ⟨#[]⟩,.string ⟨#[]⟩]) ∧ (lJ.getD 4 false = true → x20 = .string p) ∧ (lJ.getD 5 false = true → x21 = .agg #[.int .i64 5,.string p,.string ⟨#[]⟩]) ∧ (lJ.getD 6 false = true → x22 = .agg #[.int .i64 2,.string ⟨#[]⟩,.string ⟨#[]⟩]) ∧ (lJ.getD 7 false = true → x23 = .agg #[.int .i64 7,.string ⟨#[]⟩,.string ⟨#[]⟩]) ∧ (lJ.getD 8 false = true → x24 = .agg #[.int .i64 3,.string ⟨#[]⟩,.string ⟨#[]⟩]) ∧ (lJ.getD 9 false = true → lJ.getD 10 false = false → (fun w x=>∃ g,x = .slice (some ⟨g,0,none⟩) 6 6 ∧ w.heap[g]? = some (.cells (rlsCells t p) 49 (0,0))) wJ x25) ∧ (lJ.getD 10 false = true → (fun w x=>∃ A cs,x = .slice (some ⟨A,0,none⟩) 6 6 ∧ w.heap[A]? = some (.cells cs 46 (0,0)) ∧ AnsC cs 6 (Sp.run d e n none (Sp.rls t.data.toList p.data.toList)) ∧ Below wb.heap.size wb w) wJ x26) ∧ (lJ.getD 11 false = true → x9 = x26)) ?hs ?he _ _ _ ?h0
  case h0 =>
   refine ⟨rfl,fun _=>⟨rfl,rfl,rfl,Nat.le_refl _,fun _ _=>rfl⟩,_,_,_,_,_,_,_,_,_,_,_,_,rfl,?_⟩
   refine ⟨?_,?_,?_,?_,?_,?_,?_,?_,?_,?_,?_,?_⟩ <;> (intro h; exact absurd h (by decide))
  case he =>
   intro l a w1 hJ hr
   have hall:=ready_none hJ.1 (by kernel_rfl) hr
   obtain ⟨hsz,hbel,x16,x17,x18,x19,x20,x21,x22,x23,x24,x25,x26,x9,rfl,e0,e1,e2,e3,e4,e5,e6,e7,e8,e9,e10,e11⟩:=hJ
   have f0:=e0 (hall 0 (by decide))
   have f1:=e1 (hall 1 (by decide))
   have f2:=e2 (hall 2 (by decide))
   have f3:=e3 (hall 3 (by decide))
   have f4:=e4 (hall 4 (by decide))
   have f5:=e5 (hall 5 (by decide))
   have f6:=e6 (hall 6 (by decide))
   have f7:=e7 (hall 7 (by decide))
   have f8:=e8 (hall 8 (by decide))
   have f9:=e9 (hall 9 (by decide))
   have f10:=e10 (hall 10 (by decide))
   have f11:=e11 (hall 11 (by decide))
   clear e0 e1 e2 e3 e4 e5 e6 e7 e8 e9 e10 e11 hall hr
   obtain ⟨A,cs,rfl,hrow,hans,hbR⟩:=f10
   subst f11
   go_wp2_with (fail)
   go_meet
   exact ⟨A,cs,rfl,hrow,hans,hbR⟩
  case hs =>
   intro l a w1 hcl hJ i hi
   obtain ⟨hno,haft⟩:=ready_after hi
   have hi12:i < 12:=by
    obtain ⟨_,o,ho,_⟩:=mem_ready.1 hi
    exact (Array.getElem?_eq_some_iff.1 ho).1
   obtain ⟨hsz,hbel,x16,x17,x18,x19,x20,x21,x22,x23,x24,x25,x26,x9,rfl,e0,e1,e2,e3,e4,e5,e6,e7,e8,e9,e10,e11⟩:=hJ
   clear hi
   have hcase:i = 0 ∨ i = 1 ∨ i = 2 ∨ i = 3 ∨ i = 4 ∨ i = 5 ∨ i = 6 ∨ i = 7 ∨ i = 8 ∨ i = 9 ∨ i = 10 ∨ i = 11:=by omega
   rcases hcase with rfl | rfl | rfl | rfl | rfl | rfl | rfl | rfl | rfl | rfl | rfl | rfl
   ·have hni:l.getD 0 false = false:=by simpa [Array.getD,hsz] using hno
    have hnl:l.getD 10 false = false:=by
     cases h:l.getD 10 false
     ·rfl
     ·have h0:=hcl 10 _ rfl h ⟨0,.data⟩ (by simp) rfl
      exact absurd h0 (by rw [hni]; decide)
    have hb:=hbel hnl
    have z0:=(hb.cell (p:=⟨w2.heap.size,0,none⟩) hzl).trans y0
    have z1:=(hb.cell (p:=⟨w2.heap.size,1,none⟩) hzl).trans y1
    have z2:=(hb.cell (p:=⟨w2.heap.size,2,none⟩) hzl).trans y2
    refine wpOp_step rfl fun K hK=>?_
    go_simp
    exact hK _ _ ⟨by simp [hsz],fun h=>hbel ((getD_set_ne _ (by decide)).symm.trans h),_,_,_,_,_,_,_,_,_,_,_,_,rfl,fun _=>rfl,setN (by decide) e1,setN (by decide) e2,setN (by decide) e3,setN (by decide) e4,setN (by decide) e5,setN (by decide) e6,setN (by decide) e7,setN (by decide) e8,fun h h'=>e9 ((getD_set_ne _ (by decide)).symm.trans h) ((getD_set_ne _ (by decide)).symm.trans h'),setN (by decide) e10,setN (by decide) e11⟩
   ·have hni:l.getD 1 false = false:=by simpa [Array.getD,hsz] using hno
    have hnl:l.getD 10 false = false:=by
     cases h:l.getD 10 false
     ·rfl
     ·have h0:=hcl 10 _ rfl h ⟨9,.data⟩ (by simp) rfl
      have h1:=hcl 9 _ rfl h0 ⟨2,.data⟩ (by simp) rfl
      have h2:=hcl 2 _ rfl h1 ⟨1,.data⟩ (by simp) rfl
      exact absurd h2 (by rw [hni]; decide)
    have hb:=hbel hnl
    refine wpOp_step rfl fun K hK=>?_
    go_simp
    exact hK _ _ ⟨by simp [hsz],fun h=>hbel ((getD_set_ne _ (by decide)).symm.trans h),_,_,_,_,_,_,_,_,_,_,_,_,rfl,setN (by decide) e0,fun _=>rfl,setN (by decide) e2,setN (by decide) e3,setN (by decide) e4,setN (by decide) e5,setN (by decide) e6,setN (by decide) e7,setN (by decide) e8,fun h h'=>e9 ((getD_set_ne _ (by decide)).symm.trans h) ((getD_set_ne _ (by decide)).symm.trans h'),setN (by decide) e10,setN (by decide) e11⟩
   ·have hni:l.getD 2 false = false:=by simpa [Array.getD,hsz] using hno
    have hnl:l.getD 10 false = false:=by
     cases h:l.getD 10 false
     ·rfl
     ·have h0:=hcl 10 _ rfl h ⟨9,.data⟩ (by simp) rfl
      have h1:=hcl 9 _ rfl h0 ⟨2,.data⟩ (by simp) rfl
      exact absurd h1 (by rw [hni]; decide)
    obtain rfl:=e1 (haft _ rfl ⟨1,.data⟩ (by simp) rfl)
    have hb:=hbel hnl
    refine wpOp_step rfl fun K hK=>?_
    go_simp
    refine (kstep_any 1 t ⟨#[]⟩ w1).mono ?_
    rintro e wn ⟨rfl,hb2⟩
    show K _ _
    exact hK _ _ ⟨by simp [hsz],fun _=>hb.trans (hb2.mono hb.size),_,_,_,_,_,_,_,_,_,_,_,_,rfl,setN (by decide) e0,setN (by decide) e1,fun _=>rfl,setN (by decide) e3,setN (by decide) e4,setN (by decide) e5,setN (by decide) e6,setN (by decide) e7,setN (by decide) e8,fun h h'=>(fun hb2 ⟨g,a,b⟩=>⟨g,a,(hb2.block g (Array.getElem?_eq_some_iff.1 b).1).trans b⟩) hb2 (e9 ((getD_set_ne _ (by decide)).symm.trans h) ((getD_set_ne _ (by decide)).symm.trans h')),fun h=>absurd ((getD_set_ne _ (by decide)).symm.trans h) (by rw [hnl]; decide),setN (by decide) e11⟩
   ·have hni:l.getD 3 false = false:=by simpa [Array.getD,hsz] using hno
    have hnl:l.getD 10 false = false:=by
     cases h:l.getD 10 false
     ·rfl
     ·have h0:=hcl 10 _ rfl h ⟨9,.data⟩ (by simp) rfl
      have h1:=hcl 9 _ rfl h0 ⟨3,.data⟩ (by simp) rfl
      exact absurd h1 (by rw [hni]; decide)
    have hb:=hbel hnl
    refine wpOp_step rfl fun K hK=>?_
    go_simp
    refine (kstep_any 2 ⟨#[]⟩ ⟨#[]⟩ w1).mono ?_
    rintro e wn ⟨rfl,hb2⟩
    show K _ _
    exact hK _ _ ⟨by simp [hsz],fun _=>hb.trans (hb2.mono hb.size),_,_,_,_,_,_,_,_,_,_,_,_,rfl,setN (by decide) e0,setN (by decide) e1,setN (by decide) e2,fun _=>rfl,setN (by decide) e4,setN (by decide) e5,setN (by decide) e6,setN (by decide) e7,setN (by decide) e8,fun h h'=>(fun hb2 ⟨g,a,b⟩=>⟨g,a,(hb2.block g (Array.getElem?_eq_some_iff.1 b).1).trans b⟩) hb2 (e9 ((getD_set_ne _ (by decide)).symm.trans h) ((getD_set_ne _ (by decide)).symm.trans h')),fun h=>absurd ((getD_set_ne _ (by decide)).symm.trans h) (by rw [hnl]; decide),setN (by decide) e11⟩
   ·have hni:l.getD 4 false = false:=by simpa [Array.getD,hsz] using hno
    have hnl:l.getD 10 false = false:=by
     cases h:l.getD 10 false
     ·rfl
     ·have h0:=hcl 10 _ rfl h ⟨9,.data⟩ (by simp) rfl
      have h1:=hcl 9 _ rfl h0 ⟨5,.data⟩ (by simp) rfl
      have h2:=hcl 5 _ rfl h1 ⟨4,.data⟩ (by simp) rfl
      exact absurd h2 (by rw [hni]; decide)
    have hb:=hbel hnl
    refine wpOp_step rfl fun K hK=>?_
    go_simp
    exact hK _ _ ⟨by simp [hsz],fun h=>hbel ((getD_set_ne _ (by decide)).symm.trans h),_,_,_,_,_,_,_,_,_,_,_,_,rfl,setN (by decide) e0,setN (by decide) e1,setN (by decide) e2,setN (by decide) e3,fun _=>rfl,setN (by decide) e5,setN (by decide) e6,setN (by decide) e7,setN (by decide) e8,fun h h'=>e9 ((getD_set_ne _ (by decide)).symm.trans h) ((getD_set_ne _ (by decide)).symm.trans h'),setN (by decide) e10,setN (by decide) e11⟩
   ·have hni:l.getD 5 false = false:=by simpa [Array.getD,hsz] using hno
    have hnl:l.getD 10 false = false:=by
     cases h:l.getD 10 false
     ·rfl
     ·have h0:=hcl 10 _ rfl h ⟨9,.data⟩ (by simp) rfl
      have h1:=hcl 9 _ rfl h0 ⟨5,.data⟩ (by simp) rfl
      exact absurd h1 (by rw [hni]; decide)
    obtain rfl:=e4 (haft _ rfl ⟨4,.data⟩ (by simp) rfl)
    have hb:=hbel hnl
    refine wpOp_step rfl fun K hK=>?_
    go_simp
    refine (kstep_any 5 p ⟨#[]⟩ w1).mono ?_
    rintro e wn ⟨rfl,hb2⟩
    show K _ _
    exact hK _ _ ⟨by simp [hsz],fun _=>hb.trans (hb2.mono hb.size),_,_,_,_,_,_,_,_,_,_,_,_,rfl,setN (by decide) e0,setN (by decide) e1,setN (by decide) e2,setN (by decide) e3,setN (by decide) e4,fun _=>rfl,setN (by decide) e6,setN (by decide) e7,setN (by decide) e8,fun h h'=>(fun hb2 ⟨g,a,b⟩=>⟨g,a,(hb2.block g (Array.getElem?_eq_some_iff.1 b).1).trans b⟩) hb2 (e9 ((getD_set_ne _ (by decide)).symm.trans h) ((getD_set_ne _ (by decide)).symm.trans h')),fun h=>absurd ((getD_set_ne _ (by decide)).symm.trans h) (by rw [hnl]; decide),setN (by decide) e11⟩
   ·have hni:l.getD 6 false = false:=by simpa [Array.getD,hsz] using hno
    have hnl:l.getD 10 false = false:=by
     cases h:l.getD 10 false
     ·rfl
     ·have h0:=hcl 10 _ rfl h ⟨9,.data⟩ (by simp) rfl
      have h1:=hcl 9 _ rfl h0 ⟨6,.data⟩ (by simp) rfl
      exact absurd h1 (by rw [hni]; decide)
    have hb:=hbel hnl
    refine wpOp_step rfl fun K hK=>?_
    go_simp
    refine (kstep_any 2 ⟨#[]⟩ ⟨#[]⟩ w1).mono ?_
    rintro e wn ⟨rfl,hb2⟩
    show K _ _
    exact hK _ _ ⟨by simp [hsz],fun _=>hb.trans (hb2.mono hb.size),_,_,_,_,_,_,_,_,_,_,_,_,rfl,setN (by decide) e0,setN (by decide) e1,setN (by decide) e2,setN (by decide) e3,setN (by decide) e4,setN (by decide) e5,fun _=>rfl,setN (by decide) e7,setN (by decide) e8,fun h h'=>(fun hb2 ⟨g,a,b⟩=>⟨g,a,(hb2.block g (Array.getElem?_eq_some_iff.1 b).1).trans b⟩) hb2 (e9 ((getD_set_ne _ (by decide)).symm.trans h) ((getD_set_ne _ (by decide)).symm.trans h')),fun h=>absurd ((getD_set_ne _ (by decide)).symm.trans h) (by rw [hnl]; decide),setN (by decide) e11⟩
   ·have hni:l.getD 7 false = false:=by simpa [Array.getD,hsz] using hno
    have hnl:l.getD 10 false = false:=by
     cases h:l.getD 10 false
     ·rfl
     ·have h0:=hcl 10 _ rfl h ⟨9,.data⟩ (by simp) rfl
      have h1:=hcl 9 _ rfl h0 ⟨7,.data⟩ (by simp) rfl
      exact absurd h1 (by rw [hni]; decide)
    have hb:=hbel hnl
    refine wpOp_step rfl fun K hK=>?_
    go_simp
    refine (kstep_any 7 ⟨#[]⟩ ⟨#[]⟩ w1).mono ?_
    rintro e wn ⟨rfl,hb2⟩
    show K _ _
    exact hK _ _ ⟨by simp [hsz],fun _=>hb.trans (hb2.mono hb.size),_,_,_,_,_,_,_,_,_,_,_,_,rfl,setN (by decide) e0,setN (by decide) e1,setN (by decide) e2,setN (by decide) e3,setN (by decide) e4,setN (by decide) e5,setN (by decide) e6,fun _=>rfl,setN (by decide) e8,fun h h'=>(fun hb2 ⟨g,a,b⟩=>⟨g,a,(hb2.block g (Array.getElem?_eq_some_iff.1 b).1).trans b⟩) hb2 (e9 ((getD_set_ne _ (by decide)).symm.trans h) ((getD_set_ne _ (by decide)).symm.trans h')),fun h=>absurd ((getD_set_ne _ (by decide)).symm.trans h) (by rw [hnl]; decide),setN (by decide) e11⟩
   ·have hni:l.getD 8 false = false:=by simpa [Array.getD,hsz] using hno
    have hnl:l.getD 10 false = false:=by
     cases h:l.getD 10 false
     ·rfl
     ·have h0:=hcl 10 _ rfl h ⟨8,.chain⟩ (by simp) rfl
      exact absurd h0 (by rw [hni]; decide)
    have hb:=hbel hnl
    refine wpOp_step rfl fun K hK=>?_
    go_simp
    refine (kstep_any 3 ⟨#[]⟩ ⟨#[]⟩ w1).mono ?_
    rintro e wn ⟨rfl,hb2⟩
    show K _ _
    exact hK _ _ ⟨by simp [hsz],fun _=>hb.trans (hb2.mono hb.size),_,_,_,_,_,_,_,_,_,_,_,_,rfl,setN (by decide) e0,setN (by decide) e1,setN (by decide) e2,setN (by decide) e3,setN (by decide) e4,setN (by decide) e5,setN (by decide) e6,setN (by decide) e7,fun _=>rfl,fun h h'=>(fun hb2 ⟨g,a,b⟩=>⟨g,a,(hb2.block g (Array.getElem?_eq_some_iff.1 b).1).trans b⟩) hb2 (e9 ((getD_set_ne _ (by decide)).symm.trans h) ((getD_set_ne _ (by decide)).symm.trans h')),fun h=>absurd ((getD_set_ne _ (by decide)).symm.trans h) (by rw [hnl]; decide),setN (by decide) e11⟩
   ·have hni:l.getD 9 false = false:=by simpa [Array.getD,hsz] using hno
    have hnl:l.getD 10 false = false:=by
     cases h:l.getD 10 false
     ·rfl
     ·have h0:=hcl 10 _ rfl h ⟨9,.data⟩ (by simp) rfl
      exact absurd h0 (by rw [hni]; decide)
    obtain rfl:=e2 (haft _ rfl ⟨2,.data⟩ (by simp) rfl)
    obtain rfl:=e3 (haft _ rfl ⟨3,.data⟩ (by simp) rfl)
    obtain rfl:=e5 (haft _ rfl ⟨5,.data⟩ (by simp) rfl)
    obtain rfl:=e6 (haft _ rfl ⟨6,.data⟩ (by simp) rfl)
    obtain rfl:=e7 (haft _ rfl ⟨7,.data⟩ (by simp) rfl)
    obtain rfl:=e8 (haft _ rfl ⟨8,.data⟩ (by simp) rfl)
    have hb:=hbel hnl
    refine wpOp_step rfl fun K hK=>?_
    go_simp
    have hb2:Below w1.heap.size w1 (w1.alloc (.cells #[.int .i64 1,.string t,.string ⟨#[]⟩,.int .i64 2,.string ⟨#[]⟩,.string ⟨#[]⟩,.int .i64 5,.string p,.string ⟨#[]⟩,.int .i64 2,.string ⟨#[]⟩,.string ⟨#[]⟩,.int .i64 7,.string ⟨#[]⟩,.string ⟨#[]⟩,.int .i64 3,.string ⟨#[]⟩,.string ⟨#[]⟩] 49)):=(Below.refl _ _).alloc (Nat.le_refl _) _
    exact hK _ _ ⟨by simp [hsz],fun _=>hb.trans (hb2.mono hb.size),_,_,_,_,_,_,_,_,_,_,_,_,rfl,setN (by decide) e0,setN (by decide) e1,setN (by decide) e2,setN (by decide) e3,setN (by decide) e4,setN (by decide) e5,setN (by decide) e6,setN (by decide) e7,setN (by decide) e8,fun _=>fun _=>⟨w1.heap.size,rfl,heap_alloc_new w1 _⟩,fun h=>absurd ((getD_set_ne _ (by decide)).symm.trans h) (by rw [hnl]; decide),setN (by decide) e11⟩
   ·have hni:l.getD 10 false = false:=by simpa [Array.getD,hsz] using hno
    have hnl:=hni
    obtain rfl:=e0 (haft _ rfl ⟨0,.data⟩ (by simp) rfl)
    have q9:=e9 (haft _ rfl ⟨9,.data⟩ (by simp) rfl) hnl
    have hb:=hbel hnl
    obtain ⟨g,rfl,hg2⟩:=q9
    refine wpOp_step rfl fun K hK=>?_
    go_simp
    refine (HRUN w1 g hb hg2).mono ?_
    rintro e wn ⟨A,cs,rfl,hA,hrow,hans,hb2⟩
    show K _ _
    exact hK _ _ ⟨by simp [hsz],(fun h=>by rw [getT hsz 10 (by decide)] at h; cases h),_,_,_,_,_,_,_,_,_,_,_,_,rfl,(setN (by decide) e0),(setN (by decide) e1),(setN (by decide) e2),(setN (by decide) e3),(setN (by decide) e4),(setN (by decide) e5),(setN (by decide) e6),(setN (by decide) e7),(setN (by decide) e8),(fun _ h'=>by rw [getT hsz 10 (by decide)] at h'; cases h'),(fun _=>⟨A,cs,rfl,hrow,hans,hb.trans (hb2.mono hb.size)⟩),(fun h=>absurd (hcl 11 _ rfl ((getD_set_ne _ (by decide)).symm.trans h) ⟨10,.data⟩ (by simp) rfl) (by rw [hni]; decide))⟩
   ·have hni:l.getD 11 false = false:=by simpa [Array.getD,hsz] using hno
    refine wpOp_step rfl fun K hK=>?_
    go_simp
    exact hK _ _ ⟨by simp [hsz],fun h=>hbel ((getD_set_ne _ (by decide)).symm.trans h),_,_,_,_,_,_,_,_,_,_,_,_,rfl,setN (by decide) e0,setN (by decide) e1,setN (by decide) e2,setN (by decide) e3,setN (by decide) e4,setN (by decide) e5,setN (by decide) e6,setN (by decide) e7,setN (by decide) e8,fun h h'=>e9 ((getD_set_ne _ (by decide)).symm.trans h) ((getD_set_ne _ (by decide)).symm.trans h'),setN (by decide) e10,fun _=>rfl⟩
 case rest =>
  obtain ⟨A,cs,rfl,hrow,hans,hbR⟩:=hcut
  obtain ⟨wq,hwq⟩:∃ x,x = wc:=⟨_,rfl⟩
  subst hwq
  have hlA:A < wq.heap.size:=(Array.getElem?_eq_some_iff.1 hrow).1
  have hans0:=hans
  obtain ⟨hsz,hc9⟩:=hans
  have hcell:∀ j,wq.cell? ⟨A,j,none⟩ = cs[j]?:=fun j=>by simp [World.cell?,hrow]
  have HBR:=hide (hbw.trans (hbR.mono hbw.size))
  have HBQ:=hide hbR
  rcases run_rls (unhide HC) t.data.toList p.data.toList with ⟨c,hpos,hrun⟩ | ⟨s,c,i,hpos,hrun⟩ | ⟨s,u,v,hrun,hdm⟩
  all_goals (
   rw [hrun] at hc9
   have q0:=hc9 0 (by simp)
   have q1:=hc9 1 (by simp)
   have q2:=hc9 2 (by simp)
   have q3:=hc9 3 (by simp)
   have q4:=hc9 4 (by simp)
   have q5:=hc9 5 (by simp)
   simp only [List.getElem_cons_zero,List.getElem_cons_succ] at q0 q1 q2 q3 q4 q5
   have a00:=(hcell 0).trans q0.1
   have a10:=(hcell 3).trans q1.1
   have a11:=(hcell 4).trans q1.2.1
   have a12:=(hcell 5).trans q1.2.2
   have a20:=(hcell 6).trans q2.1
   have a30:=(hcell 9).trans q3.1
   have a31:=(hcell 10).trans q3.2.1
   have a32:=(hcell 11).trans q3.2.2
   have a40:=(hcell 12).trans q4.1
   have a50:=(hcell 15).trans q5.1
   have a51:=(hcell 16).trans q5.2.1
   have a52:=(hcell 17).trans q5.2.2
   clear q0 q1 q2 q3 q4 q5 hc9 hcell hrow hans0 hsz hrun hbR hbw HRUN hz)
  ·have e1:((c:Int) != 0) = true:=by simp; omega
   clear hpos
   go_wp2_with (fail)
   go_ret
   exact ⟨rfl,unhide HBR⟩
  ·have e1:((c:Int) != 0) = true:=by simp; omega
   clear hpos
   go_wp2_with (fail)
   go_quiet (fail)
   go_wp2_with (fail)
   go_ret
   have hb9:=unhide HBR
   exact ⟨rfl,⟨hb9.os,hb9.tape,hb9.output,hb9.size,hb9.block⟩⟩
  ·have y0':=((unhide HBQ).cell (p:=⟨w2.heap.size,0,none⟩) hzl).trans y0
   have y1':=((unhide HBQ).cell (p:=⟨w2.heap.size,1,none⟩) hzl).trans y1
   have y2':=((unhide HBQ).cell (p:=⟨w2.heap.size,2,none⟩) hzl).trans y2
   have HDM:=hide hdm
   have hzc:w2.heap.size < wq.heap.size:=Nat.lt_of_lt_of_le hzl (unhide HBQ).size
   clear hdm y0 y1 y2 hwb hzl
   go_upto_region 10 with (fail)
   obtain ⟨dc,hdc⟩:∃ dc,dc = (Sp.dmp d e u).1:=⟨_,rfl⟩
   obtain ⟨ds,hds⟩:∃ ds,ds = (Sp.dmp d e u).2:=⟨_,rfl⟩
   have HD:∀ w0,Below wq.heap.size wq w0 → Calls Tryz.prog 19 #[.agg #[.int .i64 d,.int .i64 e,.int .i64 n],.string ⟨u.toArray⟩] w0 fun x w'=>x = .returned (.tuple #[.string ⟨ds.toArray⟩,.int .i64 dc]) ∧ Below w0.heap.size w0 w':=by
    intro w0 h0
    have:=dumped_any (unhide HC) ⟨u.toArray⟩ w0 ((unhide HT).below (((unhide HBR).trans (h0.mono (unhide HBR).size)).mono hng))
    rw [hdc,hds]
    simpa using this
   have hdm:dc = 0 ∨ dc = 4:=by rw [hdc]; exact unhide HDM
   clear hdc hds
   go_cut [10,11] (fun s10 s11 wx=>s10 = .string ⟨ds.toArray⟩ ∧ s11 = .int .i64 dc ∧ Below wq.heap.size wq wx)
   case first =>
    refine wp_region_any (by kernel_rfl) ?_
    refine wpAny_invC (fun lJ aJ wJ=>lJ.size = 11 ∧ Below (wq).heap.size wq wJ ∧ ∃ x87 x88 x89 x90 x91 x92 x86 x93 x94 x10 x11,aJ = { tmps:=#[.int .i64 a,.string t,.string p,undef,undef,undef,.bool false,.bool true,.pointer (some ⟨w2.heap.size,0,none⟩),.slice (some ⟨A,0,none⟩) 6 6,x10,x11,undef,u13,u14,u15,u16,u17,u18,u19,u20,u21,u22,u23,u24,u25,u26,.bool true,.bool false,.bool false,.slice (some ⟨A,0,none⟩) 6 6,.int .i64 6,.bool false,.bool false,.slice (some ⟨A,0,none⟩) 6 6,.pointer (some ⟨A,0,none⟩),.pointer (some ⟨A,0,none⟩),.int .i64 0,.bool false,u39,u40,u41,u42,u43,u44,u45,u46,u47,u48,u49,u50,u51,u52,u53,u54,u55,u56,u57,.slice (some ⟨A,0,none⟩) 6 6,.pointer (some ⟨A,6,none⟩),.pointer (some ⟨A,6,none⟩),.int .i64 0,.bool false,u63,u64,u65,u66,u67,u68,u69,u70,u71,u72,u73,u74,u75,u76,u77,u78,u79,u80,u81,u82,u83,u84,u85,x86,x87,x88,x89,x90,x91,x92,x93,x94,u95,u96,u97,u98,u99,u100,u101,u102,u103,u104,u105,u106,u107,u108,u109,u110,u111,u112,u113,u114,u115,u116,u117],defers:=[] } ∧ (lJ.getD 0 false = true → x87 = .agg #[.int .i64 d,.int .i64 e,.int .i64 n]) ∧ (lJ.getD 1 false = true → x88 = .slice (some ⟨A,0,none⟩) 6 6) ∧ (lJ.getD 2 false = true → x89 = .pointer (some ⟨A,9,none⟩)) ∧ (lJ.getD 3 false = true → x90 = .pointer (some ⟨A,11,none⟩)) ∧ (lJ.getD 4 false = true → x91 = .string ⟨u.toArray⟩) ∧ (lJ.getD 5 false = true → x92 = .tuple #[.string ⟨ds.toArray⟩,.int .i64 dc]) ∧ (lJ.getD 6 false = true → x86 = .tuple #[.string ⟨ds.toArray⟩,.int .i64 dc]) ∧ (lJ.getD 7 false = true → x93 = .string ⟨ds.toArray⟩) ∧ (lJ.getD 8 false = true → x94 = .int .i64 dc) ∧ (lJ.getD 9 false = true → x10 = .string ⟨ds.toArray⟩) ∧ (lJ.getD 10 false = true → x11 = .int .i64 dc)) ?hs ?he _ _ _ ?h0
    case h0 =>
     refine ⟨rfl,⟨rfl,rfl,rfl,Nat.le_refl _,fun _ _=>rfl⟩,_,_,_,_,_,_,_,_,_,_,_,rfl,?_⟩
     refine ⟨?_,?_,?_,?_,?_,?_,?_,?_,?_,?_,?_⟩ <;> (intro h; exact absurd h (by decide))
    case he =>
     intro l a w1 hJ hr
     have hall:=ready_none hJ.1 (by kernel_rfl) hr
     obtain ⟨hsz,hbel,x87,x88,x89,x90,x91,x92,x86,x93,x94,x10,x11,rfl,e0,e1,e2,e3,e4,e5,e6,e7,e8,e9,e10⟩:=hJ
     have f0:=e0 (hall 0 (by decide))
     have f1:=e1 (hall 1 (by decide))
     have f2:=e2 (hall 2 (by decide))
     have f3:=e3 (hall 3 (by decide))
     have f4:=e4 (hall 4 (by decide))
     have f5:=e5 (hall 5 (by decide))
     have f6:=e6 (hall 6 (by decide))
     have f7:=e7 (hall 7 (by decide))
     have f8:=e8 (hall 8 (by decide))
     have f9:=e9 (hall 9 (by decide))
     have f10:=e10 (hall 10 (by decide))
     clear e0 e1 e2 e3 e4 e5 e6 e7 e8 e9 e10 hall hr
     subst f9 f10
     go_wp2_with (fail)
     go_meet
     exact ⟨rfl,rfl,hbel⟩
    case hs =>
     intro l a w1 hcl hJ i hi
     obtain ⟨hno,haft⟩:=ready_after hi
     have hi12:i < 11:=by
      obtain ⟨_,o,ho,_⟩:=mem_ready.1 hi
      exact (Array.getElem?_eq_some_iff.1 ho).1
     obtain ⟨hsz,hbel,x87,x88,x89,x90,x91,x92,x86,x93,x94,x10,x11,rfl,e0,e1,e2,e3,e4,e5,e6,e7,e8,e9,e10⟩:=hJ
     clear hi
     have hcase:i = 0 ∨ i = 1 ∨ i = 2 ∨ i = 3 ∨ i = 4 ∨ i = 5 ∨ i = 6 ∨ i = 7 ∨ i = 8 ∨ i = 9 ∨ i = 10:=by omega
     rcases hcase with rfl | rfl | rfl | rfl | rfl | rfl | rfl | rfl | rfl | rfl | rfl
     ·have hni:l.getD 0 false = false:=by simpa [Array.getD,hsz] using hno
      have hb:=hbel
      have z0:=(hb.cell (p:=⟨w2.heap.size,0,none⟩) hzc).trans y0'
      have z1:=(hb.cell (p:=⟨w2.heap.size,1,none⟩) hzc).trans y1'
      have z2:=(hb.cell (p:=⟨w2.heap.size,2,none⟩) hzc).trans y2'
      refine wpOp_step rfl fun K hK=>?_
      go_simp
      exact hK _ _ ⟨by simp [hsz],hbel,_,_,_,_,_,_,_,_,_,_,_,rfl,fun _=>rfl,setN (by decide) e1,setN (by decide) e2,setN (by decide) e3,setN (by decide) e4,setN (by decide) e5,setN (by decide) e6,setN (by decide) e7,setN (by decide) e8,setN (by decide) e9,setN (by decide) e10⟩
     ·have hni:l.getD 1 false = false:=by simpa [Array.getD,hsz] using hno
      have hb:=hbel
      refine wpOp_step rfl fun K hK=>?_
      go_simp
      exact hK _ _ ⟨by simp [hsz],hbel,_,_,_,_,_,_,_,_,_,_,_,rfl,setN (by decide) e0,fun _=>rfl,setN (by decide) e2,setN (by decide) e3,setN (by decide) e4,setN (by decide) e5,setN (by decide) e6,setN (by decide) e7,setN (by decide) e8,setN (by decide) e9,setN (by decide) e10⟩
     ·have hni:l.getD 2 false = false:=by simpa [Array.getD,hsz] using hno
      obtain rfl:=e1 (haft _ rfl ⟨1,.data⟩ (by simp) rfl)
      have hb:=hbel
      refine wpOp_step rfl fun K hK=>?_
      go_simp
      exact hK _ _ ⟨by simp [hsz],hbel,_,_,_,_,_,_,_,_,_,_,_,rfl,setN (by decide) e0,setN (by decide) e1,fun _=>rfl,setN (by decide) e3,setN (by decide) e4,setN (by decide) e5,setN (by decide) e6,setN (by decide) e7,setN (by decide) e8,setN (by decide) e9,setN (by decide) e10⟩
     ·have hni:l.getD 3 false = false:=by simpa [Array.getD,hsz] using hno
      obtain rfl:=e2 (haft _ rfl ⟨2,.data⟩ (by simp) rfl)
      have hb:=hbel
      refine wpOp_step rfl fun K hK=>?_
      go_simp
      exact hK _ _ ⟨by simp [hsz],hbel,_,_,_,_,_,_,_,_,_,_,_,rfl,setN (by decide) e0,setN (by decide) e1,setN (by decide) e2,fun _=>rfl,setN (by decide) e4,setN (by decide) e5,setN (by decide) e6,setN (by decide) e7,setN (by decide) e8,setN (by decide) e9,setN (by decide) e10⟩
     ·have hni:l.getD 4 false = false:=by simpa [Array.getD,hsz] using hno
      obtain rfl:=e3 (haft _ rfl ⟨3,.data⟩ (by simp) rfl)
      have hb:=hbel
      have z11:=(hb.cell (p:=⟨A,11,none⟩) hlA).trans a32
      refine wpOp_step rfl fun K hK=>?_
      go_simp
      exact hK _ _ ⟨by simp [hsz],hbel,_,_,_,_,_,_,_,_,_,_,_,rfl,setN (by decide) e0,setN (by decide) e1,setN (by decide) e2,setN (by decide) e3,fun _=>rfl,setN (by decide) e5,setN (by decide) e6,setN (by decide) e7,setN (by decide) e8,setN (by decide) e9,setN (by decide) e10⟩
     ·have hni:l.getD 5 false = false:=by simpa [Array.getD,hsz] using hno
      obtain rfl:=e0 (haft _ rfl ⟨0,.data⟩ (by simp) rfl)
      obtain rfl:=e4 (haft _ rfl ⟨4,.data⟩ (by simp) rfl)
      have hb:=hbel
      refine wpOp_step rfl fun K hK=>?_
      go_simp
      refine (HD w1 hb).mono ?_
      rintro e wn ⟨rfl,hb2⟩
      show K _ _
      exact hK _ _ ⟨by simp [hsz],hb.trans (hb2.mono hb.size),_,_,_,_,_,_,_,_,_,_,_,rfl,setN (by decide) e0,setN (by decide) e1,setN (by decide) e2,setN (by decide) e3,setN (by decide) e4,fun _=>rfl,setN (by decide) e6,setN (by decide) e7,setN (by decide) e8,setN (by decide) e9,setN (by decide) e10⟩
     ·have hni:l.getD 6 false = false:=by simpa [Array.getD,hsz] using hno
      obtain rfl:=e5 (haft _ rfl ⟨5,.data⟩ (by simp) rfl)
      have hb:=hbel
      refine wpOp_step rfl fun K hK=>?_
      go_simp
      exact hK _ _ ⟨by simp [hsz],hbel,_,_,_,_,_,_,_,_,_,_,_,rfl,setN (by decide) e0,setN (by decide) e1,setN (by decide) e2,setN (by decide) e3,setN (by decide) e4,setN (by decide) e5,fun _=>rfl,setN (by decide) e7,setN (by decide) e8,setN (by decide) e9,setN (by decide) e10⟩
     ·have hni:l.getD 7 false = false:=by simpa [Array.getD,hsz] using hno
      obtain rfl:=e6 (haft _ rfl ⟨6,.data⟩ (by simp) rfl)
      have hb:=hbel
      refine wpOp_step rfl fun K hK=>?_
      go_simp
      exact hK _ _ ⟨by simp [hsz],hbel,_,_,_,_,_,_,_,_,_,_,_,rfl,setN (by decide) e0,setN (by decide) e1,setN (by decide) e2,setN (by decide) e3,setN (by decide) e4,setN (by decide) e5,setN (by decide) e6,fun _=>rfl,setN (by decide) e8,setN (by decide) e9,setN (by decide) e10⟩
     ·have hni:l.getD 8 false = false:=by simpa [Array.getD,hsz] using hno
      obtain rfl:=e6 (haft _ rfl ⟨6,.data⟩ (by simp) rfl)
      have hb:=hbel
      refine wpOp_step rfl fun K hK=>?_
      go_simp
      exact hK _ _ ⟨by simp [hsz],hbel,_,_,_,_,_,_,_,_,_,_,_,rfl,setN (by decide) e0,setN (by decide) e1,setN (by decide) e2,setN (by decide) e3,setN (by decide) e4,setN (by decide) e5,setN (by decide) e6,setN (by decide) e7,fun _=>rfl,setN (by decide) e9,setN (by decide) e10⟩
     ·have hni:l.getD 9 false = false:=by simpa [Array.getD,hsz] using hno
      obtain rfl:=e7 (haft _ rfl ⟨7,.data⟩ (by simp) rfl)
      have hb:=hbel
      refine wpOp_step rfl fun K hK=>?_
      go_simp
      exact hK _ _ ⟨by simp [hsz],hbel,_,_,_,_,_,_,_,_,_,_,_,rfl,setN (by decide) e0,setN (by decide) e1,setN (by decide) e2,setN (by decide) e3,setN (by decide) e4,setN (by decide) e5,setN (by decide) e6,setN (by decide) e7,setN (by decide) e8,fun _=>rfl,setN (by decide) e10⟩
     ·have hni:l.getD 10 false = false:=by simpa [Array.getD,hsz] using hno
      obtain rfl:=e8 (haft _ rfl ⟨8,.data⟩ (by simp) rfl)
      have hb:=hbel
      refine wpOp_step rfl fun K hK=>?_
      go_simp
      exact hK _ _ ⟨by simp [hsz],hbel,_,_,_,_,_,_,_,_,_,_,_,rfl,setN (by decide) e0,setN (by decide) e1,setN (by decide) e2,setN (by decide) e3,setN (by decide) e4,setN (by decide) e5,setN (by decide) e6,setN (by decide) e7,setN (by decide) e8,setN (by decide) e9,fun _=>rfl⟩
   case rest =>
    obtain ⟨rfl,rfl,hbD⟩:=hcut
    have hb9:Below w.heap.size w wc:=(unhide HBR).trans (hbD.mono (unhide HBR).size)
    have b30:=(hbD.cell (p:=⟨A,9,none⟩) hlA).trans a30
    have b31:=(hbD.cell (p:=⟨A,10,none⟩) hlA).trans a31
    have b32:=(hbD.cell (p:=⟨A,11,none⟩) hlA).trans a32
    have b40:=(hbD.cell (p:=⟨A,12,none⟩) hlA).trans a40
    have b50:=(hbD.cell (p:=⟨A,15,none⟩) hlA).trans a50
    have b51:=(hbD.cell (p:=⟨A,16,none⟩) hlA).trans a51
    have b52:=(hbD.cell (p:=⟨A,17,none⟩) hlA).trans a52
    have HB9:=hide hb9
    clear hb9 hbD a00 a10 a11 a12 a20 a30 a31 a32 a40 a50 a51 a52 HD
    rcases hdm with rfl | rfl
    all_goals (
     go_wp2_with (fail)
     go_quiet (fail)
     go_wp2_with (fail)
     go_ret
     have hb9:=unhide HB9
     exact ⟨rfl,⟨hb9.os,hb9.tape,hb9.output,hb9.size,hb9.block⟩⟩)
end Go.Proofs.YtdpomdelmdofmaaGreatDoor
