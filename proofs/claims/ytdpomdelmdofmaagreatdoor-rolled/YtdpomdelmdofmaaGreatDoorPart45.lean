/-
  The session's patch.
-/
import Derived.Test.YtdpomdelmdofmaaGreatDoorPart44
import Derived.Test.YtdpomdelmdofmaaGreatDoorPart33
import Derived.Test.YtdpomdelmdofmaaGreatDoorPart12
import Derived.Test.YtdpomdelmdofmaaGreatDoorPart38
import Derived.Test.YtdpomdelmdofmaaGreatDoorPart13
namespace Go.Proofs.YtdpomdelmdofmaaGreatDoor
open Go.RowKit Go.Maps
theorem OTab.below {w w':World} (h:OTab w) (hb:Below w.heap.size w w'):OTab w':=by
 obtain ⟨t,fr,e⟩:=h
 exact ⟨t,fr,(hb.block _ (Array.getElem?_eq_some_iff.1 e).1).trans e⟩
theorem wrap_small {x:Int} (h1:0 ≤ x) (h2:x ≤ 1000):IntKind.i64.wrap x = x:=by rw [IntKind.wrap_i64]; omega
theorem am_fin {F:Nat → Prop} {p:Value} {d e:Int} {A:Sp.Ans} {v':Sp.V × Sp.Inv} {w w3:World} (a b c:Value) (hk:KeptF (fun k=>F k ∧ k < w.heap.size) w w3) (hd:DocF w3 (FN (fun k=>F k ∧ k < w.heap.size) (w.heap.size + 1)) p d e (some v')) :
  AmEnd F p d e (A,v') w (.returned (ansA A)) (((w3.setCell ⟨w.heap.size,0,none⟩ a).setCell ⟨w.heap.size,1,none⟩ b).setCell ⟨w.heap.size,2,none⟩ c):=by
 have hs:=SameBut.of3 w.heap.size w3 a b c
 refine ⟨rfl,(hs.kept hk (Nat.le_refl _)).mono fun k h=>h.1,hd.move fun k hk hkl=>⟨hs.block k ?_,?_⟩⟩
 ·rcases hk with ⟨⟨_,h1⟩,_⟩ | h1 <;> omega
 ·rcases hk with ⟨h1,_⟩ | h1
  ·exact Or.inl h1
  ·exact Or.inr (by omega)
set_option maxRecDepth 100000 in
set_option maxHeartbeats 2000000 in
theorem spatch_any {S:Nat} {d e n:Int} {p:Value} {v:Sp.V × Sp.Inv} {F:Nat → Prop} {s:Sp.By} {w:World} (hcfg:Sp.cfg d e n = true) (hF:∀ k,F k → NG ≤ k ∧ k ≠ S) (hS:SB w S d e n p) (hD:DocF w F p d e (some v)) (hT:Laid w) (hO:OTab w) :
  Calls Tryz.prog 59 #[.pointer (some ⟨S,0,none⟩),.string ⟨s.toArray⟩] w (AmEnd F p d e (Sp.stPatch d e v s) w):=by
 obtain ⟨hd1,hd2⟩:1 ≤ d ∧ d ≤ 20:=by
  unfold Sp.cfg Sp.inB at hcfg
  simp at hcfg; omega
 have hD0:=hD
 obtain ⟨D,R,wp,rfl,hdw⟩:=hD
 have hdw':=hdw.move (F':=fun k=>F k ∧ k < w.heap.size) (fun k h1 h2=>⟨rfl,h1,h2⟩)
 obtain ⟨W0,hW0⟩:∃ W0,W0 = w.alloc (.cells #[.int .i64 0,.int .i64 0,.string ⟨#[]⟩] 46):=⟨_,rfl⟩
 have hb0:Below w.heap.size w W0:=by rw [hW0]; exact (Below.refl _ _).alloc (Nat.le_refl _) _
 have hs0:W0.heap.size = w.heap.size + 1:=by rw [hW0]; simp
 have hab0:AB W0 w.heap.size:=by rw [hW0]; exact AB.new w
 have HDW:=hide hdw'
 have HD0:=hide hD0
 have HF:=hide hF
 have HB0:=hide hb0
 have HS0:=hide hs0
 have HAB0:=hide hab0
 have HT0:=hide (hT.below (hb0.mono hT.ng))
 have HO0:=hide (hO.below hb0)
 have hS0:=hS.low hb0
 have c0:=hS0.c0
 have c1:=hS0.c1
 have HSB:=hide hS0
 have hwr:IntKind.i64.wrap (d + 2) = d + 2:=wrap_small (by omega) (by omega)
 have HR:=hide (fun (w9:World) (hT:Laid w9)=>Read_tr s (d + 2) e w9 hT)
 rw [← hwr] at HR
 have HWR:=hide hwr
 clear hwr
 obtain ⟨RR,hRR⟩:∃ RR,RR = Sp.stPatch d e v s:=⟨_,rfl⟩
 rw [← hRR]
 have HRR:=hide hRR
 have HW0:=hide hW0
 rw [hW0] at c0 c1
 clear hcfg hF hS hD0 hdw hdw' hT hO hb0 hs0 hab0 hS0 hRR hW0
 have hd3:1 ≤ d:=hd1
 go_enter Tryz.func59,Tryz.ntmps59
 go_upto_region 1 with (fail)
 rw [← unhide HW0]
 rw [← unhide HW0] at c0 c1
 go_cut [5,6] (fun s5 s6 wx=>∃ (p2:Option Addr) (c:Nat),s5 = .pointer p2 ∧ s6 = .int .i64 c ∧ Hid (Below W0.heap.size W0 wx) ∧ Hid ((0 < c ∧ Sp.readTo s (IntKind.i64.wrap (d + 2)) e = (c,none)) ∨ (c = 0 ∧ ∃ v,Sp.readTo s (IntKind.i64.wrap (d + 2)) e = (0,some v) ∧ Tr top W0.heap.size wx (.pointer p2) v)))
 case first =>
  go_region_with (go_at_call 77; refine (unhide HR _ ?_).mono ?_; exact (unhide HT0).drew; rintro x w1 ⟨p2,c,rfl,hb1,hc⟩)
  all_goals (
   replace hb1:Below W0.heap.size W0 w1:=⟨hb1.os,hb1.tape,hb1.output,hb1.size,hb1.block⟩
   replace hc:(0 < c ∧ Sp.readTo s (IntKind.i64.wrap (d + 2)) e = (c,none)) ∨ (c = 0 ∧ ∃ v,Sp.readTo s (IntKind.i64.wrap (d + 2)) e = (0,some v) ∧ Tr top W0.heap.size w1 (.pointer p2) v):=hc
   have HB1:=hide hb1
   have HC:=hide hc
   clear hb1 hc
   go_wp2_with (fail)
   go_meet
   exact ⟨p2,c,rfl,rfl,HB1,HC⟩)
 case rest =>
  obtain ⟨p2,c,rfl,rfl,HB1,HC⟩:=hcut
  have HBW:=hide ((unhide HB0).trans ((unhide HB1).mono (by have:=unhide HS0; omega)))
  have A1:=hide ((unhide HAB0).low (unhide HB1))
  rcases unhide HC with ⟨hpos,hrd⟩ | ⟨rfl,pv,hrd,htr⟩
  ·rw [unhide HWR] at hrd
   have HR2:=hide (show RR = ((c,0,[]),v) by rw [unhide HRR]; unfold Sp.stPatch; rw [hrd])
   have e0:((c:Int) != 0) = true:=by simp; omega
   clear hrd hpos
   go_wp2_with (fail)
   refine (failed_any c _).mono ?_
   rintro x w3 ⟨rfl,hb3⟩
   have a3:=(unhide A1).low hb3
   have g0:=a3.c0
   have g1:=a3.c1
   have g2:=a3.c2
   have z:=a3.fz
   have HB3:=hide ((unhide HBW).trans (hb3.mono (unhide HBW).size))
   clear a3 hb3
   unfold ansV
   go_wp2_with (fail)
   refine bodyPost_ret (v:=ansA (c,0,[])) (by simp [results,Tryz.results59,go_sem,ansA,g0,g1,g2]) rfl ?_
   rw [unhide HR2]
   exact am_fin _ _ _ (KeptF.of_below (unhide HB3)) ⟨D,R,wp,rfl,(unhide HDW).move fun k hk hkl=>⟨(unhide HB3).block k hkl,Or.inl ⟨hk,by omega⟩⟩⟩
  ·rw [unhide HWR] at hrd
   have hgd:=read_gd hrd
   have hln:=read_bd hrd top
   have hT1:=(unhide HT0).below ((unhide HB1).mono (unhide HT0).ng)
   have HPR:=hide (paRead_any (f:=top - 2) htr.rep (by unfold top; omega) (Sp.pread_str hgd hln) hT1 ((unhide HO0).below (unhide HB1)))
   have HRD:=hide hrd
   have HOK:=hide (fun l (h:Sp.pread pv = .ok l)=>Sp.pread_ok hgd hln (by omega) h)
   have HT1:=hide hT1
   clear hrd htr hgd hln hT1
   go_wp2_with (fail)
   refine (unhide HPR).mono ?_
   rintro x w2 ⟨hend,hb2⟩
   have A2:=hide ((unhide A1).low hb2)
   have HBW2:=hide ((unhide HBW).trans (hb2.mono (unhide HBW).size))
   have HB2:=hide hb2
   unfold pareadEnd at hend
   cases hpr:Sp.pread pv with
   | error i =>
    rw [hpr] at hend
    subst hend
    have HR2:=hide (show RR = ((10,i,[]),v) by rw [unhide HRR]; unfold Sp.stPatch; rw [unhide HRD]; simp only; rw [hpr])
    have g0:=(unhide A2).c0
    have g1:=(unhide A2).c1
    have g2:=(unhide A2).c2
    have z:=(unhide A2).fz
    clear hpr hb2
    go_wp2_with (fail)
    refine bodyPost_ret (v:=ansA (10,i,[])) (by simp [results,Tryz.results59,go_sem,ansA,g0,g1,g2]) rfl ?_
    rw [unhide HR2]
    exact am_fin _ _ _ (KeptF.of_below (unhide HBW2)) ⟨D,R,wp,rfl,(unhide HDW).move fun k hk hkl=>⟨(unhide HBW2).block k hkl,Or.inl ⟨hk,by omega⟩⟩⟩
   | ok l =>
    rw [hpr] at hend
    obtain ⟨ao,g,cap,rfl,hg,hops⟩:=hend
    obtain ⟨hok1,hok2⟩:=unhide HOK l hpr
    have hs1:=(unhide HB1).size
    have hs2:=hb2.size
    have hB02:Below W0.heap.size W0 w2:=(unhide HB1).trans (hb2.mono hs1)
    have HPC:=hide (fun (w9:World) (h9:Below w2.heap.size w2 w9)=>patch_call (ao:=ao) (cap:=cap) (l:=l) (g:=g) (unhide HDW) (fun k hk=>⟨(unhide HF k hk.1).1,hk.2⟩) (unhide HB0) (unhide HS0) (hB02.trans (h9.mono hB02.size)) ((unhide HT1).below ((hb2.trans (h9.mono hs2)).mono (unhide HT1).ng))
     (fun i hi=>by
      obtain ⟨pa,pl,pc,fa,fl,fc,y,q0,q1,q2,q3,q4⟩:=hops i hi
      have hgl:=World.block_lt_of_cell? w2 _ q1
      exact ⟨pa,pl,pc,fa,fl,fc,y,q0.move fun k hk hkl=>⟨h9.block k hkl,by rcases hk with ⟨h,_⟩ | h <;> omega⟩,(h9.cell (p:=⟨g,i * 4,none⟩) hgl).trans q1,(h9.cell (p:=⟨g,i * 4 + 1,none⟩) hgl).trans q2,(h9.cell (p:=⟨g,i * 4 + 2,none⟩) hgl).trans q3,(h9.cell (p:=⟨g,i * 4 + 3,none⟩) hgl).trans q4⟩)
     (fun hp=>⟨(hg hp).1,Nat.le_trans hs1 (hg hp).2⟩) hok2 hok1 hd2)
    have hS2:=(unhide HSB).low hB02
    have c02:=hS2.c0
    have c32:=hS2.c3
    have HR2:=hide (fun (y:(Sp.V × Sp.Inv)) (c i:Nat) (h:match Sp.dops d 0 v.1 [] l with
     | .error (c',i')=>c = c' ∧ i = i' ∧ y = v
     | .ok (u,j)=>c = 0 ∧ i = 0 ∧ y = (u,some j.reverse))=>(show RR = ((c,i,[]),y) by
      rw [unhide HRR]; unfold Sp.stPatch; rw [unhide HRD]; simp only; rw [hpr]; simp only
      cases hdo:Sp.dops d 0 v.1 [] l with
      | error ci=>rw [hdo] at h; obtain ⟨rfl,rfl,rfl⟩:=h; rfl
      | ok uj=>rw [hdo] at h; obtain ⟨rfl,rfl,rfl⟩:=h; rfl))
    clear hpr hb2 hg hops hok1 hok2 hs1 hs2 hB02 hS2 c0 c1
    go_upto_region 7 with (fail)
    go_cut [8,6] (fun s8 s6 wx=>∃ (c i:Nat) (v':Sp.V × Sp.Inv),s8 = .int .i64 i ∧ s6 = .int .i64 c ∧ Hid (wx.heap[w.heap.size]? = W0.heap[w.heap.size]? ∧ KeptF (fun k=>F k ∧ k < w.heap.size) w wx ∧ DocF wx (FN (fun k=>F k ∧ k < w.heap.size) (w.heap.size + 1)) (.pointer (some ⟨D,0,none⟩)) d e (some v') ∧ RR = ((c,i,[]),v')))
    case first =>
     go_region_with (go_at_call 84; refine (unhide HPC _ ?_).mono ?_; exact ⟨rfl,rfl,rfl,Nat.le_refl _,fun _ _=>rfl⟩; rintro x w3 ⟨c,i,v',rfl,q1,q2,q3,q4⟩)
     all_goals (
      have HEND:=hide (show w3.heap[w.heap.size]? = W0.heap[w.heap.size]? ∧ KeptF (fun k=>F k ∧ k < w.heap.size) w w3 ∧ DocF w3 (FN (fun k=>F k ∧ k < w.heap.size) (w.heap.size + 1)) (.pointer (some ⟨D,0,none⟩)) d e (some v') ∧ RR = ((c,i,[]),v') from ⟨q1,q2,q3,unhide HR2 v' c i q4⟩)
      clear q1 q2 q3 q4
      go_wp2_with (fail)
      go_meet
      exact ⟨c,i,v',rfl,rfl,HEND⟩)
    case rest =>
     obtain ⟨c,i,v',rfl,rfl,HEND⟩:=hcut
     obtain ⟨q1,q2,q3,q4⟩:=unhide HEND
     have a3:AB wc w.heap.size:=q1.trans (unhide HAB0)
     have g0:=a3.c0
     have g1:=a3.c1
     have g2:=a3.c2
     have z:=a3.fz
     clear q1 q2 q3 q4 a3
     go_wp2_with (fail)
     refine bodyPost_ret (v:=ansA (c,i,[])) (by simp [results,Tryz.results59,go_sem,ansA,g0,g1,g2]) rfl ?_
     obtain ⟨q1,q2,q3,q4⟩:=unhide HEND
     rw [q4]
     exact am_fin _ _ _ q2 q3
theorem patch_ok:PatchOk:=fun _ _ _ _ _ _ _ _ _ hc hF hS hD hT=>spatch_any hc hF hS hD hT hT.otab
end Go.Proofs.YtdpomdelmdofmaaGreatDoor

namespace Go.Proofs.YtdpomdelmdofmaaGreatDoor
open Go.RowKit Go.Maps
set_option maxRecDepth 100000 in
set_option maxHeartbeats 1000000 in
theorem dInverse_any {w:World} {D:Nat} {rv jn iv:Value} {ch:Bool} (h:DB w D rv jn ch iv) :
  Calls Tryz.prog 86 #[.pointer (some ⟨D,0,none⟩)] w fun e w'=>e = .returned (.tuple #[iv,.bool ch]) ∧ Below w.heap.size w w':=by
 have c2:=h.c2
 have c3:=h.c3
 clear h
 go_enter Tryz.func86,Tryz.ntmps86
 go_wp2_with (fail)
 go_quiet (fail)
 go_wp2_with (fail)
 go_ret2
 exact ⟨rfl,rfl,rfl,rfl,Nat.le_refl _,fun _ _=>rfl⟩
set_option maxRecDepth 100000 in
set_option maxHeartbeats 1000000 in
theorem paQuoted_any {w:World} (s:Sp.By) :
  Calls Tryz.prog 164 #[.string ⟨s.toArray⟩] w fun e w'=>e = .returned (.pointer (some ⟨w.heap.size,0,none⟩)) ∧ VB w' w.heap.size 4 n0 s (.slice none 0 0) (.map none) ∧ Below w.heap.size w w' ∧ w'.heap.size = w.heap.size + 1:=by
 go_enter Tryz.func164,Tryz.ntmps164
 go_wp2_with (fail)
 go_ret
 exact ⟨rfl,heap_alloc_new w _,(Below.refl _ _).alloc (Nat.le_refl _) _,by simp⟩
end Go.Proofs.YtdpomdelmdofmaaGreatDoor

namespace Go.Proofs.YtdpomdelmdofmaaGreatDoor
open Go.RowKit
theorem BAt_bel {B b:Nat} {p:Value} {bs:List Value} {w w':World} (h:Lib.BuilderAt 119 5 B b p bs w) (hb:Below w.heap.size w w'):Lib.BuilderAt 119 5 B b p bs w':=by
 obtain ⟨hB,v,hv,hown,hne⟩:=h
 refine ⟨hB,v,(hb.block b (Array.getElem?_eq_some_iff.1 hv).1).trans hv,?_,hne⟩
 refine ⟨hown.1,hown.2.imp id ?_⟩
 rintro ⟨g,cap,cur,h1,h2,h3,h4⟩
 exact ⟨g,cap,cur,h1,h2,(hb.block g (Array.getElem?_eq_some_iff.1 h3).1).trans h3,h4⟩
theorem Bu_bel {B b:Nat} {l:Sp.By} {w w':World} (h:Bu B b l w) (hb:Below w.heap.size w w'):Bu B b l w':=Or.imp (fun h=>BAt_bel h hb) (fun h=>BAt_bel h hb) h
theorem escT1_hit {j:Nat} (hj:j < 2) {c:UInt8} (h:pesB j = c.toNat):Sp.escT1 c = (pesK j).data.toList:=by
 match j,hj with
 | 0,_ =>
  have:c = 126:=UInt8.toNat_inj.1 (by have:(126:Int) = c.toNat:=h; show c.toNat = 126; omega)
  subst this; rfl
 | 1,_ =>
  have:c = 47:=UInt8.toNat_inj.1 (by have:(47:Int) = c.toNat:=h; show c.toNat = 47; omega)
  subst this; rfl
theorem escT1_miss {c:UInt8} (h:∀ j,j < 2 → pesB j ≠ c.toNat):Sp.escT1 c = [c]:=by
 unfold Sp.escT1
 rw [if_neg (fun e=>h 0 (by omega) (by rw [e]; rfl)),if_neg (fun e=>h 1 (by omega) (by rw [e]; rfl))]
set_option maxRecDepth 100000 in
set_option maxHeartbeats 2000000 in
theorem wEsc {B b:Nat} {acc:Sp.By} (c:UInt8) {w:World} (h:Bu B b acc w) (hl:acc.length + 2 ≤ 140737488355328) (hB:B ≤ w.heap.size) (hT:PTab w) :
  Calls Tryz.prog 207 #[.pointer (some ⟨b,0,none⟩),.int .u8 c.toNat] w fun e w'=>e = .returned (.tuple #[]) ∧ Bu B b (acc ++ Sp.escT1 c) w' ∧ Fr B b w w':=by
 obtain ⟨ci,hci⟩:∃ ci:Int,ci = c.toNat:=⟨_,rfl⟩
 rw [← hci]
 have HCI:=hide hci
 have HH:=hide h
 have HL:=hide hl
 have HB:=hide hB
 have hlt:4 < w.heap.size:=by obtain ⟨t,fr,e⟩:=hT; exact (Array.getElem?_eq_some_iff.1 e).1
 obtain ⟨tt,fz,hg1⟩:=hT
 clear hci h hl hB
 go_enter Tryz.func207,Tryz.ntmps207
 go_wp2_with (refine wpList_load_row rfl 256 _ rfl 4 rfl tt _ fz _ hg1 Tryz.underlying256 rfl (by kernel_rfl) ?_)
 clear hg1 hlt
 go_loopw [7] (fun i wr=>∃ j:Nat,j ≤ 2 ∧ i = .int .i64 j ∧ Hid (Below w.heap.size w wr) ∧ Hid (∀ q,q < j → pesB q ≠ ci)) (fun i _=>2 - (intOf i).toNat)
 case atStart=>exact ⟨0,by omega,rfl,Below.refl _ _,fun q hq=>absurd hq (by omega)⟩
 case round =>
  obtain ⟨j,hj,rfl,HBW,HNO⟩:=hrel
  by_cases h2:j = 2
  ·subst h2
   have HE:=hide (escT1_miss (c:=c) fun q hq=>by rw [← unhide HCI]; exact unhide HNO q hq)
   have HC:=hide (wByte c ci (unhide HCI) (Bu_bel (unhide HH) (unhide HBW)) (by have:=unhide HL; omega) (Nat.le_trans (unhide HB) (unhide HBW).size))
   go_wp2_with (fail)
   refine (unhide HC).mono ?_
   rintro e w2 ⟨rfl,h1,h3⟩
   have H1:=hide h1
   have H3:=hide h3
   clear h1 h3
   go_wp2_with (fail)
   refine bodyPost_end (results_none rfl _ _ _) rfl ⟨rfl,?_,?_⟩
   ·rw [unhide HE]; exact unhide H1
   ·exact Fr.trans ⟨(unhide HBW).mono (unhide HB),OKz.below (unhide HBW)⟩ (unhide H3)
  ·have hjj:j < 2:=by omega
   have hlt2:(j:Int) < 2:=by omega
   have hidx:=fun w1=>pes_idx j hjj w1
   by_cases hh:pesB j = ci
   ·have e1:(pesB j == ci) = true:=by rw [hh]; simp
    have HE:=hide (escT1_hit hjj (c:=c) (hh.trans (unhide HCI)))
    have hks:=pesK_size j hjj
    have hpk:pesK j = ⟨(pesK j).data.toList.toArray⟩:=by rw [Array.toArray_toList]
    obtain ⟨l,hll⟩:∃ l,l = (pesK j).data.toList:=⟨_,rfl⟩
    rw [← hll] at hpk HE
    have hlen:l.length = 2:=by rw [hpk,bs_size] at hks; exact hks
    rw [hpk] at hidx
    have hb9:Below w.heap.size w (wr.alloc (.cells #[.string ⟨l.toArray⟩,.int .u8 (pesB j)] 255)):=(unhide HBW).alloc (unhide HBW).size _
    have HC:=hide (wStr l (Bu_bel (unhide HH) hb9) (by have:=unhide HL; omega) (Nat.le_trans (unhide HB) hb9.size))
    have HB9:=hide hb9
    clear hks hpk hll hlen hb9 hh
    generalize pesB j = pb at *
    go_wp2_with (fail)
    refine (unhide HC).mono ?_
    rintro e w2 ⟨rfl,h1,h3⟩
    have H1:=hide h1
    have H3:=hide h3
    clear h1 h3
    go_wp2_with (fail)
    refine bodyPost_ret (v:=.tuple #[]) (results_none rfl _ _ _) rfl ⟨rfl,?_,?_⟩
    ·rw [unhide HE]; exact unhide H1
    ·exact Fr.trans ⟨(unhide HB9).mono (unhide HB),OKz.below (unhide HB9)⟩ (unhide H3)
   ·have e1:(pesB j == ci) = false:=by rw [beq_eq_false_iff_ne]; exact hh
    have HN2:=hide (show ∀ q,q < j + 1 → pesB q ≠ ci from fun q hq=>if e:q = j then e ▸ hh else unhide HNO q (by omega))
    clear hh
    generalize pesK j = pk at *
    generalize pesB j = pb at *
    go_wp2_with (fail)
    exact ⟨⟨j + 1,by omega,by go_num,(unhide HBW).alloc (unhide HBW).size _,HN2⟩,by simp [intOf]; omega⟩
end Go.Proofs.YtdpomdelmdofmaaGreatDoor

namespace Go.Proofs.YtdpomdelmdofmaaGreatDoor
open Go.RowKit
theorem ptxt_snoc {ks:List Sp.By} {k:Nat} (h:k < ks.length):Sp.ptxt (ks.take (k + 1)) = Sp.ptxt (ks.take k) ++ 47 :: Sp.tokT ks[k]:=by
 rw [List.take_succ_eq_append_getElem h]
 simp only [Sp.ptxt,List.flatMap_append,List.flatMap_cons,List.flatMap_nil,List.append_nil]
theorem tokT_snoc {t:Sp.By} {k:Nat} (h:k < t.length):Sp.tokT (t.take (k + 1)) = Sp.tokT (t.take k) ++ Sp.escT1 t[k]:=by
 rw [List.take_succ_eq_append_getElem h]
 simp only [Sp.tokT,List.flatMap_append,List.flatMap_cons,List.flatMap_nil,List.append_nil]
theorem ptxt_take {ks:List Sp.By} (k:Nat):(Sp.ptxt (ks.take k)).length ≤ (Sp.ptxt ks).length:=by
 have h:Sp.ptxt ks = Sp.ptxt (ks.take k) ++ Sp.ptxt (ks.drop k):=by
  conv=>lhs; rw [← List.take_append_drop k ks]
  simp only [Sp.ptxt,List.flatMap_append]
 rw [h,List.length_append]; omega
set_option maxRecDepth 100000 in
set_option maxHeartbeats 4000000 in
theorem pString_any {w:World} {pv:Value} {ks:List Sp.By} (hp:Toks w pv ks) (hs:(ks.map fun t=>t.length + 1).sum ≤ 1000000) (hT:PTab w) :
  Calls Tryz.prog 165 #[pv] w fun e w'=>e = .returned (.string ⟨(Sp.ptxt ks).toArray⟩) ∧ Below w.heap.size w w':=by
 obtain ⟨B,hBe⟩:∃ B,B = w.heap.size:=⟨_,rfl⟩
 obtain ⟨W0,hW0⟩:∃ W0,W0 = w.alloc (.cells #[.pointer none,.slice none 0 0] 119):=⟨_,rfl⟩
 have hb0:Below B w W0:=by rw [hW0,hBe]; exact (Below.refl _ _).alloc (Nat.le_refl _) _
 have hs0:W0.heap.size = B + 1:=by rw [hW0,hBe]; simp
 have h0:Bu B B [] W0:=Or.inl ⟨Nat.le_refl _,.slice none 0 0,by rw [hW0,hBe]; show (w.heap.push _)[w.heap.size]? = _; simp,World.ownsRow_nil _ _ _ _,by simp [Value.ownBlock]⟩
 obtain ⟨hl1,hl2⟩:=sum_len ks
 have hpl:=Sp.ptxt_len ks
 obtain ⟨N,hN⟩:∃ N,N = ks.length:=⟨_,rfl⟩
 obtain ⟨ao,cap,hpv,hcell⟩:∃ ao cap,pv = .slice ao N cap ∧ (0 < N → ∃ g o,ao = some ⟨g,o,none⟩ ∧ g < B ∧ N ≤ cap ∧ ∀ k (hk:k < ks.length),w.cell? ⟨g,o + k,none⟩ = some (.string ⟨ks[k].toArray⟩)):=by
  rcases hp with ⟨rfl,a,c,rfl,_⟩ | ⟨g,o,cap,rfl,h2,_,hg,hc⟩
  ·exact ⟨a,c,by rw [hN]; rfl,fun h=>absurd h (by rw [hN]; simp)⟩
  ·exact ⟨_,cap,by rw [hN],fun _=>⟨g,o,rfl,by rw [hBe]; exact hg,by omega,hc⟩⟩
 subst hpv
 have HB0:=hide hb0
 have HS0:=hide hs0
 have H0:=hide h0
 have HC:=hide hcell
 have HT:=hide hT
 have HL:=hide (show (∀ t ∈ ks,t.length ≤ 1000000) ∧ (Sp.ptxt ks).length ≤ 2000000 from ⟨fun t ht=>by have:=hl2 t ht; omega,by omega⟩)
 have HN:=hide hN
 have HBE:=hide hBe
 have HW0:=hide hW0
 have hn1:(N:Int) ≤ 1000000:=by omega
 have hcv:=fun W s=>Lib.run_convert_string_bytes (P:=Tryz.prog) W 9 117 5 s Tryz.underlying9 Tryz.underlying117 Tryz.underlying5
 rw [← hBe]
 clear hp hs hT hb0 hs0 h0 hl1 hl2 hpl hcell hN hBe hW0
 go_enter Tryz.func165,Tryz.ntmps165
 go_wp2_with (fail)
 rw [← unhide HW0,← unhide HBE]
 go_loopw [10] (fun i wr=>∃ k:Nat,k ≤ N ∧ i = .int .i64 k ∧ Hid (Bu B B (Sp.ptxt (ks.take k)) wr) ∧ Hid (Fr B B W0 wr)) (fun i _=>N - (intOf i).toNat)
 case atStart=>exact ⟨0,by omega,rfl,by simpa [Sp.ptxt] using H0,Fr.refl _ _ _⟩
 case round =>
  obtain ⟨k,hk,rfl,HBU,HF⟩:=hrel
  have hBr:B ≤ wr.heap.size:=by have:=(unhide HF).low.size; have:=unhide HS0; omega
  by_cases hlt:k < N
  ·have hkl:k < ks.length:=by have:=unhide HN; omega
   obtain ⟨g,o,hao,hg,hcap,hc⟩:=unhide HC (by omega)
   subst hao
   have ck:wr.cell? ⟨g,o + k,none⟩ = some (.string ⟨ks[k].toArray⟩):=((((unhide HB0).trans (unhide HF).low).cell (p:=⟨g,o + k,none⟩) hg)).trans (hc k hkl)
   have HSN:=hide (ptxt_snoc hkl)
   have htl:=(unhide HL).1 _ (List.getElem_mem hkl)
   obtain ⟨t,ht⟩:∃ t,t = ks[k]:=⟨_,rfl⟩
   rw [← ht] at ck HSN htl
   have hpk:=Nat.le_trans (ptxt_take (ks:=ks) k) (unhide HL).2
   have hlt2:(k:Int) < (N:Int):=by omega
   have hlt3:(k:Int) < (cap:Int):=by omega
   have hn2:(N:Int) ≤ (cap:Int):=by omega
   have HBY:=hide (wByte 47 47 rfl (unhide HBU) (by omega) hBr)
   clear ht hc
   go_wp2_with (fail)
   refine (unhide HBY).mono ?_
   rintro e w1 ⟨rfl,h1,f1⟩
   obtain ⟨cs,fz,hrow,hfz,hcs,hbw⟩:=conv_left w1 t
   have hB1:B ≤ w1.heap.size:=Nat.le_trans hBr f1.low.size
   have H2:=hide (Bu_below h1 hbw)
   have F2:=hide (((unhide HF).trans f1).trans ⟨hbw.mono hB1,OKz.below hbw⟩)
   have hgb:w1.heap.size ≠ B:=by
    rcases h1 with h1 | h1
    ·have:=h1.lt; omega
    ·have:=h1.lt; omega
   have HROW:=hide hrow
   have HFZ:=hide hfz
   have HCS:=hide hcs
   clear h1 f1 hbw hrow hfz hcs HBY ck hg hcap
   go_wp2_with (fail)
   generalize Lib.bytesWorld w1 5 ⟨t.toArray⟩ = w2 at *
   go_loopw [18] (fun i wx=>∃ j:Nat,j ≤ t.length ∧ i = .int .i64 j ∧ Hid (Bu B B (Sp.ptxt (ks.take k) ++ 47 :: Sp.tokT (t.take j)) wx) ∧ Hid (Fr B B W0 wx) ∧ Hid (wx.heap[w1.heap.size]? = some (.cells cs 5 fz))) (fun i _=>t.length - (intOf i).toNat)
   case atStart=>exact ⟨0,by omega,rfl,by simpa [Sp.tokT] using H2,F2,HROW⟩
   case round =>
    obtain ⟨j,hj,rfl,HBU2,HF2,HR2⟩:=hrel
    have hBx:B ≤ wr.heap.size:=by have:=(unhide HF2).low.size; have:=unhide HS0; omega
    by_cases hjl:j < t.length
    ·have hro:wr.heap[w1.heap.size]? = some (.cells cs 5 fz):=unhide HR2
     have cc:wr.cell? ⟨w1.heap.size,j,none⟩ = some (.int .u8 (t[j].toNat:Int)):=by simp [World.cell?,hro,unhide HCS j hjl]
     have HSN2:=hide (tokT_snoc hjl)
     have hbt:(Sp.tokT (t.take j)).length ≤ 2 * t.length:=by
      have h1:=Sp.tokT_len (t.take j)
      have h2:(t.take j).length ≤ t.length:=by simp; omega
      omega
     have HKR:Hid (∀ w':World,Fr B B wr w' → w'.heap[w1.heap.size]? = some (.cells cs 5 fz)):=fun w' h=>h.oth _ _ hro hgb (fun c e=>by injection e with _ _ e; exact unhide HFZ e)
     obtain ⟨c,hc⟩:∃ c,c = t[j]:=⟨_,rfl⟩
     rw [← hc] at cc HSN2
     have HES:=hide (wEsc c (unhide HBU2) (by simp only [List.length_append,List.length_cons]; omega) hBx ((unhide HT).kept (unhide HBE ▸ ((unhide HB0).trans (unhide HF2).low))))
     have hltj:(j:Int) < (t.length:Int):=by omega
     have hcn:=c.toNat_lt
     clear hc hro
     go_wp2_with (fail)
     refine (unhide HES).mono ?_
     rintro e w5 ⟨rfl,h5,f5⟩
     have H5:=hide h5
     have F5:=hide f5
     clear h5 f5
     go_wp2_with (fail)
     exact ⟨⟨j + 1,by omega,by go_num,by rw [unhide HSN2]; simpa using H5,(unhide HF2).trans (unhide F5),unhide HKR _ (unhide F5)⟩,by simp [intOf]; omega⟩
    ·obtain rfl:j = t.length:=by omega
     have hltj:¬ ((t.length:Nat):Int) < ((t.length:Nat):Int):=by omega
     have hfin:=unhide HBU2
     rw [List.take_length,← unhide HSN] at hfin
     have HFIN:=hide hfin
     clear hfin
     go_wp2_with (fail)
     exact ⟨⟨k + 1,by omega,by go_num,HFIN,HF2⟩,by simp [intOf]; omega⟩
  ·obtain rfl:k = N:=by omega
   have hlt2:¬ (k:Int) < (k:Int):=by omega
   have h9:=unhide HBU
   rw [List.take_of_length_le (by have:=unhide HN; omega)] at h9
   have HST:=hide (Tryz.Builder_String_any B B _ wr h9 hBr)
   clear h9
   go_wp2_with (fail)
   refine (unhide HST).mono ?_
   rintro e w2 ⟨rfl,hb2⟩
   go_wp2_with (fail)
   go_ret
   exact ⟨by simp,((unhide HB0).trans (unhide HF).low).trans hb2⟩
end Go.Proofs.YtdpomdelmdofmaaGreatDoor
