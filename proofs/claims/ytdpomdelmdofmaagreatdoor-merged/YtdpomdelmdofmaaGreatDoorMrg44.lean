/-
  Walk of the statements' own merging.
-/
import Derived.Test.YtdpomdelmdofmaaGreatDoorMrg39
import Derived.Test.YtdpomdelmdofmaaGreatDoorMrg31
import Derived.Test.YtdpomdelmdofmaaGreatDoorMrg37
import Derived.Test.YtdpomdelmdofmaaGreatDoorMrg43
namespace Go.Proofs.YtdpomdelmdofmaaGreatDoor
section
set_option maxRecDepth 100000
set_option maxHeartbeats 4000000
open Go.RowKit
def mergingCells:Array Value:=#[.int .i64 1,.string ⟨#[123,34,97,34,58,49,125]⟩,.string ⟨#[]⟩,.int .i64 6,.string ⟨#[123,34,98,34,58,50,125]⟩,.string ⟨#[]⟩,.int .i64 2,.string ⟨#[]⟩,.string ⟨#[]⟩,.int .i64 8,.string ⟨#[123,125]⟩,.string ⟨#[]⟩,.int .i64 9,.string ⟨#[123,34,99,34,58,110,117,108,108,125]⟩,.string ⟨#[]⟩,.int .i64 9,.string ⟨#[123,125]⟩,.string ⟨#[]⟩]
theorem scr_merging {w:World} {g:Nat} (h:w.heap[g]? = some (.cells mergingCells 49 (0,0))):Scr w g 0 Sp.ms:=by
 intro i hi
 have hc:∀j,w.cell? ⟨g,j,none⟩=mergingCells[j]?:=fun j=>by simp[World.cell?,h]
 rw[hc,hc,hc]
 match i,hi with
 | 0,_=>exact⟨rfl,rfl,rfl⟩
 | 1,_=>exact⟨rfl,rfl,rfl⟩
 | 2,_=>exact⟨rfl,rfl,rfl⟩
 | 3,_=>exact⟨rfl,rfl,rfl⟩
 | 4,_=>exact⟨rfl,rfl,rfl⟩
 | 5,_=>exact⟨rfl,rfl,rfl⟩
theorem plain_merging:Plain Sp.ms:=by
 intro o ho
 simp only[Sp.ms,List.mem_cons,List.not_mem_nil,or_false] at ho
 rcases ho with rfl|rfl|rfl|rfl|rfl|rfl
 ·exact Or.inl (Or.inl (by decide))
 ·exact Or.inr (Or.inr (Or.inr (Or.inl ⟨rfl,merge_ok⟩)))
 ·exact Or.inl (Or.inl (by decide))
 ·exact Or.inr (Or.inr (Or.inr (Or.inr (Or.inr (Or.inl ⟨rfl,diff_ok⟩)))))
 ·exact Or.inr (Or.inr (Or.inr (Or.inr (Or.inr (Or.inr ⟨rfl,mergeDiff_ok⟩)))))
 ·exact Or.inr (Or.inr (Or.inr (Or.inr (Or.inr (Or.inr ⟨rfl,mergeDiff_ok⟩)))))
theorem merging_any (w:World) (hT:Laid w):Calls Tryz.prog 27 #[] w fun x w'=>x = .returned (.bool true)∧Below w.heap.size w w':=by
 have HT:=hide hT
 have hng:=hT.ng
 clear hT
 go_enter Tryz.func27,Tryz.ntmps27
 go_wp2_with (fail)
 refine (kstep_any 1 _ _ _).mono ?_
 rintro x w1 ⟨rfl,hb1⟩
 go_wp2_with (fail)
 refine (kstep_any 6 _ _ _).mono ?_
 rintro x w2 ⟨rfl,hb2⟩
 go_wp2_with (fail)
 refine (kstep_any 2 _ _ _).mono ?_
 rintro x w3 ⟨rfl,hb3⟩
 go_wp2_with (fail)
 refine (kstep_any 8 _ _ _).mono ?_
 rintro x w4 ⟨rfl,hb4⟩
 go_wp2_with (fail)
 refine (kstep_any 9 _ _ _).mono ?_
 rintro x w5 ⟨rfl,hb5⟩
 go_wp2_with (fail)
 refine (kstep_any 9 _ _ _).mono ?_
 rintro x w6 ⟨rfl,hb6⟩
 have g1:Below w.heap.size w w1:=hb1
 have g2:Below w.heap.size w w2:=g1.trans (hb2.mono g1.size)
 have g3:Below w.heap.size w w3:=g2.trans (hb3.mono g2.size)
 have g4:Below w.heap.size w w4:=g3.trans (hb4.mono g3.size)
 have g5:Below w.heap.size w w5:=g4.trans (hb5.mono g4.size)
 have g6:Below w.heap.size w w6:=g5.trans (hb6.mono g5.size)
 have HB4:=hide g6
 have hs4:=g6.size
 clear hb1 g1 hb2 g2 hb3 g3 hb4 g4 hb5 g5 hb6 g6
 go_wp2_with (fail)
 have hb5:Below w.heap.size w (w6.alloc (.cells mergingCells 49)):=(unhide HB4).alloc hs4 _
 refine (Run_some (d:=3) (e:=9) (n:=100) (sb:=w6.heap.size) (so:=0) (m:=6) (cap:=6) (l:=Sp.ms) (scr_merging (heap_new w6 _ _ rfl)) plain_merging rfl (by omega) (by omega) (by omega) (by simp) ((unhide HT).below (hb5.mono hng))).mono ?_
 rintro x v0 ⟨A,cs,rfl,hA,hrow,hans,hb6⟩
 rw[run_ms] at hans
 obtain⟨hsz,hc⟩:=hans
 have hcell:∀j,v0.cell? ⟨A,j,none⟩=cs[j]?:=fun j=>by simp[World.cell?,hrow]
 have q0:=hc 0 (by simp)
 have q1:=hc 1 (by simp)
 have q2:=hc 2 (by simp)
 have q3:=hc 3 (by simp)
 have q4:=hc 4 (by simp)
 have q5:=hc 5 (by simp)
 simp only[List.getElem_cons_zero,List.getElem_cons_succ] at q0 q1 q2 q3 q4 q5
 have c0_1_0:=(hcell 3).trans q1.1
 have c0_1_1:=(hcell 4).trans q1.2.1
 have c0_1_2:=(hcell 5).trans q1.2.2
 have c0_2_0:=(hcell 6).trans q2.1
 have c0_2_1:=(hcell 7).trans q2.2.1
 have c0_2_2:=(hcell 8).trans q2.2.2
 have c0_3_0:=(hcell 9).trans q3.1
 have c0_4_0:=(hcell 12).trans q4.1
 have c0_5_0:=(hcell 15).trans q5.1
 have HB:=hide (hb5.trans (hb6.mono hb5.size))
 have hA0:A<v0.heap.size:=(Array.getElem?_eq_some_iff.1 hrow).1
 clear q0 q1 q2 q3 q4 q5 hc hcell hrow hsz hb5 hb6
 go_wp2_with (fail)
 refine (told_yes [] v0).mono ?_
 rintro x v1 ⟨rfl,hb7⟩
 have c1_2_0:=(hb7.cell (p:=⟨A,6,none⟩) hA0).trans c0_2_0
 have c1_2_1:=(hb7.cell (p:=⟨A,7,none⟩) hA0).trans c0_2_1
 have c1_2_2:=(hb7.cell (p:=⟨A,8,none⟩) hA0).trans c0_2_2
 have c1_3_0:=(hb7.cell (p:=⟨A,9,none⟩) hA0).trans c0_3_0
 have c1_4_0:=(hb7.cell (p:=⟨A,12,none⟩) hA0).trans c0_4_0
 have c1_5_0:=(hb7.cell (p:=⟨A,15,none⟩) hA0).trans c0_5_0
 have HB:=hide ((unhide HB).trans (hb7.mono (unhide HB).size))
 have hA1:A<v1.heap.size:=Nat.lt_of_lt_of_le hA0 hb7.size
 clear c0_1_0 c0_1_1 c0_1_2 c0_2_0 c0_2_1 c0_2_2 c0_3_0 c0_4_0 c0_5_0 hb7
 go_wp2_with (fail)
 refine (told_yes Sp.m4 v1).mono ?_
 rintro x v2 ⟨rfl,hb7⟩
 have c2_3_0:=(hb7.cell (p:=⟨A,9,none⟩) hA1).trans c1_3_0
 have c2_4_0:=(hb7.cell (p:=⟨A,12,none⟩) hA1).trans c1_4_0
 have c2_5_0:=(hb7.cell (p:=⟨A,15,none⟩) hA1).trans c1_5_0
 have HB:=hide ((unhide HB).trans (hb7.mono (unhide HB).size))
 have hA2:A<v2.heap.size:=Nat.lt_of_lt_of_le hA1 hb7.size
 clear c1_2_0 c1_2_1 c1_2_2 c1_3_0 c1_4_0 c1_5_0 hb7
 go_wp2_with (fail)
 go_ret
 exact⟨rfl,unhide HB⟩
end

section
set_option maxRecDepth 100000
set_option maxHeartbeats 8000000
open Go.RowKit Go.Maps
theorem null_any (s:ByteArray) (hs:s.size≤80000) (hsc:Sp.scn (false,false) s.data.toList=some (false,false)) (hn:Sp.Nul s.data.toList) (w:World) :
  Calls Tryz.prog 28 #[.string s] w fun x w'=>x = .returned (.bool true)∧Below w.heap.size w w':=by
 obtain⟨p,r,o0,hp,hsp⟩:=hn
 have hpl:p.length<s.size:=by
  have:s.data.toList.length=p.length+1+r.length:=by rw[hp];simp;omega
  have h2:s.data.toList.length=s.size:=by simp
  omega
 have hat:(s[p.length]'hpl).toNat=110:=by
  have h1:s.data.toList[p.length]? = some 110:=by rw[hp];simp
  have h2:s.data.toList[p.length]? = some (s[p.length]'hpl):=by
   rw[List.getElem?_eq_getElem (by simpa using hpl)];rfl
  rw[h2] at h1
  injection h1 with h1
  rw[h1];rfl
 have hpt:s.data.toList.take p.length=p:=by rw[hp];simp
 have HSC:=hide hsc
 have HAT:=hide (show ∀k (hk:k<s.size),k=p.length→(s[k]'hk).toNat=110 from fun k hk e=>by subst e;exact hat)
 have HSP:=hide (show ∀k b o,k=p.length→Sp.scn (false,false) (s.data.toList.take k)=some (b,o)→b=false from fun k b o e h=>by
  subst e
  rw[hpt,hsp] at h
  injection h with h
  injection h with h1 _
  exact h1.symm)
 clear hsc hp hsp hat hpt
 go_enter Tryz.func28,Tryz.ntmps28
 go_wp2_with (fail)
 go_loopw [3,4] (fun ins i wr=>∃ (k:Nat) (b o:Bool),k≤p.length∧i = .int .i64 k∧ins = .bool b∧Sp.scn (false,false) (s.data.toList.take k)=some (b,o)∧Below w.heap.size w wr) (fun _ i _=>s.size-(intOf i).toNat)
 case atStart=>exact⟨0,false,false,by omega,rfl,rfl,rfl,(Below.refl _ _)⟩
 case round =>
  obtain⟨k,b,o,hk,rfl,rfl,hsn,hbel⟩:=hrel
  have HBEL:=hide hbel
  clear hbel
  have hlt:k<s.size:=by omega
  have hkl:k<s.data.toList.length:=by simpa using hlt
  have hodd:o=decide (Sp.trB (s.data.toList.take k) % 2=1):=scn_odd _ (unhide HSC) k _ (by omega) hsn
  obtain⟨st',hst,hsn'⟩:=scn_next _ _ (unhide HSC) k hkl hsn
  have hst3:Sp.stp (b,o) (s[k]'hlt)=some st':=hst
  have HSN:=hide hsn'
  have HODD:=hide hodd
  have HST:=hide hst3
  have HLAST:=hide (show k=p.length→b=false∧(s[k]'hlt).toNat=110 from fun e=>⟨unhide HSP k b o e hsn,unhide HAT k hlt e⟩)
  clear hsn hodd hst hst3 hsn' hkl
  have hnlt:=(s[k]'hlt).toNat_lt
  by_cases h34:s[k].toNat=34
  ·have hkp:k<p.length:=by
    rcases Nat.lt_or_ge k p.length with h|h
    ·exact h
    ·have:=(unhide HLAST (by omega)).2;omega
   have f34:((s[k].toNat:Int) == 34)=true:=by rw[h34];rfl
   have f110:((s[k].toNat:Int) == 110)=false:=by rw[h34];rfl
   have H34:=hide h34
   clear h34 HLAST
   go_wp2_with (fail)
   refine (escaped_any s k (by omega) hs _).mono ?_
   rintro x w7 ⟨rfl,hb7⟩
   have HB7:=hide ((unhide HBEL).trans (hb7.mono (unhide HBEL).size))
   rw[← unhide HODD]
   clear hb7
   have hst:=stp_quote (unhide H34) (unhide HST)
   have HST2:=hide hst
   clear hst
   cases o with
   | true =>
    have HS3:=hide (unhide HST2)
    cases b with
    | true =>
     go_wp2_with (fail)
     exact⟨⟨k+1,true,false,by omega,by go_num,rfl,(unhide HSN).trans (congrArg some (unhide HS3)),bel_any (unhide HB7)⟩,by simp[intOf];omega⟩
    | false =>
     go_wp2_with (fail)
     exact⟨⟨k+1,false,false,by omega,by go_num,rfl,(unhide HSN).trans (congrArg some (unhide HS3)),bel_any (unhide HB7)⟩,by simp[intOf];omega⟩
   | false =>
    have HS3:=hide (unhide HST2)
    cases b with
    | true =>
     go_wp2_with (fail)
     exact⟨⟨k+1,false,false,by omega,by go_num,rfl,(unhide HSN).trans (congrArg some (unhide HS3)),bel_any (unhide HB7)⟩,by simp[intOf];omega⟩
    | false =>
     go_wp2_with (fail)
     exact⟨⟨k+1,true,false,by omega,by go_num,rfl,(unhide HSN).trans (congrArg some (unhide HS3)),bel_any (unhide HB7)⟩,by simp[intOf];omega⟩
  ·have f34:((s[k].toNat:Int) == 34)=false:=by simp;omega
   obtain⟨hst,h32,h31⟩:=stp_other h34 (unhide HST)
   have HST2:=hide hst
   clear h34 hst h32 h31
   cases b with
   | true =>
    have hkp:k<p.length:=by
     rcases Nat.lt_or_ge k p.length with h|h
     ·exact h
     ·have:=(unhide HLAST (by omega)).1;cases this
    clear HLAST
    go_wp2_with (fail)
    exact⟨⟨k+1,true,_,by omega,by go_num,rfl,(unhide HSN).trans (congrArg some (unhide HST2)),bel_any (unhide HBEL)⟩,by simp[intOf];omega⟩
   | false =>
    by_cases h110:s[k].toNat=110
    ·have f110:((s[k].toNat:Int) == 110)=true:=by rw[h110];rfl
     clear h110 HLAST
     go_wp2_with (fail)
     go_ret
     exact⟨rfl,bel_any (unhide HBEL)⟩
    ·have f110:((s[k].toNat:Int) == 110)=false:=by simp;omega
     have hkp:k<p.length:=by
      rcases Nat.lt_or_ge k p.length with h|h
      ·exact h
      ·have:=(unhide HLAST (by omega)).2;omega
     clear h110 HLAST
     go_wp2_with (fail)
     exact⟨⟨k+1,false,_,by omega,by go_num,rfl,(unhide HSN).trans (congrArg some (unhide HST2)),bel_any (unhide HBEL)⟩,by simp[intOf];omega⟩
theorem fine_mdiff (s t:Sp.By):Fine (9,s,t):=Or.inr (Or.inr (Or.inr (Or.inr (Or.inr (Or.inr ⟨rfl,mergeDiff_ok⟩)))))
theorem fine_mrg (s t:Sp.By):Fine (6,s,t):=Or.inr (Or.inr (Or.inr (Or.inl ⟨rfl,merge_ok⟩)))
theorem plain_mrs (t p:Sp.By):Plain (Sp.mrs t p):=by
 intro o ho
 simp only[Sp.mrs,List.mem_cons,List.not_mem_nil,or_false] at ho
 rcases ho with rfl|rfl
 ·exact Or.inl (Or.inl (show (1:Int)<3 by decide))
 ·exact fine_mdiff _ _
theorem plain_mrs2 (t p z:Sp.By):Plain (Sp.mrs2 t p z):=by
 intro o ho
 simp only[Sp.mrs2,List.mem_cons,List.not_mem_nil,or_false] at ho
 rcases ho with rfl|rfl|rfl|rfl
 ·exact Or.inl (Or.inl (show (1:Int)<3 by decide))
 ·exact fine_mdiff _ _
 ·exact fine_mrg _ _
 ·exact Or.inl (Or.inl (show (2:Int)<3 by decide))
theorem Merged_any {a:Int} (ha0:-9223372036854775808≤a) (ha1:a≤9223372036854775807) (tb pb:ByteArray) (w:World) (hT:Laid w) :
  Calls Tryz.prog 13 #[.int .i64 a,.string tb,.string pb] w fun x w'=>x = .returned (.bool true)∧Below w.heap.size w w':=by
 obtain⟨t,rfl⟩:∃t:Sp.By,tb=⟨t.toArray⟩:=⟨tb.data.toList,by simp⟩
 obtain⟨p,rfl⟩:∃p:Sp.By,pb=⟨p.toArray⟩:=⟨pb.data.toList,by simp⟩
 have HT:=hide hT
 have hng:=hT.ng
 clear hT
 go_enter Tryz.func13,Tryz.ntmps13
 go_wp2_with (fail)
 refine (merging_any w (unhide HT)).mono ?_
 rintro x w1 ⟨rfl,hb1⟩
 have HB1:=hide hb1
 clear hb1
 go_wp2_with (fail)
 refine (config_3 a 400 0 ha0 ha1 (by omega) (by omega) (by omega) (by omega) w1).mono ?_
 rintro x w2 ⟨⟨d,e,n,hc,rfl⟩,hb2⟩
 have HC:=hide hc
 have HB2:=hide ((unhide HB1).trans (hb2.mono (unhide HB1).size))
 clear hb2 hc HB1
 go_upto_region 3 with (fail)
 obtain⟨wb,hwb⟩:∃wb,wb=w2.alloc (.cells #[.int .i64 d,.int .i64 e,.int .i64 n] 23):=⟨_,rfl⟩
 rw[← hwb]
 have hz:wb.heap[w2.heap.size]? = some (.cells #[.int .i64 d,.int .i64 e,.int .i64 n] 23 (0,0)):=by rw[hwb];exact heap_alloc_new w2 _
 have hzl:w2.heap.size<wb.heap.size:=(Array.getElem?_eq_some_iff.1 hz).1
 obtain⟨Z,hZ⟩:∃Z,Z=w2.heap.size:=⟨_,rfl⟩
 rw[← hZ] at hz hzl ⊢
 have hbw:Below w.heap.size w wb:=by rw[hwb];exact (unhide HB2).alloc (unhide HB2).size _
 have HZ:=hide (show Z<wb.heap.size ∧ ∀w0,Below wb.heap.size wb w0→w0.cell? ⟨Z,0,none⟩=some (.int .i64 d)∧w0.cell? ⟨Z,1,none⟩=some (.int .i64 e)∧w0.cell? ⟨Z,2,none⟩=some (.int .i64 n) from⟨hzl,fun w0 hb=>by
  have h1:=(hb.block Z hzl).trans hz
  refine⟨?_,?_,?_⟩<;>simp[World.cell?,h1]⟩)
 have HBW:=hide hbw
 clear hz hzl hwb hbw HB2 hZ
 go_wp2_with (fail)
 refine (kstep_any 1 _ _ _).mono ?_
 rintro x w3 ⟨rfl,hb3⟩
 go_wp2_with (fail)
 refine (kstep_any 9 _ _ _).mono ?_
 rintro x w4 ⟨rfl,hb4⟩
 have HB4:=hide (show Below wb.heap.size wb w4 from hb3.trans (hb4.mono hb3.size))
 clear hb3 hb4
 go_upto_region 4 with (fail)
 obtain⟨w5,hw5⟩:∃w5,w5=w4.alloc (.cells #[.int .i64 1,.string ⟨t.toArray⟩,.string ⟨#[]⟩,.int .i64 9,.string ⟨p.toArray⟩,.string ⟨#[]⟩] 49):=⟨_,rfl⟩
 have hown:Own w5 wb.heap.size (.slice (some ⟨w4.heap.size,0,none⟩) 2 2) 2 (Sp.mrs t p):=by rw[hw5];exact Own.new (unhide HB4).size rfl (by decide) rfl
 have hb5:Below wb.heap.size wb w5:=by rw[hw5];exact (unhide HB4).alloc (unhide HB4).size _
 rw[← hw5]
 obtain⟨g1,hg1⟩:∃g1,g1=w4.heap.size:=⟨_,rfl⟩
 rw[← hg1] at hown ⊢
 have HOWN:=hide hown
 have HB5:=hide hb5
 obtain⟨z0,z1,z2⟩:=(unhide HZ).2 w5 hb5
 clear hown hb5 HB4 hw5 hg1
 go_wp2_with (fail)
 refine (Own.run (d:=d) (e:=e) (n:=n) (unhide HOWN) (plain_mrs t p) (by decide) (by decide) ((unhide HT).below (((unhide HBW).trans ((unhide HB5).mono (unhide HBW).size)).mono hng))).mono ?_
 rintro x w6 ⟨A,cs,rfl,hA,hrow,hans,hb6⟩
 have hlA:A<w6.heap.size:=(Array.getElem?_eq_some_iff.1 hrow).1
 obtain⟨hsz,hc9⟩:=hans
 have hcell:∀j,w6.cell? ⟨A,j,none⟩=cs[j]?:=fun j=>by simp[World.cell?,hrow]
 have HB6:=hide ((unhide HB5).trans (hb6.mono (unhide HB5).size))
 have HO6:=hide ((unhide HOWN).bel hb6)
 obtain⟨z0,z1,z2⟩:=(unhide HZ).2 w6 (unhide HB6)
 have HD:=hide (dumped_any (unhide HC) ⟨p.toArray⟩ w6 ((unhide HT).below (((unhide HBW).trans ((unhide HB6).mono (unhide HBW).size)).mono hng)))
 have hrs:=run_mrs (unhide HC) t p
 have hpp:(⟨p.toArray⟩:ByteArray).data.toList=p:=rfl
 rw[hpp] at HD
 clear hb6 HB5 HOWN hpp
 have fin:∀w9,Below w6.heap.size w6 w9→Below w.heap.size w w9:=fun w9 h=>(unhide HBW).trans (((unhide HB6).trans (h.mono (unhide HB6).size)).mono (unhide HBW).size)
 have FIN:=hide fin
 clear fin
 rcases hrs with⟨c,hpos,hrun⟩|⟨c,hpos,h15,hrun,hdm⟩|⟨u,hrun,hdm,hul,hus,hun⟩|⟨u,z,hrun,hdm,hrun2⟩
 all_goals (
  rw[hrun] at hc9
  have q0:=hc9 0 (by simp)
  have q1:=hc9 1 (by simp)
  simp only[List.getElem_cons_zero,List.getElem_cons_succ] at q0 q1
  have a00:=(hcell 0).trans q0.1
  have a10:=(hcell 3).trans q1.1
  have a12:=(hcell 5).trans q1.2.2
  clear q0 q1 hc9 hcell hrow hsz hrun)
 ·have e1:((c:Int) != 0)=true:=by simp;omega
  clear hpos a10 a12
  obtain⟨dm,hdm⟩:∃dm,dm=Sp.dmp d e p:=⟨_,rfl⟩
  rw[← hdm] at HD
  clear hdm
  go_wp2_with (fail)
  refine (unhide HD).mono ?_
  rintro x w7 ⟨rfl,hb7⟩
  have b00:=(hb7.cell (p:=⟨A,0,none⟩) hlA).trans a00
  have F7:=hide (unhide FIN w7 hb7)
  clear hb7 a00 HD
  go_wp2_with (fail)
  go_ret
  have hb9:=unhide F7
  exact⟨rfl,⟨hb9.os,hb9.tape,hb9.output,hb9.size,hb9.block⟩⟩
 ·have e1:((c:Int) != 0)=true:=by simp;omega
  have e2:((c:Int) == (c:Int))=true:=by simp
  rw[hdm] at HD
  clear hpos hdm a12
  go_wp2_with (fail)
  refine (unhide HD).mono ?_
  rintro x w7 ⟨rfl,hb7⟩
  have b00:=(hb7.cell (p:=⟨A,0,none⟩) hlA).trans a00
  have b10:=(hb7.cell (p:=⟨A,3,none⟩) hlA).trans a10
  have F7:=hide (unhide FIN w7 hb7)
  clear hb7 a00 a10 HD
  go_wp2_with (fail)
  go_ret
  have hb9:=unhide F7
  exact⟨rfl,⟨hb9.os,hb9.tape,hb9.output,hb9.size,hb9.block⟩⟩
 ·rw[hdm] at HD
  have HN:=hide (fun w0=>null_any ⟨u.toArray⟩ (by rw[bs_size];exact hul) hus hun w0)
  clear hdm hus hun hul
  go_wp2_with (fail)
  refine (unhide HD).mono ?_
  rintro x w7 ⟨rfl,hb7⟩
  have b00:=(hb7.cell (p:=⟨A,0,none⟩) hlA).trans a00
  have b10:=(hb7.cell (p:=⟨A,3,none⟩) hlA).trans a10
  have b12:=(hb7.cell (p:=⟨A,5,none⟩) hlA).trans a12
  have HB7:=hide hb7
  have hlA7:A<w7.heap.size:=Nat.lt_of_lt_of_le hlA hb7.size
  clear hb7 a00 a10 a12 HD hlA
  go_wp2_with (fail)
  refine (unhide HN _).mono ?_
  rintro x w8 ⟨rfl,hb8⟩
  have c12:=(hb8.cell (p:=⟨A,5,none⟩) hlA7).trans b12
  have F8:=hide (unhide FIN w8 ((unhide HB7).trans (hb8.mono (unhide HB7).size)))
  clear hb8 b00 b10 b12 HN
  go_wp2_with (fail)
  go_ret
  have hb9:=unhide F8
  exact⟨rfl,⟨hb9.os,hb9.tape,hb9.output,hb9.size,hb9.block⟩⟩
 ·rw[hdm] at HD
  have HR:=hide hrun2
  clear hdm hrun2
  go_wp2_with (fail)
  refine (unhide HD).mono ?_
  rintro x w7 ⟨rfl,hb7⟩
  have b00:=(hb7.cell (p:=⟨A,0,none⟩) hlA).trans a00
  have b10:=(hb7.cell (p:=⟨A,3,none⟩) hlA).trans a10
  have b12:=(hb7.cell (p:=⟨A,5,none⟩) hlA).trans a12
  have HB7:=hide hb7
  have hlA7:A<w7.heap.size:=Nat.lt_of_lt_of_le hlA hb7.size
  have HO7:=hide ((unhide HO6).bel hb7)
  clear hb7 a00 a10 a12 HD hlA HO6
  by_cases hzl:z.length≤2000
  ·have hz2:(⟨z.toArray⟩:ByteArray).size=z.length:=bs_size z
   have e1:decide ((2000:Int)<((⟨z.toArray⟩:ByteArray).size:Int))=false:=by rw[hz2];simp;omega
   have HR2:=hide (unhide HR hzl)
   obtain⟨i0,hi0,hz0,hz1,hzz⟩:=info_parts kop_info
   clear hz2 HR
   go_wp2_with (fail)
   refine (kstep_any 6 _ _ _).mono ?_
   rintro x w8 ⟨rfl,hb8⟩
   go_wp2_with (fail)
   refine (kstep_any 2 _ _ _).mono ?_
   rintro x w9 ⟨rfl,hb9⟩
   have hb79:Below w7.heap.size w7 w9:=hb8.trans (hb9.mono hb8.size)
   have HO9:=hide ((unhide HO7).bel hb79)
   have HB9:=hide ((unhide HB6).trans (((unhide HB7).trans (hb79.mono (unhide HB7).size)).mono (unhide HB6).size))
   clear hb8 hb9 hb79 HO7 HB7 HB6 z0 z1 z2 b00 b10 b12
   go_wp2_with (at_builtin;refine wpList_append_lies _ rfl _ _ _ rfl wb.heap.size 49 i0 _ 3 40 Tryz.underlying24 hi0 hz0 hz1 hzz rfl (by decide) (.slice (some ⟨g1,0,none⟩) 2 2) 2 (sc3C (Sp.mrs t p)) rfl ((unhide HO9).bel ((Below.refl _ _).alloc (Nat.le_refl _) _)).2 ⟨w9.heap.size,0,none⟩ 2 2 [.int .i64 6,.string ⟨z.toArray⟩,.string ⟨#[]⟩,.int .i64 2,.string ⟨#[]⟩,.string ⟨#[]⟩] rfl rfl (World.news_of_block (cs:=#[.int .i64 6,.string ⟨z.toArray⟩,.string ⟨#[]⟩,.int .i64 2,.string ⟨#[]⟩,.string ⟨#[]⟩]) (t:=49) (fr:=(0,0)) (heap_alloc_new w9 _)) (by simp[Value.oneCell']) (by decide) (by unfold maxLen;omega) (by omega) (by have:=(unhide HB9).size;simp;omega) (w9.heap.size+1) (by simp) ?_;intro g cap w10 hown10 hgrow hat10 hlt10;have HM:=hide (own_more (l':=[(6,z,[]),(2,[],[])]) ((unhide HO9).bel ((Below.refl _ _).alloc (Nat.le_refl _) _)) ((unhide HB9).alloc (unhide HB9).size _) (by have:=(unhide HB9).size;simp;omega) rfl rfl rfl hown10 hgrow);obtain⟨z0,z1,z2⟩:=(unhide HZ).2 w10 (unhide HM).2;clear hown10 hgrow hat10 hlt10)
   refine (Own.run (d:=d) (e:=e) (n:=n) (m:=4) (l:=Sp.mrs2 t p z) (unhide HM).1 (plain_mrs2 t p z) (by decide) (by decide) ((unhide HT).below (((unhide HBW).trans ((unhide HM).2.mono (unhide HBW).size)).mono hng))).mono ?_
   rintro x w11 ⟨A2,cs2,rfl,hA2,hrow2,hans2,hb11⟩
   have F11:=hide ((unhide HBW).trans (((unhide HM).2.trans (hb11.mono (unhide HM).2.size)).mono (unhide HBW).size))
   obtain⟨hsz2,hc2⟩:=hans2
   have hcell2:∀j,w11.cell? ⟨A2,j,none⟩=cs2[j]?:=fun j=>by simp[World.cell?,hrow2]
   rw[unhide HR2] at hc2
   have q2:=hc2 2 (by simp)
   have q3:=hc2 3 (by simp)
   simp only[List.getElem_cons_zero,List.getElem_cons_succ] at q2 q3
   have a20:=(hcell2 6).trans q2.1
   have a32:=(hcell2 11).trans q3.2.2
   clear q2 q3 hc2 hcell2 hrow2 hsz2 hb11 HR2 HM z0 z1 z2
   go_wp2_with (fail)
   go_ret
   have hb9:=unhide F11
   exact⟨rfl,⟨hb9.os,hb9.tape,hb9.output,hb9.size,hb9.block⟩⟩
  ·have hz2:(⟨z.toArray⟩:ByteArray).size=z.length:=bs_size z
   have e1:decide ((2000:Int)<((⟨z.toArray⟩:ByteArray).size:Int))=true:=by rw[hz2];simp;omega
   have F7:=hide (unhide FIN w7 (unhide HB7))
   clear hz2
   go_wp2_with (fail)
   go_ret
   have hb9:=unhide F7
   exact⟨rfl,⟨hb9.os,hb9.tape,hb9.output,hb9.size,hb9.block⟩⟩
end
end Go.Proofs.YtdpomdelmdofmaaGreatDoor
