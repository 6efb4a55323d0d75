/-
  Walk of the statement on a patch that is refused.
-/
import Derived.Test.YtdpomdelmdofmaaGreatDoorMrg34
import Derived.Test.YtdpomdelmdofmaaGreatDoorMrg31
import Derived.Test.YtdpomdelmdofmaaGreatDoorMrg38
import Derived.Test.YtdpomdelmdofmaaGreatDoorMrg29
import Derived.Laws.BytesArg
import Derived.Laws.IdiomStrings
import Derived.Test.YtdpomdelmdofmaaGreatDoorMrg32
import Derived.Lib.MapLaws
import Derived.Test.YtdpomdelmdofmaaGreatDoorMrg13
import Derived.BigRegion
import Derived.Deep.DeepCutAuto
import Derived.Lib.SplitLaws
import Derived.Test.YtdpomdelmdofmaaGreatDoorMrg24
import Derived.Test.YtdpomdelmdofmaaGreatDoorMrg17
import Derived.Test.YtdpomdelmdofmaaGreatDoorMrg36
import Derived.Test.YtdpomdelmdofmaaGreatDoorMrg26
import Derived.Test.YtdpomdelmdofmaaGreatDoorMrg16
import Derived.Test.YtdpomdelmdofmaaGreatDoorMrg27
import Derived.BigQuiet
import Derived.Test.YtdpomdelmdofmaaGreatDoorMrg28
namespace Go.Proofs.YtdpomdelmdofmaaGreatDoor
section
set_option maxHeartbeats 4000000
open Go.RowKit Go.Maps
theorem config_3 (a b c:Int) (ha0:-9223372036854775808≤a) (ha1:a≤9223372036854775807) (hb0:-9223372036854775808≤b) (hb1:b≤9223372036854775807) (hc0:-9223372036854775808≤c) (hc1:c≤9223372036854775807) (w:World) :
  Calls Tryz.prog 18 #[.int .i64 a,.int .i64 b,.int .i64 c] w fun x w'=>(∃ (d e n:Int),Sp.cfg d e n=true∧x = .returned (.agg #[.int .i64 d,.int .i64 e,.int .i64 n]))∧Below w.heap.size w w':=by
 go_enter Tryz.func18,Tryz.ntmps18
 go_wp2_with (fail)
 refine (pick_any a 20 ha0 ha1 (by omega) (by omega) _).mono ?_
 rintro x w1 ⟨⟨d,hd,rfl⟩,rfl⟩
 go_wp2_with (fail)
 refine (pick_any b 401 hb0 hb1 (by omega) (by omega) _).mono ?_
 rintro x w1 ⟨⟨e,he,rfl⟩,rfl⟩
 go_wp2_with (fail)
 refine (pick_any c 2001 hc0 hc1 (by omega) (by omega) _).mono ?_
 rintro x w1 ⟨⟨n,hn,rfl⟩,rfl⟩
 go_wp2_with (fail)
 refine bodyPost_ret (v:=.agg #[.int .i64 ((d+1:Nat):Int),.int .i64 e,.int .i64 n]) (by simp[results,Tryz.results18,go_sem];omega) rfl ⟨⟨_,_,_,?_,rfl⟩,?_⟩
 ·simp[Sp.cfg,Sp.inB];omega
 ·exact (Below.refl _ w).alloc (Nat.le_refl _) _
end

section
set_option maxRecDepth 100000
def Sp.m1:Sp.By:=[123,34,97,34,58,49,125]
def Sp.m2:Sp.By:=[123,34,98,34,58,50,125]
def Sp.m4:Sp.By:=[123,34,97,34,58,49,44,34,98,34,58,50,125]
def Sp.m5:Sp.By:=[123,125]
def Sp.m6:Sp.By:=[123,34,99,34,58,110,117,108,108,125]
def Sp.mv1:Sp.V:=Sp.vObj [(.string [97],Sp.vNum (false,[49],0))]
def Sp.mp2:Sp.V:=Sp.vObj [(.string [98],Sp.vNum (false,[50],0))]
def Sp.mv2:Sp.V:=Sp.vObj [(.string [97],Sp.vNum (false,[49],0)),(.string [98],Sp.vNum (false,[50],0))]
def Sp.mi2:List Sp.Opn:=[(1,[[98]],.nil)]
def Sp.mp5:Sp.V:=Sp.vObj []
def Sp.mp6:Sp.V:=Sp.vObj [(.string [99],Sp.vWord 0)]
def Sp.mx5:Sp.V:=Sp.vObj [(.string [97],Sp.vWord 0),(.string [98],Sp.vWord 0)]
def Sp.ms:List Sp.St:=[(1,Sp.m1,[]),(6,Sp.m2,[]),(2,[],[]),(8,Sp.m5,[]),(9,Sp.m6,[]),(9,Sp.m5,[])]
theorem read_m1:Sp.readTo Sp.m1 3 9=(0,some Sp.mv1):=by kernel_rfl
theorem read_m2:Sp.readTo Sp.m2 3 9=(0,some Sp.mp2):=by kernel_rfl
theorem read_m5:Sp.readTo Sp.m5 3 9=(0,some Sp.mp5):=by kernel_rfl
theorem read_m6:Sp.readTo Sp.m6 3 9=(0,some Sp.mp6):=by kernel_rfl
theorem mrg_m2:Sp.mrg top (some Sp.mv1) [] Sp.mp2=(Sp.mv2,Sp.mi2):=by kernel_rfl
theorem can_m2:Sp.can top Sp.mv2=Sp.m4:=by
 show Sp.can (2000+1) (Sp.vObj [(.string [97],Sp.vNum (false,[49],0)),(.string [98],Sp.vNum (false,[50],0))])=_
 rw[Sp.can_obj,skeys_id (by decide) (by simp)]
 rfl
theorem mdf_m5:Sp.mdf top Sp.mv2 Sp.mp5=some Sp.mx5:=by kernel_rfl
theorem mdf_m6:Sp.mdf top Sp.mv2 Sp.mp6=none:=by kernel_rfl
theorem run_ms:Sp.run 3 9 100 none Sp.ms=[(0,0,[]),(0,0,[]),(0,0,Sp.m4),(0,0,Sp.ptext (Sp.diff 100 top [] Sp.mv2 Sp.mp5)),(15,0,[]),(0,0,Sp.can top Sp.mx5)]:=by
 have hc:Sp.cfg 3 9 100=true:=by decide
 have h6:Sp.stMerge 3 9 (Sp.mv1,none) Sp.m2=((0,0,[]),(Sp.mv2,some Sp.mi2.reverse)):=by
  unfold Sp.stMerge
  rw[read_m2]
  simp only
  unfold Sp.mergeA
  rw[mrg_m2]
  simp only
  rw[can_m2,if_neg (by decide)]
 have h8:Sp.stDiff 3 9 100 (Sp.mv2,some Sp.mi2.reverse) Sp.m5=(0,0,Sp.ptext (Sp.diff 100 top [] Sp.mv2 Sp.mp5)):=by
  unfold Sp.stDiff
  rw[read_m5]
  rfl
 have h9:Sp.stMergeDiff 3 9 (Sp.mv2,some Sp.mi2.reverse) Sp.m6=(15,0,[]):=by
  unfold Sp.stMergeDiff
  rw[read_m6]
  simp only
  unfold Sp.mdiffAns
  rw[mdf_m6]
 have h9':Sp.stMergeDiff 3 9 (Sp.mv2,some Sp.mi2.reverse) Sp.m5=(0,0,Sp.can top Sp.mx5):=by
  unfold Sp.stMergeDiff
  rw[read_m5]
  simp only
  unfold Sp.mdiffAns
  rw[mdf_m5]
 simp only[Sp.ms,Sp.run,step_load hc,read_m1,Sp.ldd,step_merge hc,h6,step_dump hc,can_m2,step_diff hc,h8,step_mdiff hc,h9,h9']
end

section
set_option maxRecDepth 100000
set_option maxHeartbeats 4000000
open Go.RowKit Go.Maps
structure MkK (w:World) (Mk:Nat) (n:Int) (M K:Nat→Prop) (ops:List Sp.Opn):Prop where
 ex:∃mv xs,w.heap[Mk]? = some (.cells #[.int .i64 n,mv] 187 (0,0))∧w.ownsRow 0 178 4 mv ops.length xs∧(∀g,mv.ownBlock=some g → ¬ K g∧g≠Mk)∧Opns w M xs ops
 low:∀k,K k→k<w.heap.size
 nM:¬ K Mk
abbrev MkD (w:World) (Mk:Nat) (n:Int) (M:Nat→Prop) (ops:List Sp.Opn):Prop:=MkK w Mk n M M ops
section
variable {w w':World} {Mk:Nat} {n:Int} {M K:Nat→Prop} {ops:List Sp.Opn}
theorem MkK.lt (h:MkK w Mk n M K ops):Mk<w.heap.size:=by
 obtain⟨mv,xs,h1,_⟩:=h.ex
 exact (Array.getElem?_eq_some_iff.1 h1).1
theorem MkK.less {K':Nat→Prop} (h:MkK w Mk n M K ops) (hK:∀k,K' k→K k):MkK w Mk n M K' ops:=by
 obtain⟨mv,xs,h1,h2,h3,h4⟩:=h.ex
 exact⟨⟨mv,xs,h1,h2,fun g hg=>⟨fun hk=>(h3 g hg).1 (hK g hk),(h3 g hg).2⟩,h4⟩,fun k hk=>h.low k (hK k hk),fun hk=>h.nM (hK _ hk)⟩
theorem MkK.moved {M' K':Nat→Prop} {w':World} (h:MkK w Mk n M K ops) (hb:∀k,k<w.heap.size → ¬ K k∨M k→w'.heap[k]? = w.heap[k]?) (hM:∀k,M k→M' k) (hK:∀k,K' k→(K k∨w.heap.size≤k)∧k<w'.heap.size):MkK w' Mk n M' K' ops:=by
 have hl:=h.lt
 obtain⟨mv,xs,h1,h2,h3,h4⟩:=h.ex
 refine⟨⟨mv,xs,(hb _ hl (Or.inl h.nM)).trans h1,ownsN_kept h2 fun g hg=>hb g (ownsN_lt h2 g hg).1 (Or.inl (h3 g hg).1),fun g hg=>⟨fun hk=>?_,(h3 g hg).2⟩,h4.move fun k hk hkl=>⟨hb k hkl (Or.inr hk),hM k hk⟩⟩,fun k hk=>(hK k hk).2,fun hk=>?_⟩
 ·rcases (hK g hk).1 with e|e
  ·exact (h3 g hg).1 e
  ·have:=(ownsN_lt h2 g hg).1;omega
 ·rcases (hK _ hk).1 with e|e
  ·exact h.nM e
  ·omega
theorem MkD.grow (h:MkD w Mk n M ops) (hb:Below w.heap.size w w') (X:Nat→Prop) (hX:∀k,X k→w.heap.size≤k∧k<w'.heap.size) :
  MkD w' Mk n (fun k=>M k∨X k) ops∧JEx M (fun k=>M k∨X k) w w':=by
 have hl:=h.lt
 obtain⟨mv,xs,h1,h2,h3,h4⟩:=h.ex
 have hlow:=h.low
 refine⟨⟨⟨mv,xs,(hb.block _ hl).trans h1,ownsN_kept h2 fun g hg=>hb.block g (ownsN_lt h2 g hg).1,fun g hg=>⟨fun hm=>hm.elim (h3 g hg).1 fun hx=>by have:=(hX g hx).1;have:=(ownsN_lt h2 g hg).1;omega,(h3 g hg).2⟩,h4.move fun k hk hkl=>⟨hb.block k hkl,Or.inl hk⟩⟩,fun k hm=>?_,fun hm=>hm.elim h.nM fun hx=>by have:=(hX Mk hx).1;omega⟩,⟨hb.os,hb.tape,hb.output,hb.size,fun k hk=>⟨Or.inl hk,hb.block k (hlow k hk)⟩⟩⟩
 rcases hm with hm|hm
 ·exact Nat.lt_of_lt_of_le (hlow k hm) hb.size
 ·exact (hX k hm).2
theorem MkD.bel (h:MkD w Mk n M ops) (hb:Below w.heap.size w w'):MkD w' Mk n M ops∧JEx M M w w':=by
 have h1:=h.grow hb (fun _=>False) (fun _ hx=>hx.elim)
 simpa using h1
theorem mk_laid {o:Obj} {w3:World} {g cap:Nat} {mv:Value} {xs new:List Value} {op:Sp.Opn} (hMK:∀k,M k→K k) (hl:∀k,K k→k<w.heap.size) (hn:¬ K Mk) (h1:w.heap[Mk]? = some (.cells #[.int .i64 n,mv] 187 (0,0))) (h3:∀g,mv.ownBlock=some g → ¬ K g∧g≠Mk)
  (ho:w3.ownsRow 0 178 4 (.slice (some ⟨g,0,none⟩) (ops.length+1) cap) (ops.length+1) (xs++new)) (hg:(w.alloc o).grownBy w3 mv.ownBlock) (hat:mv.ownBlock=some g∨g=w.heap.size+1) (hx:Opns w M (xs++new) (ops++[op])) :
  MkK (w3.setCell ⟨Mk,1,none⟩ (.slice (some ⟨g,0,none⟩) (ops.length+1) cap)) Mk n M K (ops++[op])∧JEx K K w (w3.setCell ⟨Mk,1,none⟩ (.slice (some ⟨g,0,none⟩) (ops.length+1) cap)):=by
 have hs:(w.alloc o).heap.size=w.heap.size+1:=by simp
 have hml:Mk<w.heap.size:=(Array.getElem?_eq_some_iff.1 h1).1
 have hold:∀k,k<w.heap.size→mv.ownBlock≠some k→w3.heap[k]? = w.heap[k]?:=fun k hk hne=>(hg.block k (by omega) (fun e=>hne e.symm)).trans (Below.heap_alloc w o k hk)
 have hM3:∀k,K k→(w3.setCell ⟨Mk,1,none⟩ (.slice (some ⟨g,0,none⟩) (ops.length+1) cap)).heap[k]? = w.heap[k]?:=fun k hk=>(Below.heap_setCell _ _ _ _ (by show k≠Mk;rintro rfl;exact hn hk)).trans (hold k (hl k hk) fun e=>(h3 k e).1 hk)
 have hgM:g≠Mk ∧ ¬ K g:=by
  rcases hat with h|h
  ·exact⟨(h3 g h).2,(h3 g h).1⟩
  ·exact⟨by omega,fun hm=>by have:=hl g hm;omega⟩
 have h13:w3.heap[Mk]? = some (.cells #[.int .i64 n,mv] 187 (0,0)):=(hold Mk hml fun e=>(h3 Mk e).2 rfl).trans h1
 have hsz:=hg.size
 refine⟨⟨⟨.slice (some ⟨g,0,none⟩) (ops.length+1) cap,xs++new,?_,?_,fun g' hg'=>?_,hx.move fun k hk _=>⟨hM3 k (hMK k hk),hk⟩⟩,fun k hk=>?_,hn⟩,⟨hg.os,hg.tape,hg.output,?_,fun k hk=>⟨hk,hM3 k hk⟩⟩⟩
 ·simp only[World.setCell,Array.getElem?_modify]
  rw[if_pos trivial,h13];rfl
 ·rw[List.length_append]
  exact ownsN_kept ho fun k hk2=>by
   simp[Value.ownBlock] at hk2
   exact Below.heap_setCell _ _ _ _ (by show k≠Mk;omega)
 ·simp[Value.ownBlock] at hg'
  subst hg'
  exact⟨hgM.2,hgM.1⟩
 ·have:=hl k hk
  show k<(w3.setCell _ _).heap.size
  simp[World.setCell];omega
 ·simp[World.setCell];omega
theorem mLay_anyK {o:Sp.Opn} {pa x:Option Addr} {pl pc:Nat} (h:MkK w Mk n M K ops) (hMK:∀k,M k→K k) (hn:ops.length≤1000000000) (ho:OpnR w M (.int .i64 o.1) (.slice pa pl pc) (.slice none 0 0) (.pointer x) o) :
  Calls Tryz.prog 169 #[.pointer (some ⟨Mk,0,none⟩),.int .i64 o.1,.slice pa pl pc,.pointer x] w fun e w'=>e = .returned (.tuple #[])∧MkK w' Mk n M K (ops++[o])∧JEx K K w w':=by
 obtain⟨i0,z0,hi0,hz0,hz1,hz2,hz3⟩:=op_parts
 obtain⟨mv,xs,h1,h2,h3,h4⟩:=h.ex
 obtain⟨kk,hkk⟩:∃kk:Nat,kk=o.1:=⟨_,rfl⟩
 have hml:=h.lt
 have c1:w.cell? ⟨Mk,1,none⟩=some mv:=by simp[World.cell?,h1]
 have z1:∀b,(w.alloc b).frozen? ⟨Mk,1,none⟩=false:=fun b=>by rw[World.frozen?_of_block (w:=w) (Below.heap_alloc w b Mk hml)];simp[World.frozen?,h1]
 have y1:∀b,(w.alloc b).cell? ⟨Mk,1,none⟩=some mv:=fun b=>by rw[World.cell?_of_block (w:=w) (Below.heap_alloc w b Mk hml)];exact c1
 have nD:some Mk≠mv.ownBlock:=fun e=>(h3 Mk e.symm).2 rfl
 have HX:=hide (h4.snoc ho)
 have HF:=hide (show (∀k,K k→k<w.heap.size) ∧ ¬ K Mk∧w.heap[Mk]? = some (.cells #[.int .i64 n,mv] 187 (0,0)) ∧ ∀g,mv.ownBlock=some g → ¬ K g∧g≠Mk from⟨h.low,h.nM,h1,h3⟩)
 have HMK:=hide hMK
 have hoa:=h2
 rw[← hkk] at HX ⊢
 have HK:=hide hkk
 clear h h1 h2 h3 h4 ho hkk hMK
 go_enter Tryz.func169,Tryz.ntmps169
 go_wp2_with (at_builtin;refine wpList_append_lies _ rfl _ _ _ rfl 0 178 i0 z0 4 64 Tryz.underlying113 hi0 hz0 hz2 hz3 hz1 (by decide) mv ops.length xs rfl (hoa.alloc _) ⟨w.heap.size,0,none⟩ 1 1 [.int .i64 kk,.slice pa pl pc,.slice none 0 0,.pointer x] rfl rfl (World.news_of_block (cs:=#[.int .i64 kk,.slice pa pl pc,.slice none 0 0,.pointer x]) (t:=178) (fr:=(0,0)) (heap_alloc_new w _)) (by simp[Value.oneCell']) (by decide) (by unfold maxLen;omega) (by omega) (Nat.zero_le _) (w.heap.size+1) (by simp) ?_;intro g cap w3 hown3 hgrow hat hlt;have zz:w3.frozen? ⟨Mk,1,none⟩=false:=(hgrow.frozen_far ⟨Mk,1,none⟩ (by simp;omega) nD).trans (z1 _);have yy:w3.cell? ⟨Mk,1,none⟩=some mv:=(hgrow.cell_far ⟨Mk,1,none⟩ (by simp;omega) nD).trans (y1 _))
 obtain⟨f1,f2,f3,f4⟩:=unhide HF
 exact bodyPost_end (results_none rfl _ _ _) rfl ⟨rfl,mk_laid (unhide HMK) f1 f2 f3 f4 hown3 hgrow hat (unhide HX)⟩
theorem mLay_any {o:Sp.Opn} {pa x:Option Addr} {pl pc:Nat} (h:MkD w Mk n M ops) (hn:ops.length≤1000000000) (ho:OpnR w M (.int .i64 o.1) (.slice pa pl pc) (.slice none 0 0) (.pointer x) o) :
  Calls Tryz.prog 169 #[.pointer (some ⟨Mk,0,none⟩),.int .i64 o.1,.slice pa pl pc,.pointer x] w fun e w'=>e = .returned (.tuple #[])∧MkD w' Mk n M (ops++[o])∧JEx M M w w':=mLay_anyK h (fun _ hk=>hk) hn ho
end
end

section
set_option maxRecDepth 100000
set_option maxHeartbeats 4000000
open Go.RowKit Go.Maps
section
variable {w:World} {Mk:Nat} {n:Int} {M:Nat→Prop} {ops:List Sp.Opn}
theorem MkD.c0 (h:MkD w Mk n M ops):w.cell? ⟨Mk,0,none⟩=some (.int .i64 n):=by
 obtain⟨mv,xs,h1,_⟩:=h.ex
 simp[World.cell?,h1]
theorem mHolds_any {ab bb:Nat} {an bn:Sp.Nm} {ast bst:Sp.By} {aa ba:Option Addr} {al ac bl bc:Nat} {amv bmv:Value} {ak bk:Int} (h:MkD w Mk n M ops) (ha:VB w ab ak an ast (.slice aa al ac) amv) (hb:VB w bb bk bn bst (.slice ba bl bc) bmv) (hal:al≤1000000) (hbl:bl≤1000000) :
  Calls Tryz.prog 167 #[.pointer (some ⟨Mk,0,none⟩),.pointer (some ⟨ab,0,none⟩),.pointer (some ⟨bb,0,none⟩)] w fun e w'=>e = .returned (.bool (decide (((al:Int)+1)*((bl:Int)+1)≤n)))∧Below w.heap.size w w':=by
 have m0:=h.c0
 have a5:=ha.c5
 have b5:=hb.c5
 have hal':(al:Int)≤1000000:=by omega
 have hbl':(bl:Int)≤1000000:=by omega
 have hm1:((al:Int)+1)*((bl:Int)+1)≤1000001*1000001:=Int.mul_le_mul (by omega) (by omega) (by omega) (by omega)
 have hm0:0≤((al:Int)+1)*((bl:Int)+1):=Int.mul_nonneg (by omega) (by omega)
 have e1:IntKind.i64.wrap ((al:Int)+1)=(al:Int)+1:=by rw[IntKind.wrap_i64];omega
 have e2:IntKind.i64.wrap ((bl:Int)+1)=(bl:Int)+1:=by rw[IntKind.wrap_i64];omega
 have e3:IntKind.i64.wrap (((al:Int)+1)*((bl:Int)+1))=((al:Int)+1)*((bl:Int)+1):=by rw[IntKind.wrap_i64];omega
 clear h ha hb
 go_enter Tryz.func167,Tryz.ntmps167
 go_wp2_with (fail)
 go_quiet (fail)
 go_wp2_with (fail)
 go_ret
 exact⟨rfl,rfl,rfl,rfl,Nat.le_refl _,fun _ _=>rfl⟩
def DfEnd (Mk:Nat) (n:Int) (M:Nat→Prop) (ops j:List Sp.Opn) (w:World) (e:Ending) (w':World):Prop:=e = .returned (.tuple #[]) ∧ ∃M',MkD w' Mk n M' (ops++j)∧JEx M M' w w'
theorem DfEnd.low {w1 w':World} {j:List Sp.Opn} {e:Ending} (h:DfEnd Mk n M ops j w1 e w') (hX:JEx M M w w1):DfEnd Mk n M ops j w e w':=by
 obtain⟨h1,M',h2,h3⟩:=h
 exact⟨h1,M',h2,hX.trans h3⟩
def Sp.isArr (d:Sp.V):Bool:=match d with
 | .slice _ _=>true
 | _=>false
theorem rep_parts {f:Nat} {F:Nat→Prop} {w:World} {v:Value} {d:Sp.V} (h:Rep (f+1) F w v d):∃b k nm s sl mv,v = .pointer (some ⟨b,0,none⟩)∧VB w b k nm s sl mv∧(k == 6)=Sp.isObj d∧(k == 5)=Sp.isArr d ∧
  (∀xs,d = .map xs → ∃m n' D,mv = .map (some m)∧F m∧w.ownsMap Tryz.prog 9 RV m n' (.map D)∧Pt (Rep f F w) D xs) ∧
  (∀xs y,d = .slice xs y→y=[] ∧ ∃ps,w.ownsRow 0 80 1 sl ps.length ps∧(∀g,sl.ownBlock=some g→F g)∧Al (Rep f F w) ps xs):=by
 obtain⟨b,rfl,_,h⟩:=h
 rcases h with⟨k,hk,rfl,h⟩|⟨n,rfl,h,_⟩|⟨s,rfl,h⟩|⟨es,sl,ps,rfl,h,ho,hg,ha⟩|⟨es,m,n,D,rfl,h,hm,ho,hp⟩
 ·have hk2:((k:Int) == 6)=false∧((k:Int) == 5)=false:=by
   match k,hk with
   | 0,_=>exact⟨rfl,rfl⟩
   | 1,_=>exact⟨rfl,rfl⟩
   | 2,_=>exact⟨rfl,rfl⟩
  exact⟨b,k,_,_,_,_,rfl,h,hk2.1,hk2.2,(fun xs e=>by cases e),fun xs y e=>by cases e⟩
 ·exact⟨b,3,_,_,_,_,rfl,h,rfl,rfl,(fun xs e=>by cases e),fun xs y e=>by cases e⟩
 ·exact⟨b,4,_,_,_,_,rfl,h,rfl,rfl,(fun xs e=>by cases e),fun xs y e=>by cases e⟩
 ·refine⟨b,5,_,_,_,_,rfl,h,rfl,rfl,(fun xs e=>by cases e),fun xs y e=>?_⟩
  injection e with e1 e2
  subst e1 e2
  exact⟨rfl,ps,ho,hg,ha⟩
 ·refine⟨b,6,_,_,_,_,rfl,h,rfl,rfl,(fun xs e=>?_),fun xs y e=>by cases e⟩
  injection e with e1
  subst e1
  exact⟨m,n,D,rfl,hm,ho,hp⟩
end
section
variable {Mk:Nat} {n:Int} {M:Nat→Prop} {ops:List Sp.Opn}
theorem mValues_any {f:Nat} {F F':Nat→Prop} {w:World} {av bv:Value} {x y:Sp.V} {pa:Option Addr} {pl pc:Nat} {s:List Sp.By} (h:MkD w Mk n M ops) (ha:Rep (f+1) F w av x) (hb:Rep (f+1) F' w bv y) (hf:f+1≤top) (hF':∀k,F' k→M k) (hp:TokG w M (.slice pa pl pc) s) (hn:ops.length≤1000000000)
  (hla:∀xs z,x = .slice xs z→xs.length≤1000000) (hlb:∀ys z,y = .slice ys z→ys.length≤1000000)
  (hO:∀xs ys m1 n1 D1 m2 n2 D2,x = .map xs→y = .map ys→F m1→F' m2→w.ownsMap Tryz.prog 9 RV m1 n1 (.map D1)→Pt (Rep f F w) D1 xs→w.ownsMap Tryz.prog 9 RV m2 n2 (.map D2)→Pt (Rep f F' w) D2 ys → ∀w1,Below w.heap.size w w1 →
   Calls Tryz.prog 166 #[.pointer (some ⟨Mk,0,none⟩),.slice pa pl pc,.map (some m1),.map (some m2)] w1 (DfEnd Mk n M ops (Sp.diffO (Sp.diff n f) s xs ys (Sp.ukeys xs ys)) w1))
  (hA:∀xs ys sl1 sl2 ps1 ps2,x = .slice xs []→y = .slice ys []→((xs.length:Int)+1)*((ys.length:Int)+1)≤n→w.ownsRow 0 80 1 sl1 ps1.length ps1→Al (Rep f F w) ps1 xs→w.ownsRow 0 80 1 sl2 ps2.length ps2→(∀g,sl2.ownBlock=some g→F' g)→Al (Rep f F' w) ps2 ys → ∀w1,Below w.heap.size w w1 →
   Calls Tryz.prog 168 #[.pointer (some ⟨Mk,0,none⟩),.slice pa pl pc,sl1,sl2] w1 (DfEnd Mk n M ops (Sp.diffA s xs ys) w1)) :
  Calls Tryz.prog 123 #[.pointer (some ⟨Mk,0,none⟩),.slice pa pl pc,av,bv] w (DfEnd Mk n M ops (Sp.diff n (f+1) s x y) w):=by
 have HSAME:=hide (fun (w1:World) (hb1:Below w.heap.size w w1)=>Same_any (f+1) F F' w1 av bv x y (ha.bel hb1) (hb.bel hb1))
 have HLAY:=hide (fun (w1:World) (hb1:Below w.heap.size w w1) (q:Addr) (hq:bv = .pointer (some q))=>mLay_any (o:=(2,s,y)) (pa:=pa) (pl:=pl) (pc:=pc) (x:=some q) (h.bel hb1).1 hn ⟨rfl,by show 2<3;decide,hp.move fun k hk hkl=>⟨hb1.block k hkl,hk⟩,rfl,Or.inr ⟨by show 2≠1;decide,by rw[← hq];exact ((hb.bel hb1).move fun k hk _=>⟨rfl,hF' k hk⟩).up hf⟩⟩)
 obtain⟨ab,ak,anm,ast,asl,amv,rfl,hav,a6,a5,aO,aA⟩:=rep_parts ha
 obtain⟨bb,bk,bnm,bst,bsl,bmv,rfl,hbv,b6,b5,bO,bA⟩:=rep_parts hb
 have hac:=hav.c0
 have hbc:=hbv.c0
 have hac6:=hav.c6
 have hbc6:=hbv.c6
 have hac5:=hav.c5
 have hbc5:=hbv.c5
 have HH:=hide h
 obtain⟨Q,hQ⟩:∃Q,Q=DfEnd Mk n M ops (Sp.diff n (f+1) s x y) w:=⟨_,rfl⟩
 rw[← hQ]
 have HQ:=hide hQ
 by_cases hob:Sp.isObj x=true∧Sp.isObj y=true
 ·obtain⟨ex,ey⟩:=hob
  obtain⟨xs,rfl⟩:∃xs,x = .map xs:=by
   cases x with
   | map xs=>exact⟨xs,rfl⟩
   | _=>cases ex
  obtain⟨ys,rfl⟩:∃ys,y = .map ys:=by
   cases y with
   | map ys=>exact⟨ys,rfl⟩
   | _=>cases ey
  obtain⟨m1,n1,D1,rfl,k1,o1,p1⟩:=aO _ rfl
  obtain⟨m2,n2,D2,rfl,k2,o2,p2⟩:=bO _ rfl
  have HC:=hide (hO xs ys m1 n1 D1 m2 n2 D2 rfl rfl k1 k2 o1 p1 o2 p2)
  rw[ex] at a6
  rw[ey] at b6
  clear ha hb h hp hla hlb hO hA aO aA bO bA k1 k2 o1 p1 o2 p2 hav hbv a5 b5 HSAME HLAY hQ ex ey hac5 hbc5
  go_enter Tryz.func123,Tryz.ntmps123
  go_wp2_with (fail)
  go_region_with (go_at_call 166;refine (unhide HC _ ?_).mono ?_;exact⟨rfl,rfl,rfl,Nat.le_refl _,fun _ _=>rfl⟩;rintro e w2 ⟨rfl,hE⟩)
  all_goals (
   have HE:=hide hE
   clear hE
   go_wp2_with (fail)
   refine bodyPost_end (results_none rfl _ _ _) rfl ?_
   rw[unhide HQ]
   exact DfEnd.low ⟨rfl,unhide HE⟩ ((unhide HH).bel (w':=w.drew) ⟨rfl,rfl,rfl,Nat.le_refl _,fun _ _=>rfl⟩).2)
 ·have HTAIL:=hide (show ∀w1,Below w.heap.size w w1→Sp.diff n (f+1) s x y=(if veq x y=true then [] else [(2,s,y)]) → ∀w2,Below w1.heap.size w1 w2→(veq x y=true→Q (.returned (.tuple #[])) w2)∧(veq x y=false→Calls Tryz.prog 169 #[.pointer (some ⟨Mk,0,none⟩),.int .i64 2,.slice pa pl pc,.pointer (some ⟨bb,0,none⟩)] w2 Q) from fun w1 hb1 hd w2 hb2=>by
   have hb12:Below w.heap.size w w2:=hb1.trans (hb2.mono hb1.size)
   obtain⟨h2,hX2⟩:=h.bel hb12
   constructor
   ·intro hv
    rw[hQ,hd,if_pos hv]
    exact⟨rfl,M,by rw[List.append_nil];exact h2,hX2⟩
   ·intro hv
    refine (unhide HLAY w2 hb12 _ rfl).mono ?_
    rintro e w3 ⟨rfl,k1,k2⟩
    rw[hQ,hd,if_neg (by rw[hv];decide)]
    exact⟨rfl,M,k1,hX2.trans k2⟩)
  by_cases harr:Sp.isArr x=true∧Sp.isArr y=true
  ·obtain⟨ex,ey⟩:=harr
   obtain⟨xs,z1,rfl⟩:∃xs z,x = .slice xs z:=by
    cases x with
    | slice xs z=>exact⟨xs,z,rfl⟩
    | _=>cases ex
   obtain⟨ys,z2,rfl⟩:∃ys z,y = .slice ys z:=by
    cases y with
    | slice ys z=>exact⟨ys,z,rfl⟩
    | _=>cases ey
   obtain⟨rfl,ps1,o1,_,l1⟩:=aA _ _ rfl
   obtain⟨rfl,ps2,o2,k2,l2⟩:=bA _ _ rfl
   obtain⟨aa,ac,rfl⟩:=slice_form o1
   obtain⟨ba,bc,rfl⟩:=slice_form o2
   have hx1:=hla _ _ rfl
   have hy1:=hlb _ _ rfl
   have HC:=hide (fun hcc=>hA xs ys _ _ ps1 ps2 rfl rfl hcc o1 l1 o2 k2 l2)
   have hl1:ps1.length=xs.length:=l1.length
   have hl2:ps2.length=ys.length:=l2.length
   have HHOLD:=hide (mHolds_any h hav hbv (by omega) (by omega))
   have hdiff:Sp.diff n (f+1) s (.slice xs []) (.slice ys [])=if ((xs.length:Int)+1)*((ys.length:Int)+1)≤n then Sp.diffA s xs ys else if veq (.slice xs []:Sp.V) (.slice ys [])=true then [] else [(2,s,.slice ys [])]:=rfl
   rw[hl1] at hac5 HC HHOLD
   rw[hl2] at hbc5 HC HHOLD
   obtain⟨vq,hvq⟩:∃vq,vq=veq (.slice xs []:Sp.V) (.slice ys []):=⟨_,rfl⟩
   rw[← hvq] at HSAME HTAIL hdiff
   have HDF:=hide hdiff
   rw[ex] at a5
   rw[ey] at b5
   have ax6:(ak == 6)=false:=a6
   have hal:=hav.lt
   have hbl:=hbv.lt
   clear ha hb h hp hla hlb hO hA aO aA bO bA o1 o2 l1 l2 k2 hav hbv a6 b6 HLAY hQ hob ex ey hac6 hbc6 hvq hdiff hx1 hy1 hl1 hl2
   by_cases hc:((xs.length:Int)+1)*((ys.length:Int)+1)≤n
   ·have hdec:=decide_eq_true hc
    rw[hdec] at HHOLD
    have HD:=hide (show Sp.diff n (f+1) s (.slice xs []) (.slice ys [])=Sp.diffA s xs ys by rw[unhide HDF,if_pos hc])
    have HCC:=hide hc
    clear hc hdec HSAME HTAIL
    go_enter Tryz.func123,Tryz.ntmps123
    go_wp2_with (fail)
    refine (unhide HHOLD).mono ?_
    rintro e w2 ⟨rfl,hb2⟩
    have a5c:w2.cell? ⟨ab,5,none⟩=some (.slice aa xs.length ac):=(hb2.cell (p:=⟨ab,5,none⟩) hal).trans hac5
    have b5c:w2.cell? ⟨bb,5,none⟩=some (.slice ba ys.length bc):=(hb2.cell (p:=⟨bb,5,none⟩) hbl).trans hbc5
    have HB2:=hide (show Below w.heap.size w w2.drew from⟨hb2.os,hb2.tape,hb2.output,hb2.size,hb2.block⟩)
    have HC2:=hide (unhide HC (unhide HCC) w2.drew (unhide HB2))
    clear hb2 HHOLD HC
    go_wp2_with (fail)
    go_region_with (go_at_call 168;refine (unhide HC2).mono ?_;rintro e w3 ⟨rfl,hE⟩)
    all_goals (
     have HE:=hide hE
     clear hE
     go_wp2_with (fail)
     refine bodyPost_end (results_none rfl _ _ _) rfl ?_
     rw[unhide HQ,unhide HD]
     exact DfEnd.low ⟨rfl,unhide HE⟩ ((unhide HH).bel (w':=w2.drew) (unhide HB2)).2)
   ·have hdec:=decide_eq_false hc
    rw[hdec] at HHOLD
    have HD:=hide (show Sp.diff n (f+1) s (.slice xs []) (.slice ys [])=(if vq=true then [] else [(2,s,.slice ys [])]) by rw[unhide HDF,if_neg hc])
    clear hc hdec HC
    go_enter Tryz.func123,Tryz.ntmps123
    go_wp2_with (fail)
    refine (unhide HHOLD).mono ?_
    rintro e w1 ⟨rfl,hb1⟩
    have HB1:=hide hb1
    clear hb1 HHOLD
    go_wp2_with (fail)
    refine (unhide HSAME _ (unhide HB1)).mono ?_
    rintro e w2 ⟨rfl,hb2⟩
    have HT2:=hide (unhide HTAIL w1 (unhide HB1) (unhide HD) w2 hb2)
    clear hb2
    cases vq with
    | true =>
     go_wp2_with (fail)
     refine bodyPost_end (results_none rfl _ _ _) rfl ?_
     exact (unhide HT2).1 trivial
    | false =>
     go_wp2_with (fail)
     refine ((unhide HT2).2 trivial).mono ?_
     intro e w3 hE
     have hE2:=hE
     rw[unhide HQ] at hE2
     obtain⟨rfl,_⟩:=hE2
     have HE:=hide hE
     clear hE
     go_wp2_with (fail)
     refine bodyPost_end (results_none rfl _ _ _) rfl ?_
     exact unhide HE
  ·have HD:=hide (show Sp.diff n (f+1) s x y=(if veq x y=true then [] else [(2,s,y)]) by
    cases x<;>cases y<;>first|rfl|exact absurd ⟨rfl,rfl⟩ hob|exact absurd ⟨rfl,rfl⟩ harr)
   have hk:((ak == 6)=true∧(bk == 6)=false∧(ak == 5)=false)∨((ak == 6)=false∧(ak == 5)=true∧(bk == 5)=false)∨((ak == 6)=false∧(ak == 5)=false):=by
    rw[a6,b6,a5,b5]
    cases hx:Sp.isObj x with
    | true =>
     refine Or.inl ⟨rfl,?_,?_⟩
     ·cases hy:Sp.isObj y with
      | false=>rfl
      | true=>exact absurd ⟨hx,hy⟩ hob
     ·cases x<;>first|rfl|cases hx
    | false =>
     cases hx2:Sp.isArr x with
     | false=>exact Or.inr (Or.inr ⟨rfl,rfl⟩)
     | true =>
      refine Or.inr (Or.inl ⟨rfl,rfl,?_⟩)
      cases hy:Sp.isArr y with
      | false=>rfl
      | true=>exact absurd ⟨hx2,hy⟩ harr
   obtain⟨vq,hvq⟩:∃vq,vq=veq x y:=⟨_,rfl⟩
   rw[← hvq] at HSAME HTAIL HD
   clear ha hb h hp hla hlb hO hA aO aA bO bA hav hbv a5 b5 a6 b6 HLAY hQ hob harr hac5 hbc5 hac6 hbc6 hvq
   rcases hk with⟨e1,e2,e3⟩|⟨e1,e2,e3⟩|⟨e1,e2⟩
   all_goals (
    go_enter Tryz.func123,Tryz.ntmps123
    go_wp2_with (fail)
    refine (unhide HSAME _ ⟨rfl,rfl,rfl,Nat.le_refl _,fun _ _=>rfl⟩).mono ?_
    rintro e w2 ⟨rfl,hb2⟩
    have HT2:=hide (unhide HTAIL w ⟨rfl,rfl,rfl,Nat.le_refl _,fun _ _=>rfl⟩ (unhide HD) w2 hb2)
    clear hb2
    cases vq with
    | true =>
     go_wp2_with (fail)
     refine bodyPost_end (results_none rfl _ _ _) rfl ?_
     exact (unhide HT2).1 trivial
    | false =>
     go_wp2_with (fail)
     refine ((unhide HT2).2 trivial).mono ?_
     intro e w3 hE
     have hE2:=hE
     rw[unhide HQ] at hE2
     obtain⟨rfl,_⟩:=hE2
     have HE:=hide hE
     clear hE
     go_wp2_with (fail)
     refine bodyPost_end (results_none rfl _ _ _) rfl ?_
     exact unhide HE)
end
end

section
set_option maxRecDepth 100000
set_option maxHeartbeats 4000000
open Go.RowKit Go.Maps
theorem obj_look {f:Nat} {F:Nat→Prop} {w:World} {m n':Nat} {D:List (Lit×DataW Value)} {xs:List (Lit×Sp.V)} {k:Sp.By} (ho:w.ownsMap Tryz.prog 9 RV m n' (.map D)) (hp:Pt (Rep f F w) D xs) (hk:k.length≤1048576) :
  ∃y,(match Sp.get? xs (.string k) with|none=>y=none|some c=>Rep f F w (.pointer y) c∧y≠none) ∧ ∀w',w'.heap[m]? = w.heap[m]? → (Instr.lookup 109 (.map (some m)) (.string ⟨k.toArray⟩) false).run Tryz.prog w' = .ok (.pointer y) w':=by
 have hml:=map_lt ho
 have hh:=hp.has (.string k)
 cases hc:has (.map D:DataW Value) (.string k) with
 | false =>
  have e1:Sp.get? xs (.string k)=none:=by
   unfold Sp.get?
   rw[if_neg (by rw[← hh,hc];simp)]
  rw[e1]
  refine⟨none,rfl,fun w' hbw=>?_⟩
  obtain⟨v1,ps1,r1,q1⟩:=(map_kept ho hbw).lookup mlaw Tryz.underlying109 (mzero w') (zd:=.held (.pointer none)) (zp:=[]) rfl (tkey k hk)
  obtain⟨rfl,_⟩:=rv_held q1 (atKey_of_not_has hc _)
  exact r1
 | true =>
  obtain⟨y,e4,hy⟩:=hp.at (.string k) hc
  obtain⟨b,rfl,_⟩:=Rep.ptr hy
  have e1:Sp.get? xs (.string k)=some ((DataW.map xs).atKey (.string k) .nil):=by
   unfold Sp.get?
   rw[if_pos (by rw[← hh,hc])]
  rw[e1]
  refine⟨some ⟨b,0,none⟩,⟨hy,by simp⟩,fun w' hbw=>?_⟩
  obtain⟨v1,ps1,r1,q1⟩:=(map_kept ho hbw).lookup mlaw Tryz.underlying109 (mzero w') (zd:=.held (.pointer none)) (zp:=[]) rfl (tkey k hk)
  obtain⟨rfl,_⟩:=rv_held q1 (e4 _)
  exact r1
def KeysAt (ks:List Sp.By) (w:World) (e:Ending) (w':World):Prop:=Below w.heap.size w w'∧((ks=[] ∧ ∃a c,e = .returned (.slice a 0 c)) ∨ ∃g cap,e = .returned (.slice (some ⟨g,0,none⟩) ks.length cap)∧w.heap.size≤g∧ks.length≤cap∧cap≤maxLen∧SR w' g ks.length ks)
namespace Sp
theorem diffO_snoc (m:List By→V→V→List Opn) (s:List By) (xs bs:List (Lit×V)) (k:By):∀l:List By,diffO m s xs bs (l++[k])=diffO m s xs bs l++(match get? xs (.string k),get? bs (.string k) with
  | _,none=>[(1,s++[k],.nil)]
  | none,some y=>[(0,s++[k],y)]
  | some x,some y=>m (s++[k]) x y)
 | []=>by
  simp[diffO]
  rfl
 | a::l=>by
  rw[List.cons_append,diffO,diffO_snoc m s xs bs k l,diffO,List.append_assoc]
end Sp
section
variable {Mk:Nat} {n:Int} {M:Nat→Prop} {ops:List Sp.Opn}
def ObI (Mk:Nat) (n:Int) (M:Nat→Prop) (ops:List Sp.Opn) (m:List Sp.By→Sp.V→Sp.V→List Sp.Opn) (s:List Sp.By) (xs ys:List (Lit×Sp.V)) (ks:List Sp.By) (w1:World) (t:Nat) (wr:World):Prop :=
 ∃M',MkD wr Mk n M' (ops++Sp.diffO m s xs ys (ks.take t))∧JEx M M' w1 wr
theorem mObjects_any {f:Nat} {F F':Nat→Prop} {w:World} {m1 n1 m2 n2:Nat} {D1 D2:List (Lit×DataW Value)} {xs ys:List (Lit×Sp.V)} {m:List Sp.By→Sp.V→Sp.V→List Sp.Opn} {pa:Option Addr} {pl pc:Nat} {s:List Sp.By} (h:MkD w Mk n M ops) (hf:f≤top) (hF:∀k,F k→M k) (hF':∀k,F' k→M k) (hm1:M m1) (hm2:M m2)
  (o1:w.ownsMap Tryz.prog 9 RV m1 n1 (.map D1)) (p1:Pt (Rep f F w) D1 xs) (o2:w.ownsMap Tryz.prog 9 RV m2 n2 (.map D2)) (p2:Pt (Rep f F' w) D2 ys) (hp:TokG w M (.slice pa pl pc) s) (hpl:s.length≤100000000) (hnil:s=[] → ∃c,(Value.slice pa pl pc) = .slice none 0 c)
  (ks:List Sp.By) (hkl:∀k∈ks,k.length≤1048576) (hlen:ks.length≤1000000) (hn:∀t,(ops++Sp.diffO m s xs ys (ks.take t)).length≤1000000000)
  (hK:Calls Tryz.prog 208 #[.map (some m1),.map (some m2)] w (KeysAt ks w))
  (hV:∀k∈ks,∀x y,Sp.get? xs (.string k)=some x→Sp.get? ys (.string k)=some y → ∀M1 wr xv yv qa ql qc ops',(∃t,ops'=ops++Sp.diffO m s xs ys (ks.take t))→MkD wr Mk n M1 ops'→JEx M M1 w wr→Rep f F wr xv x→Rep f F' wr yv y→TokG wr M1 (.slice qa ql qc) (s++[k])→Calls Tryz.prog 123 #[.pointer (some ⟨Mk,0,none⟩),.slice qa ql qc,xv,yv] wr (DfEnd Mk n M1 ops' (m (s++[k]) x y) wr)) :
  Calls Tryz.prog 166 #[.pointer (some ⟨Mk,0,none⟩),.slice pa pl pc,.map (some m1),.map (some m2)] w (DfEnd Mk n M ops (Sp.diffO m s xs ys ks) w):=by
 have HH:=hide h
 have HFM:=hide (And.intro hF hF')
 have HM:=hide (And.intro hm1 hm2)
 have HO:=hide (And.intro o1 o2)
 have HP:=hide (And.intro p1 p2)
 have HPA:=hide hp
 have HPL:=hide hpl
 have HNL:=hide hnil
 have HKL:=hide hkl
 have HN:=hide hn
 have HK:=hide hK
 have HV:=hide hV
 obtain⟨Q,hQ⟩:∃Q,Q=DfEnd Mk n M ops (Sp.diffO m s xs ys ks) w:=⟨_,rfl⟩
 rw[← hQ]
 have HQ:=hide hQ
 clear h hF hF' hm1 hm2 o1 o2 p1 p2 hp hpl hnil hkl hn hK hV hQ
 go_enter Tryz.func166,Tryz.ntmps166
 go_wp2_with (fail)
 refine (unhide HK).mono ?_
 rintro e w1 ⟨hb1,hk⟩
 rcases hk with⟨rfl,a,c,rfl⟩|⟨g,cap,rfl,hg,hcap,hcm,hsr⟩
 ·have HFIN:=hide (show Q (.returned (.tuple #[])) w1 from by
   obtain⟨h1,h2⟩:=(unhide HH).bel hb1
   rw[unhide HQ]
   exact⟨rfl,M,by simpa[Sp.diffO] using h1,h2⟩)
  clear hb1 HK HV
  go_wp2_with (fail)
  refine wp_loop_rounds 1 ?_
  rw[rounds_succ]
  go_wp2_with (fail)
  exact bodyPost_end (results_none rfl _ _ _) rfl (unhide HFIN)
 ·have hgl:g<w1.heap.size:=by obtain⟨cur,hc,_⟩:=hsr;exact (Array.getElem?_eq_some_iff.1 hc).1
  obtain⟨h1,hX1⟩:=(unhide HH).grow hb1 (fun j=>w.heap.size≤j∧j<w1.heap.size) (fun _ h=>h)
  obtain⟨M1,eM1⟩:∃M1,M1=fun j=>M j∨(w.heap.size≤j∧j<w1.heap.size):=⟨_,rfl⟩
  rw[← eM1] at h1 hX1
  have HI0:=hide (show ObI Mk n M1 ops m s xs ys ks w1 0 w1 from⟨M1,by simpa[Sp.diffO] using h1,JEx.refl _ _⟩)
  have HG:=hide (show M1 g from by rw[eM1];exact Or.inr ⟨hg,hgl⟩)
  have HSR:=hide hsr
  have HX1:=hide hX1
  have HE:=hide eM1
  have HB1:=hide hb1
  clear h1 hX1 hsr hb1 eM1 HK
  have hnb:(ks.length:Int)≤1000000:=by omega
  go_wp2_with (fail)
  go_loopw [17] (fun i wr=>∃t:Nat,t≤ks.length∧i = .int .i64 t∧Hid (ObI Mk n M1 ops m s xs ys ks w1 t wr)) (fun i _=>ks.length-(intOf i).toNat)
  case atStart=>exact⟨0,by omega,rfl,HI0⟩
  case round =>
   obtain⟨t,ht,rfl,HI⟩:=hrel
   by_cases hlt:t<ks.length
   ·obtain⟨M',hD,hX⟩:=unhide HI
    have hXX:=(unhide HX1).trans hX
    have ck:wr.cell? ⟨g,t,none⟩=some (.string ⟨ks[t].toArray⟩):=(World.cell?_of_block (a:=⟨g,t,none⟩) (hX.kept g (unhide HG)).2).trans ((unhide HSR).cell t hlt)
    have hkm:ks[t]∈ks:=List.getElem_mem hlt
    obtain⟨k,hk⟩:∃k,k=ks[t]:=⟨_,rfl⟩
    rw[← hk] at ck hkm
    have hk8:=unhide HKL k hkm
    obtain⟨y1,hy1,l1⟩:=obj_look (unhide HO).1 (unhide HP).1 hk8
    obtain⟨y2,hy2,l2⟩:=obj_look (unhide HO).2 (unhide HP).2 hk8
    have L1:=l1 wr.drew ((hXX.kept m1 (unhide HM).1).2)
    have L2:=l2 wr.drew ((hXX.kept m2 (unhide HM).2).2)
    have HTO:=hide (pTo_any (w:=wr.drew) (G:=M') (t:=k) ((unhide HPA).move fun j hj _=>⟨(hXX.kept j hj).2,(hXX.kept j hj).1⟩) (unhide HPL) (unhide HNL))
    have hbd:Below wr.heap.size wr wr.drew:=⟨rfl,rfl,rfl,Nat.le_refl _,fun _ _=>rfl⟩
    have HD2:=hide (hD.bel hbd)
    have HXX:=hide hXX
    have HX0:=hide hX
    have htake:ks.take (t+1)=ks.take t++[k]:=by rw[List.take_add_one,List.getElem?_eq_getElem hlt,hk];rfl
    have HTK:=hide htake
    have HKM:=hide hkm
    have hlt2:(t:Int)<(ks.length:Int):=by omega
    have hlt3:(t:Int)<(cap:Int):=by omega
    have HY1:=hide hy1
    have HY2:=hide hy2
    clear hD hX hXX hkm hk8 l1 l2 hy1 hy2 hk hbd htake
    go_upto_region 3 with (fail)
    go_cut [10,11] (fun s10 s11 wx=>s10 = .pointer y1∧s11 = .pointer y2∧wx=wr.drew)
    case first =>
     go_region
     all_goals (
      go_wp2_with (fail)
      go_meet
      exact⟨rfl,rfl,rfl⟩)
    case rest =>
     obtain⟨rfl,rfl,rfl⟩:=hcut
     clear L1 L2
     go_wp2_with (fail)
     refine (unhide HTO).mono ?_
     rintro e w2 ⟨g',cap',rfl,hg',htk,hb2⟩
     obtain⟨hd0,hx0⟩:=unhide HD2
     obtain⟨hd2,hx2⟩:=hd0.grow hb2 (fun j=>wr.heap.size≤j∧j<w2.heap.size) (fun _ h=>h)
     obtain⟨M2,eM2⟩:∃M2,M2=fun j=>M' j∨(wr.heap.size≤j∧j<w2.heap.size):=⟨_,rfl⟩
     rw[← eM2] at hd2 hx2
     have hX2:JEx M M2 w w2:=(unhide HXX).trans (hx0.trans hx2)
     have hX12:JEx M1 M2 w1 w2:=(unhide HX0).trans (hx0.trans hx2)
     have htk2:TokG w2 M2 (.slice (some ⟨g',0,none⟩) (s.length+1) cap') (s++[k]):=htk.move fun j hj hjl=>⟨rfl,by rw[eM2];exact Or.inr ⟨hj,hjl⟩⟩
     have HNX:=hide (fun (j:List Sp.Opn) (w3:World) (q:∃M3,MkD w3 Mk n M3 (ops++Sp.diffO m s xs ys (ks.take t)++j)∧JEx M2 M3 w2 w3) (hj:(match Sp.get? xs (.string k),Sp.get? ys (.string k) with
       | _,none=>[(1,s++[k],.nil)]
       | none,some y=>[(0,s++[k],y)]
       | some x,some y=>m (s++[k]) x y)=j)=>show ObI Mk n M1 ops m s xs ys ks w1 (t+1) w3 from by
      obtain⟨M3,q1,q2⟩:=q
      refine⟨M3,?_,hX12.trans q2⟩
      rw[unhide HTK,Sp.diffO_snoc,← List.append_assoc,hj]
      exact q1)
     have hlo:=unhide HN t
     have HD3:=hide hd2
     have HTK2:=hide htk2
     have HX2:=hide hX2
     clear hd0 hx0 hd2 hx2 eM2 hX2 hX12 htk2 htk hb2 HTO
     cases hgy:Sp.get? ys (.string k) with
     | none =>
      have hy2:=unhide HY2
      rw[hgy] at hy2
      obtain rfl:y2=none:=hy2
      have HL:=hide (mLay_any (o:=(1,s++[k],.nil)) (pa:=some ⟨g',0,none⟩) (x:=none) (unhide HD3) hlo ⟨rfl,by show 1<3;decide,unhide HTK2,rfl,Or.inl ⟨rfl,rfl⟩⟩)
      have HJ:=hide (fun w3 (q:∃M3,MkD w3 Mk n M3 (ops++Sp.diffO m s xs ys (ks.take t)++[(1,s++[k],.nil)])∧JEx M2 M3 w2 w3)=>unhide HNX _ w3 q (by rw[hgy]))
      clear hgy HNX HV
      go_wp2_with (fail)
      refine (unhide HL).mono ?_
      rintro e w3 ⟨rfl,k1,k2⟩
      have HOB:=hide (unhide HJ w3 ⟨M2,k1,k2⟩)
      clear k1 k2
      go_wp2_with (fail)
      exact⟨⟨t+1,by omega,by go_num,HOB⟩,by simp[intOf];omega⟩
     | some c2 =>
      have hy2:=unhide HY2
      rw[hgy] at hy2
      obtain⟨hr2,hne2⟩:=(show Rep f F' w (.pointer y2) c2∧y2≠none from hy2)
      obtain⟨b2,rfl⟩:∃b2,y2=some b2:=by
       cases y2 with
       | none=>exact absurd rfl hne2
       | some b2=>exact⟨b2,rfl⟩
      have hr2':Rep f F' w2 (.pointer (some b2)) c2:=hr2.move fun j hj _=>⟨((unhide HX2).kept j ((unhide HFM).2 j hj)).2,hj⟩
      cases hgx:Sp.get? xs (.string k) with
      | none =>
       have hy1:=unhide HY1
       rw[hgx] at hy1
       obtain rfl:y1=none:=hy1
       have HL:=hide (mLay_any (o:=(0,s++[k],c2)) (pa:=some ⟨g',0,none⟩) (x:=some b2) (unhide HD3) hlo ⟨rfl,by show 0<3;decide,unhide HTK2,rfl,Or.inr ⟨by show 0≠1;decide,(hr2'.move fun j hj _=>⟨rfl,((unhide HX2).kept j ((unhide HFM).2 j hj)).1⟩).up hf⟩⟩)
       have HJ:=hide (fun w3 (q:∃M3,MkD w3 Mk n M3 (ops++Sp.diffO m s xs ys (ks.take t)++[(0,s++[k],c2)])∧JEx M2 M3 w2 w3)=>unhide HNX _ w3 q (by rw[hgy,hgx]))
       clear hgy hgx HNX HV hy2 hr2 hr2' hne2
       go_wp2_with (fail)
       refine (unhide HL).mono ?_
       rintro e w3 ⟨rfl,k1,k2⟩
       have HOB:=hide (unhide HJ w3 ⟨M2,k1,k2⟩)
       clear k1 k2
       go_wp2_with (fail)
       exact⟨⟨t+1,by omega,by go_num,HOB⟩,by simp[intOf];omega⟩
      | some c1 =>
       have hy1:=unhide HY1
       rw[hgx] at hy1
       obtain⟨hr1,hne1⟩:=(show Rep f F w (.pointer y1) c1∧y1≠none from hy1)
       obtain⟨b1,rfl⟩:∃b1,y1=some b1:=by
        cases y1 with
        | none=>exact absurd rfl hne1
        | some b1=>exact⟨b1,rfl⟩
       have hr1':Rep f F w2 (.pointer (some b1)) c1:=hr1.move fun j hj _=>⟨((unhide HX2).kept j ((unhide HFM).1 j hj)).2,hj⟩
       have HL:=hide (unhide HV k (unhide HKM) c1 c2 hgx hgy M2 w2 _ _ _ _ _ _ ⟨t,rfl⟩ (unhide HD3) (unhide HX2) hr1' hr2' (unhide HTK2))
       have HJ:=hide (fun w3 (q:∃M3,MkD w3 Mk n M3 (ops++Sp.diffO m s xs ys (ks.take t)++m (s++[k]) c1 c2)∧JEx M2 M3 w2 w3)=>unhide HNX _ w3 q (by rw[hgy,hgx]))
       clear hgy hgx HNX HV hy2 hy1 hr2 hr2' hne2 hr1 hr1' hne1
       go_wp2_with (fail)
       refine (unhide HL).mono ?_
       rintro e w3 ⟨rfl,k1⟩
       have HOB:=hide (unhide HJ w3 k1)
       clear k1
       go_wp2_with (fail)
       exact⟨⟨t+1,by omega,by go_num,HOB⟩,by simp[intOf];omega⟩
   ·obtain rfl:t=ks.length:=by omega
    have hlt2:¬ ((ks.length:Nat):Int)<((ks.length:Nat):Int):=by omega
    have HFIN:=hide (show Q (.returned (.tuple #[])) wr from by
     obtain⟨M',h1,h2⟩:=unhide HI
     rw[List.take_length] at h1
     rw[unhide HQ]
     exact⟨rfl,M',h1,(unhide HX1).trans h2⟩)
    clear HV
    go_wp2_with (fail)
    exact bodyPost_end (results_none rfl _ _ _) rfl (unhide HFIN)
end
end
end Go.Proofs.YtdpomdelmdofmaaGreatDoor
