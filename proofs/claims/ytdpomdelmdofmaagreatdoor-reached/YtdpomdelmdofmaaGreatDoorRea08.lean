import Derived.Test.YtdpomdelmdofmaaGreatDoorRea07
import Derived.Deep.RegionHeld3
import Derived.Deep.AppendLies
import Derived.Deep.DrawnRows
import Derived.Deep.RegionLaw
open Go.Proofs.Tryz renaming prog->AI
open Go renaming World->AS,Calls->A3,step_append_lies->CH,Value->Dt
open Go.RowKit.Below renaming heap_alloc->AT,heap_setCell->BY
open Go.World renaming cell?->A1,cell?_of_block->A5,news_of_block->A6,setCell->Bs
open Go.Lib renaming Utf8Tabs->A2
open Go.Value renaming ownBlock->A4,oneCell'->CR
open Go.World.grownBy renaming mk->CL
open Go.RowKit renaming Below->C1
open Or renaming inl->C2,inr->Dp
open Go.DataW renaming put->DD
set_option maxRecDepth 100000
set_option maxHeartbeats 4000000
namespace Go.Proofs.YtdpomdelmdofmaaGreatDoor
open Go.Proofs.Tryz Go.RowKit
variable{f R p0 p1 p2 vb N1:Nat}{t:ByteArray}{lv dp fr:Int}{w0 w:AS}{l r:By}{tw:Bool}
def Zw(f:Nat)(lv:Int)(l:By)(fl:Fl)(e:Ending)(w w':AS)(R:Nat)(t:ByteArray):Prop:=
 (∃d r fl' p,eN f lv l fl=some (d,r,fl')/\e=.returned (.tuple #[.pointer p,.bool true])/\RD w' R t r fl'.1 fl'.2.1 fl'.2.2/\Tr f w.heap.size w' (.pointer p) d) \/
  (eN f lv l fl=none /\ ∃p,e=.returned (.tuple #[.pointer p,.bool false]) /\ ∃r tw dp fr,RD w' R t r tw dp fr)
def Gr(f:Nat):Prop:=∀ (R:Nat) (t:ByteArray) (lv:Int) (l:By) (tw:Bool) (dp fr:Int) (w:AS),RD w R t l tw dp fr->Ai w->NG<=R->l.length<f->0<=lv->lv+f<=5000 ->
 A3 AI 137 #[.pointer (some ⟨R,0,none⟩),.int .i64 lv] w fun e w'=>Ae R w w'/\Zw f lv l (tw,dp,fr) e w w' R t
structure DY(w0:AS)(R p0 p1 p2 vb N1:Nat):Prop where
 r:R<w0.heap.size
 ng:NG<=R
 a0:w0.heap.size<=p0/\p0<N1
 a1:w0.heap.size<=p1/\p1<N1
 a2:w0.heap.size<=p2/\p2<N1
 av:w0.heap.size<=vb/\vb<N1
 d0:p0≠vb
 d1:p1≠vb
 d2:p2≠vb
structure Kh(f R:Nat)(t:ByteArray)(lv:Int)(w0:AS)(p0 p1 p2 vb N1:Nat)(w:AS)(l:By)(s:List To×Fl):Prop where
 rd:RD w R t l s.2.1 s.2.2.1 s.2.2.2
 kept:Ae R w0 w
 laid:Ai w
 b0:w.heap[p0]? = some (.cells #[.pointer (some ⟨R,0,none⟩)] 153 (0,0))
 b1:w.heap[p1]? = some (.cells #[.int .i64 lv] 3 (0,0))
 b2:w.heap[p2]? = some (.cells #[.pointer (some ⟨vb,0,none⟩)] 80 (0,0))
 sz:N1<=w.heap.size
 len:s.1.length+l.length<=2001
 el:∃sl ps,VB w vb 5 n0 [] sl (.map none)/\w.ownsRow N1 80 1 sl ps.length ps/\TrL f N1 sl.ownBlock w ps s.1
def RdJ(R:Nat)(t:ByteArray)(w0:AS)(p2 vb:Nat)(w:AS):Prop:=Ae R w0 w/\(∃l tw dp fr,RD w R t l tw dp fr)/\w.heap[p2]? = some (.cells #[.pointer (some ⟨vb,0,none⟩)] 80 (0,0))
theorem SF:(Tryz.prog.info? 80).map (fun i=>(i.zero,i.size,i.bytes))=some (some (.pointer none),1,8):=by kernel_rfl
theorem Rc(B:DY w0 R p0 p1 p2 vb N1){w2 w3:AS}{s:List To×Fl}(hI:Kh f R t lv w0 p0 p1 p2 vb N1 w l s)(hk2:Ae R w w2)(qe:RD w2 R t r tw dp fr){sl:Dt}{ps:List Dt}(hvb:VB w vb 5 n0 [] sl (.map none))(q6:w.ownsRow N1 80 1 sl ps.length ps)(hal:TrL f N1 sl.ownBlock w ps s.1){p:Option Addr}{o:Obj}{g cap:Nat}(q5:w3.ownsRow N1 80 1 (.slice (some ⟨g,0,none⟩) (ps.length+1) cap) (ps.length+1) (ps++[.pointer p]))(q0:(w2.alloc o).grownBy w3 sl.ownBlock)(qf:sl.ownBlock=some g\/g=w2.heap.size+1):
  Ae R w0 (w3.setCell ⟨vb,5,none⟩ (.slice (some ⟨g,0,none⟩) (ps.length+1) cap))/\RD (w3.setCell ⟨vb,5,none⟩ (.slice (some ⟨g,0,none⟩) (ps.length+1) cap)) R t r tw dp fr /\
  (w3.setCell ⟨vb,5,none⟩ (.slice (some ⟨g,0,none⟩) (ps.length+1) cap)).heap[p2]? = some (.cells #[.pointer (some ⟨vb,0,none⟩)] 80 (0,0)) /\
  ∀ (d:To) (fl:Fl),fl=(tw,dp,fr)->Tr f w.heap.size w2 (.pointer p) d->r.length<l.length->Kh f R t lv w0 p0 p1 p2 vb N1 (w3.setCell ⟨vb,5,none⟩ (.slice (some ⟨g,0,none⟩) (ps.length+1) cap)) r (s.1++[d],fl):=by
 have bR:=B.r;have a0:=B.a0;have a1:=B.a1;have a2:=B.a2;have av:=B.av;have d0:=B.d0;have d1:=B.d1;have d2:=B.d2;have hsz:=hI.sz;have hs2:=hk2.size;have gs:=q0.size;have hsa:(w2.alloc o).heap.size=w2.heap.size+1:=by simp
 -- blocks of w2 that are no elements' row
 have k3:∀k,k<w2.heap.size->some k≠sl.ownBlock->w3.heap[k]? = w2.heap[k]?:=fun k h1 h2=>(q0.block k (by omega) h2).trans (AT w2 o k h1);have q4:∀k,k<N1->some k≠sl.ownBlock:=fun k hk h=>by have:=(Ay q6 k h.symm).2;omega
 have k4:∀k,k<w2.heap.size->some k≠sl.ownBlock->k≠vb->(w3.setCell ⟨vb,5,none⟩ (.slice (some ⟨g,0,none⟩) (ps.length+1) cap)).heap[k]? = w2.heap[k]?:=fun k h1 h2 h3=>(BY _ _ _ _ h3).trans (k3 k h1 h2);have hg:N1<=g:=(Ay q5 g rfl).2;have kx:Ae R w0 (w3.setCell ⟨vb,5,none⟩ (.slice (some ⟨g,0,none⟩) (ps.length+1) cap)):=by
  have hk:=hI.kept.trans hk2;refine⟨q0.os.trans hk.os,q0.tape.trans hk.tape,q0.output.trans hk.output,?_,?_⟩
  ·grind
  ·intro k h1 h2;exact (k4 k (by omega) (q4 k (by omega)) (by omega)).trans (hk.block k h1 h2)
 have q8:RD (w3.setCell ⟨vb,5,none⟩ (.slice (some ⟨g,0,none⟩) (ps.length+1) cap)) R t r tw dp fr:=by
  obtain⟨q,ha,hq⟩:=qe;exact⟨q,ha,(k4 R (RP.lt hq) (q4 R (by omega)) (by omega)).trans hq⟩
 have box:∀ (k:Nat) (ob:Obj),w0.heap.size<=k->k<N1->k≠vb->w.heap[k]? = some ob->(w3.setCell ⟨vb,5,none⟩ (.slice (some ⟨g,0,none⟩) (ps.length+1) cap)).heap[k]? = some ob:=fun k ob h1 h2 h3 h4=>
  (k4 k (by omega) (q4 k h2) h3).trans ((hk2.block k (by omega) (by omega)).trans h4)
 refine⟨kx,q8,box _ _ a2.1 a2.2 d2 hI.b2,?_⟩;rintro d fl rfl q7 qd;refine⟨q8,kx,hI.laid.below ⟨q0.os.trans hk2.os,q0.tape.trans hk2.tape,q0.output.trans hk2.output,by simp[Bs];omega,fun k hk=>(k4 k (by have:=B.ng;omega) (q4 k (by have:=B.ng;omega)) (by have:=B.ng;omega)).trans (hk2.block k (by have:=hI.laid.ng;omega) (by have:=B.ng;omega))⟩,box _ _ a0.1 a0.2 d0 hI.b0,box _ _ a1.1 a1.2 d1 hI.b1,box _ _ a2.1 a2.2 d2 hI.b2,by simp[Bs];omega,by have:=hI.len;grind,?_⟩;refine⟨.slice (some ⟨g,0,none⟩) (ps.length+1) cap,ps++[.pointer p],?_,?_,?_⟩
 ·have h5:=(k3 vb (by omega) (q4 vb (by omega))).trans (hvb.kept (hk2.block vb hvb.lt (by omega)));simp only[VB,Bs,Array.getElem?_modify]
  grind
 ·have:(ps++[Value.pointer p]).length=ps.length+1:=by simp
  rw[this];exact Be q5 (fun g' q9=>by
   have:g'=g:=by simpa[A4] using q9.symm
   subst this;exact BY _ _ _ _ (show g'≠vb by omega))
 ·refine TrL.snoc hal q7 hsz ?_ ?_
  ·intro k h0 h1 h2;have h3:some k≠sl.ownBlock:=fun h=>h1 h.symm;refine⟨(k4 k (by omega) h3 (by omega)).trans (hk2.block k h2 (by omega)),?_⟩;intro h;have qb:g=k:=by simpa[A4] using h
   grind
  ·intro k h1 h2;have h3:some k≠sl.ownBlock:=fun h=>by have:=(Ay q6 k h.symm).1;omega
   refine⟨k4 k h2 h3 (by omega),?_⟩;intro h;have qb:g=k:=by simpa[A4] using h
   grind
theorem Xx(B:DY w0 R p0 p1 p2 vb N1)(hV:Gr f)(hlv:0<=lv)(w:AS)(l:By)(s:List To×Fl)(hI:Kh f R t lv w0 p0 p1 p2 vb N1 w l s)(hl:l.length<f)(hb:lv+f<=4999):
  A3 AI 219 #[.pointer (some ⟨p0,0,none⟩),.pointer (some ⟨p1,0,none⟩),.pointer (some ⟨p2,0,none⟩)] w fun e w'=>
  (∃l' s',CI (eN f (lv+1)) l s=some (l',s')/\e=.returned (.bool true)/\Kh f R t lv w0 p0 p1 p2 vb N1 w' l' s')\/(CI (eN f (lv+1)) l s=none/\e=.returned (.bool false)/\RdJ R t w0 p2 vb w'):=by
 obtain⟨i0,qf,hz0,qh,hz2⟩:=info_parts SF;have c0:w.cell? ⟨p0,0,none⟩=some (.pointer (some ⟨R,0,none⟩)):=by simp[A1,hI.b0]
 have c1:w.cell? ⟨p1,0,none⟩=some (.int .i64 lv):=by simp[A1,hI.b1]
 have qm:lv<=4999:=by omega
 go_enter func219,ntmps219
 go_wp2_with (fail);refine (hV R t (lv+1) l _ _ _ w hI.rd hI.laid B.ng hl (by omega) (by omega)).mono ?_
 rintro e w2 ⟨hk2,hc⟩;clear c0 c1;obtain⟨sl,ps,hvb,q4,hal⟩:=hI.el;have bR:=B.r;have a2:=B.a2;have av:=B.av;have d2:=B.d2;have hsz:=hI.sz;have hb2:w2.heap[p2]? = some (.cells #[.pointer (some ⟨vb,0,none⟩)] 80 (0,0)):=(hk2.block p2 (by omega) (by omega)).trans hI.b2;have q8:=hvb.kept (hk2.block vb hvb.lt (by omega));have q7:=Be q4 (fun g hg=>hk2.block g (Ay q4 g hg).1 (by have:=(Ay q4 g hg).2;omega));have q2:w2.cell? ⟨p2,0,none⟩=some (.pointer (some ⟨vb,0,none⟩)):=by simp[A1,hb2]
 have q5:w2.cell? ⟨vb,5,none⟩=some sl:=by simp[A1,show w2.heap[vb]? = _ from q8]
 have z5:w2.frozen? ⟨vb,5,none⟩=false:=by simp[World.frozen?,show w2.heap[vb]? = _ from q8]
 have hs2:=hk2.size;have qn:=(Array.getElem?_eq_some_iff.1 hb2).1;have qg:=q8.lt;have n2:some p2≠sl.ownBlock:=fun h=>by have:=(Ay q4 _ h.symm).2;omega
 have nv:some vb≠sl.ownBlock:=fun h=>by have:=(Ay q4 _ h.symm).2;omega
 have qi:∀o,(w2.alloc o).cell? ⟨p2,0,none⟩=some (.pointer (some ⟨vb,0,none⟩)):=fun o=>by rw[A5 (w:=w2) (AT w2 o p2 qn)];exact q2
 have qj:∀o,(w2.alloc o).cell? ⟨vb,5,none⟩=some sl:=fun o=>by rw[A5 (w:=w2) (AT w2 o vb qg)];exact q5
 have qk:∀o,(w2.alloc o).frozen? ⟨vb,5,none⟩=false:=fun o=>by rw[World.frozen?_of_block (w:=w2) (AT w2 o vb qg)];exact z5
 have qo:ps.length<=2001:=by have:=hal.length;have:=hI.len;omega
 rcases hc with⟨d,r,fl',p,hs,rfl,qd,qe⟩|⟨hs,p,rfl,r,tw,dp,fr,qd⟩
 ·have HS:=Ab hs;clear hs
  go_wp2_with (fail)
  go_region_law ((refine CH _ (by rfl) _ _ _ (by rfl) N1 80 i0 _ 1 8 underlying106 qf hz0 qh hz2 rfl (by decide) sl ps.length ps (by rfl) ((q7.alloc _).drew) ⟨w2.heap.size,0,none⟩ 1 1 [.pointer p] (by rfl) (by rfl) (A6 (cs:=#[.pointer p]) (t:=80) (fr:=(0,0)) (heap_alloc_new w2 _)) (by simp[CR]) (by decide) (by unfold maxLen;omega) (by omega) (by simp;omega) (w2.heap.size+1) (by simp) ?_;intro g cap w3 q6 q0 q9 hlt;have zz:w3.frozen? ⟨vb,5,none⟩=false:=(q0.frozen_far ⟨vb,5,none⟩ (by simp;omega) nv).trans (qk _);have yy:w3.cell? ⟨vb,5,none⟩=some sl:=(q0.cell_far ⟨vb,5,none⟩ (by simp;omega) nv).trans (qj _);have xx:w3.cell? ⟨p2,0,none⟩=some (.pointer (some ⟨vb,0,none⟩)):=(q0.cell_far ⟨p2,0,none⟩ (by simp;omega) n2).trans (qi _)))
  all_goals (
   have hf:=Rc B hI hk2 qd hvb q4 hal q6 (CL q0.os q0.tape q0.output q0.size q0.block) q9
   have qb:=EC _ _ _ _ _ _ _ (Aa HS)
   go_wp2_with (fail)
   go_ret;refine C2 ⟨r,(s.1++[d],fl'),?_,rfl,hf.2.2.2 d fl' rfl qe qb⟩
   unfold CI;have:=Aa HS
   grind)
 ·have HS:=Ab hs;clear hs
  go_wp2_with (fail)
  go_region_law ((refine CH _ (by rfl) _ _ _ (by rfl) N1 80 i0 _ 1 8 underlying106 qf hz0 qh hz2 rfl (by decide) sl ps.length ps (by rfl) ((q7.alloc _).drew) ⟨w2.heap.size,0,none⟩ 1 1 [.pointer p] (by rfl) (by rfl) (A6 (cs:=#[.pointer p]) (t:=80) (fr:=(0,0)) (heap_alloc_new w2 _)) (by simp[CR]) (by decide) (by unfold maxLen;omega) (by omega) (by simp;omega) (w2.heap.size+1) (by simp) ?_;intro g cap w3 q6 q0 q9 hlt;have zz:w3.frozen? ⟨vb,5,none⟩=false:=(q0.frozen_far ⟨vb,5,none⟩ (by simp;omega) nv).trans (qk _);have yy:w3.cell? ⟨vb,5,none⟩=some sl:=(q0.cell_far ⟨vb,5,none⟩ (by simp;omega) nv).trans (qj _);have xx:w3.cell? ⟨p2,0,none⟩=some (.pointer (some ⟨vb,0,none⟩)):=(q0.cell_far ⟨p2,0,none⟩ (by simp;omega) n2).trans (qi _)))
  all_goals (
   have hf:=Rc B hI hk2 qd hvb q4 hal q6 (CL q0.os q0.tape q0.output q0.size q0.block) q9
   go_wp2_with (fail)
   go_ret;refine Dp ⟨?_,rfl,hf.1,⟨r,tw,dp,fr,hf.2.1⟩,hf.2.2.1⟩
   unfold CI;have:=Aa HS
   grind)
def aW(f:Nat)(lv:Int)(l:By)(fl:Fl)(e:Ending)(w w':AS)(R:Nat)(t:ByteArray):Prop:=
 (∃es r fl' p,Bn 91 93 (CI (eN f (lv+1))) l ([],fl)=some (r,(es,fl'))/\e=.returned (.tuple #[.pointer p,.bool true])/\RD w' R t r fl'.1 fl'.2.1 fl'.2.2/\Tr (f+1) w.heap.size w' (.pointer p) (Af es)) \/
  (Bn 91 93 (CI (eN f (lv+1))) l ([],fl)=none /\ ∃p,e=.returned (.tuple #[.pointer p,.bool false]) /\ ∃r tw dp fr,RD w' R t r tw dp fr)
theorem J3(f:Nat)(lv:Int)(l:By)(s:List To×Fl)(l':By)(s':List To×Fl)(h:CI (eN f lv) l s=some (l',s')):l'.length<l.length:=by
 unfold CI at h;split at h
 ·cases h
 ·rename_i v r fl hv;have:=EC _ _ _ _ _ _ _ hv
  grind
theorem aU(B:DY w0 R p0 p1 p2 vb N1)(hV:Gr f)(hlv:0<=lv)(hb:lv+f<=4999):
  Li 219 #[.pointer (some ⟨p0,0,none⟩),.pointer (some ⟨p1,0,none⟩),.pointer (some ⟨p2,0,none⟩)] R t f (CI (eN f (lv+1))) (Kh f R t lv w0 p0 p1 p2 vb N1) (RdJ R t w0 p2 vb) where
 rd:=fun w l s h=>⟨_,_,_,h.rd⟩
 move:=fun w w' l l' s tw dp fr h h1 h2 hk hl=>by
  obtain⟨_,_,e1,e2,e3⟩:=h.rd.uniq h1;have bR:=B.r;have hsz:=h.sz;have a0:=B.a0;have a1:=B.a1;have a2:=B.a2;have av:=B.av;refine⟨by grind,h.kept.trans hk,h.laid.kept hk B.ng,(hk.block p0 (by omega) (by omega)).trans h.b0,(hk.block p1 (by omega) (by omega)).trans h.b1,(hk.block p2 (by omega) (by omega)).trans h.b2,by have:=hk.size;omega,by have:=h.len;omega,?_⟩;obtain⟨sl,ps,hvb,q0,hal⟩:=h.el;refine⟨sl,ps,hvb.kept (hk.block vb hvb.lt (by omega)),Be q0 (fun g hg=>hk.block g (Ay q0 g hg).1 (by have:=(Ay q0 g hg).2;omega)),hal.move fun k h3 h5 h4=>⟨hk.block k h4 (by omega),h5⟩⟩
 out:=fun w l s h=>⟨h.kept,⟨_,_,_,_,h.rd⟩,h.b2⟩
 len:=fun l s l' s' h=>J3 _ _ _ _ _ _ h
 call:=fun w l s h hl=>Xx B hV hlv w l s h hl hb
theorem IC{B B' e n:Nat}{v:Dt}{xs:List Dt}(h:w.ownsRow B e 1 v n xs)(hB:B'<=B):w.ownsRow B' e 1 v n xs:=
 ⟨h.1,h.2.imp id fun ⟨g,cap,cur,a,b,c⟩=>⟨g,cap,cur,a,Nat.le_trans hB b,c⟩⟩
theorem four(w:AS)(o0 o1 o2 o3:Obj):((((w.alloc o0).alloc o1).alloc o2).alloc o3).heap[w.heap.size]? = some o0/\((((w.alloc o0).alloc o1).alloc o2).alloc o3).heap[w.heap.size+1]? = some o1 /\
  ((((w.alloc o0).alloc o1).alloc o2).alloc o3).heap[w.heap.size+1+1]? = some o2/\((((w.alloc o0).alloc o1).alloc o2).alloc o3).heap[w.heap.size+1+1+1]? = some o3:=by
 have h (k:Nat):((((w.alloc o0).alloc o1).alloc o2).alloc o3).heap[k]? = ((((w.heap.push o0).push o1).push o2).push o3)[k]?:=rfl
 grind
theorem Zq(B:DY w0 R p0 p1 p2 vb N1){s:List To×Fl}(h:Kh f R t lv w0 p0 p1 p2 vb N1 w l s):
  Tr (f+1) w0.heap.size w (.pointer (some ⟨vb,0,none⟩)) (Af s.1):=by
 have av:=B.av;obtain⟨sl,ps,hvb,q0,hal⟩:=h.el;exact hal.arr av.1 av.2 hvb (IC q0 (Nat.zero_le _)) fun g hg=>(Ay q0 g hg).2
theorem Vk(hV:Gr f)(h:RD w R t l tw dp fr)(hT:Ai w)(hR:NG<=R)(hl:l.length<=f)(hlv:0<=lv)(hb:lv+f<=4999):
  A3 AI 181 #[.pointer (some ⟨R,0,none⟩),.int .i64 lv] w fun e w'=>Ae R w w'/\aW f lv l (tw,dp,fr) e w w' R t:=by
 have q5:=h.lt;have q4:l.length<=2000:=by obtain⟨p,ha,_⟩:=h;have:=ha.len;have:=ha.small;omega
 have B:DY w R w.heap.size (w.heap.size+1) (w.heap.size+1+1+1) (w.heap.size+1+1) (w.heap.size+4):=⟨q5,hR,by omega,by omega,by omega,by omega,by omega,by omega,by omega⟩
 have hI:Hid (∀W,W=((((w.alloc (.cells #[.pointer (some ⟨R,0,none⟩)] 153)).alloc (.cells #[.int .i64 lv] 3)).alloc (.cells #[.int .i64 5,.bool false,.string ⟨#[]⟩,.int .i64 0,.string ⟨#[]⟩,.slice none 0 0,.map none] 111)).alloc (.cells #[.pointer (some ⟨w.heap.size+1+1,0,none⟩)] 80)) ->
   Kh f R t lv w w.heap.size (w.heap.size+1) (w.heap.size+1+1+1) (w.heap.size+1+1) (w.heap.size+4) W l ([],(tw,dp,fr))):=by
  rintro W rfl;have hf:=four w (.cells #[.pointer (some ⟨R,0,none⟩)] 153) (.cells #[.int .i64 lv] 3) (.cells #[.int .i64 5,.bool false,.string ⟨#[]⟩,.int .i64 0,.string ⟨#[]⟩,.slice none 0 0,.map none] 111) (.cells #[.pointer (some ⟨w.heap.size+1+1,0,none⟩)] 80);have hk:=((((Ae.refl R w).alloc (.cells #[.pointer (some ⟨R,0,none⟩)] 153)).alloc (.cells #[.int .i64 lv] 3)).alloc (.cells #[.int .i64 5,.bool false,.string ⟨#[]⟩,.int .i64 0,.string ⟨#[]⟩,.slice none 0 0,.map none] 111)).alloc (.cells #[.pointer (some ⟨w.heap.size+1+1,0,none⟩)] 80);refine⟨(((h.alloc _).alloc _).alloc _).alloc _,hk,hT.kept hk hR,hf.1,hf.2.1,hf.2.2.2,by simp,by simp;omega,.slice none 0 0,[],hf.2.2.1,World.ownsRow_nil _ _ _ _,TrL.nil _ _ _ _⟩
 have K:=aU (t:=t) B hV hlv hb;clear hT
 go_enter func181,ntmps181
 go_wp2_with (fail);refine (Wt _ _ _ 91 93 91 93 rfl rfl R t f _ _ _ K _ l ([],(tw,dp,fr)) (Aa hI _ rfl) hl).mono ?_
 rintro e w5 hc;rcases hc with⟨l',s',hs,rfl,q0⟩|⟨hs,rfl,hJ⟩
 ·have HS:=Ab hs;have hb2:=q0.b2;have q2:w5.cell? ⟨w.heap.size+1+1+1,0,none⟩=some (.pointer (some ⟨w.heap.size+1+1,0,none⟩)):=by simp[A1,hb2]
  have HI:=Ab q0;clear hs q0 hb2 hI
  go_wp2_with (fail)
  go_ret2
  refine⟨(Aa HI).kept,C2 ⟨s'.1,l',s'.2,_,Aa HS,rfl,(Aa HI).rd,Zq B (Aa HI)⟩⟩
 ·have HS:=Ab hs;have hb2:=hJ.2.2;have q2:w5.cell? ⟨w.heap.size+1+1+1,0,none⟩=some (.pointer (some ⟨w.heap.size+1+1,0,none⟩)):=by simp[A1,hb2]
  have HJ:=Ab hJ;clear hs hJ hb2 hI
  go_wp2_with (fail)
  go_ret2
  exact⟨(Aa HJ).1,Dp ⟨Aa HS,_,rfl,(Aa HJ).2.1⟩⟩
structure GD(f R:Nat)(t:ByteArray)(lv:Int)(w0:AS)(p0 p1 p2 vb m N1:Nat)(w:AS)(l:By)(s:To×Fl):Prop where
 rd:RD w R t l s.2.1 s.2.2.1 s.2.2.2
 kept:Ae R w0 w
 laid:Ai w
 b0:w.heap[p0]? = some (.cells #[.pointer (some ⟨R,0,none⟩)] 153 (0,0))
 b1:w.heap[p1]? = some (.cells #[.int .i64 lv] 3 (0,0))
 b2:w.heap[p2]? = some (.cells #[.pointer (some ⟨vb,0,none⟩)] 80 (0,0))
 sz:N1<=w.heap.size
 bm:w0.heap.size<=m/\m<N1/\m≠p0/\m≠p1/\m≠p2/\m≠vb
 hvb:VB w vb 6 n0 [] (.slice none 0 0) (.map (some m))
 el:∃n D es,n+l.length<=2001/\s.1=Ap es/\w.ownsMap AI 9 RV m n (.map D)/\TrM f N1 w D es
theorem Ok{m:Nat}(B:DY w0 R p0 p1 p2 vb N1){w':AS}{l':By}{s:To}{fl fl':Fl}(h:GD f R t lv w0 p0 p1 p2 vb m N1 w l (s,fl))(hr:RD w' R t l' fl'.1 fl'.2.1 fl'.2.2)(hk:Ae R w w')(hl:l'.length<=l.length):
  GD f R t lv w0 p0 p1 p2 vb m N1 w' l' (s,fl'):=by
 have bR:=B.r;have hsz:=h.sz;have a0:=B.a0;have a1:=B.a1;have a2:=B.a2;have av:=B.av;have bm:=h.bm;refine⟨hr,h.kept.trans hk,h.laid.kept hk B.ng,(hk.block p0 (by omega) (by omega)).trans h.b0,(hk.block p1 (by omega) (by omega)).trans h.b1,(hk.block p2 (by omega) (by omega)).trans h.b2,by have:=hk.size;omega,bm,h.hvb.kept (hk.block vb h.hvb.lt (by omega)),?_⟩;obtain⟨n,D,es,hn,he,ho,hp⟩:=h.el;refine⟨n,D,es,by omega,he,An ho (hk.block m (Bg ho) (by omega)),hp.move fun k h3 h4=>hk.block k h4 (by omega)⟩
theorem Jj{m:Nat}(B:DY w0 R p0 p1 p2 vb N1){w5 w6:AS}{s:To×Fl}(hI:GD f R t lv w0 p0 p1 p2 vb m N1 w l s)(hk:Ae R w w5)(qb:RD w5 R t r tw dp fr){n:Nat}{D:List (Lit×DataW Dt)}{es:List (Lit×To)}(hn:n+l.length<=2001)(he:s.1=Ap es)(hp:TrM f N1 w D es){x:Dt}{k:Lit}(q6:w6.ownsMap AI 9 RV m (n+1) (DD (.map D) k (.held x)))(q0:w5.grownBy w6 (some m)):
  Ae R w0 w6/\RD w6 R t r tw dp fr/\w6.heap[p2]? = some (.cells #[.pointer (some ⟨vb,0,none⟩)] 80 (0,0)) /\
  ∀ (d:To),Tr f w.heap.size w5 x d->r.length<l.length->GD f R t lv w0 p0 p1 p2 vb m N1 w6 r (DD s.1 k d,(tw,dp,fr)):=by
 have bR:=B.r;have hsz:=hI.sz;have a0:=B.a0;have a1:=B.a1;have a2:=B.a2;have av:=B.av;have bm:=hI.bm;have qd:=hk.size;have gs:=q0.size;have k6:∀j,j<w5.heap.size->j≠m->w6.heap[j]? = w5.heap[j]?:=fun j h1 h2=>q0.block j h1 (by grind);have kx:Ae R w0 w6:=by
  have q4:=hI.kept.trans hk;refine⟨q0.os.trans q4.os,q0.tape.trans q4.tape,q0.output.trans q4.output,by omega,fun j h1 h2=>(k6 j (by omega) (by omega)).trans (q4.block j h1 h2)⟩
 have q7:RD w6 R t r tw dp fr:=by
  obtain⟨q,ha,hq⟩:=qb;exact⟨q,ha,(k6 R (RP.lt hq) (by omega)).trans hq⟩
 have box:∀ (j:Nat) (ob:Obj),w0.heap.size<=j->j<N1->j≠m->w.heap[j]? = some ob->w6.heap[j]? = some ob:=fun j ob h1 h2 h3 h4=>
  (k6 j (by omega) h3).trans ((hk.block j (by omega) (by omega)).trans h4)
 refine⟨kx,q7,box _ _ a2.1 a2.2 (by omega) hI.b2,?_⟩;intro d q5 q8;refine⟨q7,kx,hI.laid.below ⟨q0.os.trans hk.os,q0.tape.trans hk.tape,q0.output.trans hk.output,by omega,fun j hj=>(k6 j (by have:=hI.laid.ng;omega) (by have:=B.ng;omega)).trans (hk.block j (by have:=hI.laid.ng;omega) (by have:=B.ng;omega))⟩,
  box _ _ a0.1 a0.2 (by omega) hI.b0,box _ _ a1.1 a1.2 (by omega) hI.b1,box _ _ a2.1 a2.2 (by omega) hI.b2,by omega,bm,box _ _ av.1 av.2 (by omega) hI.hvb,?_⟩
 obtain⟨D',es',e1,e2,q9⟩:=hp.put (k:=k) (w6:=w6) q5 hsz (fun j h1 h2=>(k6 j (by omega) (by omega)).trans (hk.block j h2 (by omega))) (by grind);refine⟨n+1,D',es',by omega,?_,?_,q9⟩
 ·rw[he];exact e2
 grind
theorem Q8(f:Nat):∀ (l s r:By),C5 f l=some (s,r)->s.length+4*r.length<=4*l.length:=by
 induction f with
 | zero=>intro l s r h;cases h
 | succ f ih=>
  intro l s r h;unfold C5 at h;split at h
  ·grind
  ·split at h
   ·cases h
   ·rename_i c r1 hc;have a:=LM hc;have b:=LI (c:Int)
    grind
theorem ZK{s:By}(h:gG l=some (s,r)):s.length<=4*l.length:=by
 unfold gG at h;split at h
 ·have:=Q8 _ _ _ _ h;grind
 ·cases h
theorem cO(h:RD w R t l tw dp fr)(hT:Ai w)(hR:NG<=R)(k1:eA l 92=false)(c n:Nat)(hd:fG l=(c,n))(e1:decide ((c:Int)<32)=true):
  A3 AI 220 #[.pointer (some ⟨R,0,none⟩)] w fun e w'=>Ae R w w'/\EH (fS l) e w' R t tw dp fr:=by
 have K1:=Ab k1;have hn:n<=l.length:=by have:=IR l;grind
 have HE:Hid (fS l=none):=by
  unfold Hid fS
  grind
 clear k1
 go_enter func220,ntmps220
 go_wp2_with (fail);refine (Bk 92 _ rfl h (Aa K1)).mono ?_
 rintro e w1 ⟨rfl,q5,q0⟩;have q4:=hT.kept q0 hR;obtain⟨q,ha,hq⟩:=q5;have c0:=hq.c0;have c1:=hq.c1;have b2:(q:Int)<=(t.size:Int):=by have:=ha.le;omega
 have b3:(q:Int)+n<=2000:=by have:=ha.le;have:=ha.small;have:=ha.len;omega
 have cD:∀W:AS,A2 1 2 W->A3 AI 230 #[.string (t.extract q t.size)] W fun e w'=>e=.returned (.tuple #[.int .i32 c,.int .i64 n])/\C1 W.heap.size W w':=fun W hW=>by
  have:=Tryz.utf8_DecodeRuneInString (t.extract q t.size) W hW;rw[La,ha.eq,hd] at this;exact this
 have CD:=Ab cD;have HQ:=Ab hq;have HA:=Ab ha;have HD:=Ab hd;clear hq ha h hT cD hd
 go_wp2_with (fail)
 go_region_with (go_at_call 230;refine (Aa CD _ ?_).mono ?_;exact q4.utf8;rintro e w' ⟨rfl,hb⟩)
 all_goals (
  replace hb:C1 w1.heap.size w1 w':=⟨hb.os,hb.tape,hb.output,hb.size,hb.block⟩
  go_wp2_with (fail)
  go_ret2
  exact⟨q0.trans (Ae.of_below hb),Dp ⟨Aa HE,0,l,rfl,⟨q,Aa HA,(Aa HQ).kept (Ae.of_below (X:=R+1) hb) (by omega)⟩⟩⟩)
theorem cN(h:RD w R t l tw dp fr)(hT:Ai w)(hR:NG<=R)(k1:eA l 92=false)(c n:Nat)(hd:fG l=(c,n))(e1:decide ((c:Int)<32)=false)(e2:((c:Int)==65533)=false):
  A3 AI 220 #[.pointer (some ⟨R,0,none⟩)] w fun e w'=>Ae R w w'/\EH (fS l) e w' R t tw dp fr:=by
 have K1:=Ab k1;have hn:n<=l.length:=by have:=IR l;grind
 have HE:Hid (fS l=some (c,l.drop n)):=by
  unfold Hid fS
  grind
 clear k1
 go_enter func220,ntmps220
 go_wp2_with (fail);refine (Bk 92 _ rfl h (Aa K1)).mono ?_
 rintro e w1 ⟨rfl,q7,q5⟩;have q6:=hT.kept q5 hR;obtain⟨q,ha,hq⟩:=q7;have c0:=hq.c0;have c1:=hq.c1;have b2:(q:Int)<=(t.size:Int):=by have:=ha.le;omega
 have b3:(q:Int)+n<=2000:=by have:=ha.le;have:=ha.small;have:=ha.len;omega
 have cD:∀W:AS,A2 1 2 W->A3 AI 230 #[.string (t.extract q t.size)] W fun e w'=>e=.returned (.tuple #[.int .i32 c,.int .i64 n])/\C1 W.heap.size W w':=fun W hW=>by
  have:=Tryz.utf8_DecodeRuneInString (t.extract q t.size) W hW;rw[La,ha.eq,hd] at this;exact this
 have CD:=Ab cD;have HQ:=Ab hq;have HA:=Ab ha;have HD:=Ab hd;clear hq ha h hT cD hd
 go_wp2_with (fail)
 go_region_with (go_at_call 230;refine (Aa CD _ ?_).mono ?_;exact q6.utf8;rintro e w' ⟨rfl,hb⟩)
 all_goals (
  replace hb:C1 w1.heap.size w1 w':=⟨hb.os,hb.tape,hb.output,hb.size,hb.block⟩
  have q4:RP w' R t q tw dp fr:=(Aa HQ).kept (Ae.of_below (X:=R+1) hb) (by omega);have d1:=q4.c1;have f1:=q4.fz 1;have q0:RD (w'.setCell ⟨R,1,none⟩ (.int .i64 ((q:Int)+n))) R t (l.drop n) tw dp fr:=⟨q+n,(Aa HA).add n hn,q4.set1 (q+n)⟩
  have HF:=Ab q0;clear q4 q0
  go_wp2_with (fail)
  go_ret2
  exact⟨(q5.trans (Ae.of_below hb)).setCell rfl _,C2 ⟨c,l.drop n,Aa HE,rfl,Aa HF⟩⟩)
theorem cM(h:RD w R t l tw dp fr)(hT:Ai w)(hR:NG<=R)(k1:eA l 92=false)(c n:Nat)(hd:fG l=(c,n))(e1:decide ((c:Int)<32)=false)(e2:((c:Int)==65533)=true)(e3:decide ((n:Int)<2)=true):
  A3 AI 220 #[.pointer (some ⟨R,0,none⟩)] w fun e w'=>Ae R w w'/\EH (fS l) e w' R t tw dp fr:=by
 have K1:=Ab k1;have hn:n<=l.length:=by have:=IR l;grind
 have HE:Hid (fS l=none):=by
  unfold Hid fS
  grind
 clear k1
 go_enter func220,ntmps220
 go_wp2_with (fail);refine (Bk 92 _ rfl h (Aa K1)).mono ?_
 rintro e w1 ⟨rfl,q5,q0⟩;have q4:=hT.kept q0 hR;obtain⟨q,ha,hq⟩:=q5;have c0:=hq.c0;have c1:=hq.c1;have b2:(q:Int)<=(t.size:Int):=by have:=ha.le;omega
 have b3:(q:Int)+n<=2000:=by have:=ha.le;have:=ha.small;have:=ha.len;omega
 have cD:∀W:AS,A2 1 2 W->A3 AI 230 #[.string (t.extract q t.size)] W fun e w'=>e=.returned (.tuple #[.int .i32 c,.int .i64 n])/\C1 W.heap.size W w':=fun W hW=>by
  have:=Tryz.utf8_DecodeRuneInString (t.extract q t.size) W hW;rw[La,ha.eq,hd] at this;exact this
 have CD:=Ab cD;have HQ:=Ab hq;have HA:=Ab ha;have HD:=Ab hd;clear hq ha h hT cD hd
 go_wp2_with (fail)
 go_region_with (go_at_call 230;refine (Aa CD _ ?_).mono ?_;exact q4.utf8;rintro e w' ⟨rfl,hb⟩)
 all_goals (
  replace hb:C1 w1.heap.size w1 w':=⟨hb.os,hb.tape,hb.output,hb.size,hb.block⟩
  go_wp2_with (fail)
  go_ret2
  exact⟨q0.trans (Ae.of_below hb),Dp ⟨Aa HE,0,l,rfl,⟨q,Aa HA,(Aa HQ).kept (Ae.of_below (X:=R+1) hb) (by omega)⟩⟩⟩)
theorem cK(h:RD w R t l tw dp fr)(hT:Ai w)(hR:NG<=R)(k1:eA l 92=false)(c n:Nat)(hd:fG l=(c,n))(e1:decide ((c:Int)<32)=false)(e2:((c:Int)==65533)=true)(e3:decide ((n:Int)<2)=false):
  A3 AI 220 #[.pointer (some ⟨R,0,none⟩)] w fun e w'=>Ae R w w'/\EH (fS l) e w' R t tw dp fr:=by
 have K1:=Ab k1;have hn:n<=l.length:=by have:=IR l;grind
 have HE:Hid (fS l=some (c,l.drop n)):=by
  unfold Hid fS
  grind
 clear k1
 go_enter func220,ntmps220
 go_wp2_with (fail);refine (Bk 92 _ rfl h (Aa K1)).mono ?_
 rintro e w1 ⟨rfl,q7,q5⟩;have q6:=hT.kept q5 hR;obtain⟨q,ha,hq⟩:=q7;have c0:=hq.c0;have c1:=hq.c1;have b2:(q:Int)<=(t.size:Int):=by have:=ha.le;omega
 have b3:(q:Int)+n<=2000:=by have:=ha.le;have:=ha.small;have:=ha.len;omega
 have cD:∀W:AS,A2 1 2 W->A3 AI 230 #[.string (t.extract q t.size)] W fun e w'=>e=.returned (.tuple #[.int .i32 c,.int .i64 n])/\C1 W.heap.size W w':=fun W hW=>by
  have:=Tryz.utf8_DecodeRuneInString (t.extract q t.size) W hW;rw[La,ha.eq,hd] at this;exact this
 have CD:=Ab cD;have HQ:=Ab hq;have HA:=Ab ha;have HD:=Ab hd;clear hq ha h hT cD hd
 go_wp2_with (fail)
 go_region_with (go_at_call 230;refine (Aa CD _ ?_).mono ?_;exact q6.utf8;rintro e w' ⟨rfl,hb⟩)
 all_goals (
  replace hb:C1 w1.heap.size w1 w':=⟨hb.os,hb.tape,hb.output,hb.size,hb.block⟩
  have q4:RP w' R t q tw dp fr:=(Aa HQ).kept (Ae.of_below (X:=R+1) hb) (by omega);have d1:=q4.c1;have f1:=q4.fz 1;have q0:RD (w'.setCell ⟨R,1,none⟩ (.int .i64 ((q:Int)+n))) R t (l.drop n) tw dp fr:=⟨q+n,(Aa HA).add n hn,q4.set1 (q+n)⟩
  have HF:=Ab q0;clear q4 q0
  go_wp2_with (fail)
  go_ret2
  exact⟨(q5.trans (Ae.of_below hb)).setCell rfl _,C2 ⟨c,l.drop n,Aa HE,rfl,Aa HF⟩⟩)
theorem Nt(h:RD w R t l tw dp fr)(hT:Ai w)(hR:NG<=R):
  A3 AI 220 #[.pointer (some ⟨R,0,none⟩)] w fun e w'=>Ae R w w'/\EH (fS l) e w' R t tw dp fr:=by
 by_cases k1:eA l 92=true
 ·have hE:Hid (fS l=gZ l.tail):=by unfold Hid fS;grind
  have K1:=Ab k1;clear k1
  go_enter func220,ntmps220
  go_wp2_with (fail);refine (AG 92 _ rfl h (Aa K1)).mono ?_
  rintro e w1 ⟨rfl,q5,q0⟩
  go_wp2_with (fail);refine (R8 q5 (hT.kept q0 hR) hR).mono ?_
  rintro e w2 ⟨hk2,hc⟩;rcases hc with⟨n,l',hs,rfl,q4⟩|⟨hs,n,l',rfl,q4⟩
  ·have HS:=Ab hs;clear hs
   go_wp2_with (fail)
   go_ret2
   exact⟨q0.trans hk2,C2 ⟨n,l',by rw[Aa hE];exact Aa HS,rfl,q4⟩⟩
  ·have HS:=Ab hs;clear hs
   go_wp2_with (fail)
   go_ret2
   exact⟨q0.trans hk2,Dp ⟨by rw[Aa hE];exact Aa HS,n,l',rfl,q4⟩⟩
 ·have k1:=A7 k1;obtain⟨c,n,hd⟩:∃c n,fG l=(c,n):=⟨_,_,rfl⟩
  by_cases h1:c<32
  ·exact cO h hT hR k1 c n hd (by simp;omega)
  ·by_cases h2:c=65533
   ·by_cases h3:n<2
    ·exact cM h hT hR k1 c n hd (by simp;omega) (by simp;omega) (by simp;omega)
    ·exact cK h hT hR k1 c n hd (by simp;omega) (by simp;omega) (by simp;omega)
   ·exact cN h hT hR k1 c n hd (by simp;omega) (by simp;omega)
end Go.Proofs.YtdpomdelmdofmaaGreatDoor
