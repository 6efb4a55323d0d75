import Derived.Test.YtdpomdelmdofmaaGreatDoorP02
open Go.Value renaming ownBlock->AI,oneCell'->A1
open Go renaming World->AS
open Go.World renaming setCell->AT,cell?->A2
set_option maxRecDepth 100000
set_option maxHeartbeats 4000000
namespace Go.Proofs.YtdpomdelmdofmaaGreatDoor
open Go.Proofs.Tryz Go.RowKit
def jO(f:Nat)(lv:Int)(l:By)(fl:Fl)(e:Ending)(w w':AS)(R:Nat)(t:ByteArray):Prop:=
 (∃d r fl' p,qL f lv l fl=some (d,r,fl')/\e=.returned (.tuple #[.pointer p,.bool true])/\RD w' R t r fl'.1 fl'.2.1 fl'.2.2/\Tr f w.1.size w' (.pointer p) d)\/
  (qL f lv l fl=none/\∃p,e=.returned (.tuple #[.pointer p,.bool false])/\∃r tw dp fr,RD w' R t r tw dp fr)
def Hs(f:Nat):Prop:=∀(R:Nat) (t:ByteArray) (lv:Int) (l:By) (tw:Bool) (dp fr:Int) (w:AS),RD w R t l tw dp fr->Aj w->NG<=R->l.length<f->0<=lv->lv+f<=5000 ->
 Calls Tryz.prog 137 #[PtB R,InB lv] w λe w'=>Ac R w w'/\jO f lv l (tw,dp,fr) e w w' R t
structure ED(w0:AS)(R p0 p1 p2 vb N1:Nat):Prop where
 r:R<w0.1.size
 ng:NG<=R
 a0:w0.1.size<=p0/\p0<N1
 a1:w0.1.size<=p1/\p1<N1
 a2:w0.1.size<=p2/\p2<N1
 av:w0.1.size<=vb/\vb<N1
 d0:p0≠vb
 d1:p1≠vb
 d2:p2≠vb
structure LD(f R:Nat)(t:ByteArray)(lv:Int)(w0:AS)(p0 p1 p2 vb N1:Nat)(w:AS)(l:By)(s:List pL×Fl):Prop where
 rd:RD w R t l s.2.1 s.2.2.1 s.2.2.2
 kept:Ac R w0 w
 laid:Aj w
 b0:w.1[p0]?=some (.cells #[PtB R] 153 (0,0))
 b1:w.1[p1]?=some (.cells #[InB lv] 3 (0,0))
 b2:w.1[p2]?=some (.cells #[PtB vb] 80 (0,0))
 sz:N1<=w.1.size
 len:s.1.length+l.length<=2001
 el:∃sl ps,VB w vb 5 n0 [] sl (.map none)/\w.ownsRow N1 80 1 sl ps.length ps/\TrL f N1 sl.ownBlock w ps s.1
def RdJ(R:Nat)(t:ByteArray)(w0:AS)(p2 vb:Nat)(w:AS):Prop:=Ac R w0 w/\(∃l tw dp fr,RD w R t l tw dp fr)/\w.1[p2]?=some (.cells #[PtB vb] 80 (0,0))
theorem Ve:(Tryz.prog.info? 80).map (λi=>(i.zero,i.size,i.bytes))=some (some (.pointer none),1,8):=δ
theorem Tv{f R:Nat}{t:ByteArray}{lv:Int}{w0:AS}{p0 p1 p2 vb N1:Nat}(B:ED w0 R p0 p1 p2 vb N1){w w2 w3:AS}{l r:By}{s:List pL×Fl}(hI:LD f R t lv w0 p0 p1 p2 vb N1 w l s)(hk2:Ac R w w2)
  {tw:Bool}{dp fr:Int}(qe:RD w2 R t r tw dp fr){sl:Value}{ps:List Value}(hvb:VB w vb 5 n0 [] sl (.map none)) (q6:w.ownsRow N1 80 1 sl ps.length ps) (hal:TrL f N1 sl.ownBlock w ps s.1)
  {p:Option Addr}{o:Obj}{g cap:Nat}(q5:w3.ownsRow N1 80 1 (SlB g (ps.length+1) cap) (ps.length+1) (ps++[.pointer p])) (q0:(w2.alloc o).grownBy w3 sl.ownBlock) (qf:sl.ownBlock=some g\/g=w2.1.size+1):
  Ac R w0 (w3.setCell ⟨vb,5,none⟩ (SlB g (ps.length+1) cap))/\RD (w3.setCell ⟨vb,5,none⟩ (SlB g (ps.length+1) cap)) R t r tw dp fr/\
  (w3.setCell ⟨vb,5,none⟩ (SlB g (ps.length+1) cap)).1[p2]?=some (.cells #[PtB vb] 80 (0,0))/\
  ∀(d:pL) (fl:Fl),fl=(tw,dp,fr)->Tr f w.1.size w2 (.pointer p) d->r.length<l.length->LD f R t lv w0 p0 p1 p2 vb N1 (w3.setCell ⟨vb,5,none⟩ (SlB g (ps.length+1) cap)) r (s.1++[d],fl):=by
 have bR:=B.r;have a0:=B.a0;have a1:=B.a1;have a2:=B.a2;have av:=B.av;have d0:=B.d0;have d1:=B.d1;have d2:=B.d2;have hsz:=hI.sz;have hs2:=hk2.size;have gs:=q0.size;have qg:(w2.alloc o).1.size=w2.1.size+1:=φ
 -- blocks of w2 that are no elements' row
 have k3:∀k,k<w2.1.size->some k≠sl.ownBlock->w3.1[k]?=w2.1[k]?:=λk h1 h2=>(q0.block k ζ h2).trans (Ä w2 o k h1);have q4:∀k,k<N1->some k≠sl.ownBlock:=λk hk h=>by have:=(Af q6 k h.symm).2;omega
 have k4:∀k,k<w2.1.size->some k≠sl.ownBlock->k≠vb->(w3.setCell ⟨vb,5,none⟩ (SlB g (ps.length+1) cap)).1[k]?=w2.1[k]?:=λk h1 h2 h3=>(Æ _ _ _ _ h3).trans (k3 k h1 h2);have hg:N1<=g:=(Af q5 g rfl).2;have kx:Ac R w0 (w3.setCell ⟨vb,5,none⟩ (SlB g (ps.length+1) cap)):=by
  have hk:=hI.kept.trans hk2;refine⟨q0.os.trans hk.os,q0.tape.trans hk.tape,q0.output.trans hk.output,?_,?_⟩
  .grind
  .intro k h1 h2;exact(k4 k ζ (q4 k ζ) ζ).trans (hk.block k h1 h2)
 have q8:RD (w3.setCell ⟨vb,5,none⟩ (SlB g (ps.length+1) cap)) R t r tw dp fr:=by
  obtain⟨q,ha,hq⟩:=qe;exact⟨q,ha,(k4 R (RP.lt hq) (q4 R ζ) ζ).trans hq⟩
 have box:∀(k:Nat) (ob:Obj),w0.1.size<=k->k<N1->k≠vb->w.1[k]?=some ob->(w3.setCell ⟨vb,5,none⟩ (SlB g (ps.length+1) cap)).1[k]?=some ob:=λk ob h1 h2 h3 h4=>
  (k4 k ζ (q4 k h2) h3).trans ((hk2.block k ζ ζ).trans h4)
 refine⟨kx,q8,box _ _ a2.1 a2.2 d2 hI.b2,?_⟩;rintro d fl rfl q7 qd;refine⟨q8,kx,hI.laid.below ⟨q0.os.trans hk2.os,q0.tape.trans hk2.tape,q0.output.trans hk2.output,by simp[AT];omega,λk hk=>(k4 k (by have:=B.ng;omega) (q4 k (by have:=B.ng;omega)) (by have:=B.ng;omega)).trans (hk2.block k (by have:=hI.laid.ng;omega) (by have:=B.ng;omega))⟩,box _ _ a0.1 a0.2 d0 hI.b0,box _ _ a1.1 a1.2 d1 hI.b1,box _ _ a2.1 a2.2 d2 hI.b2,by simp[AT];omega,by have:=hI.len;grind,?_⟩;refine⟨SlB g (ps.length+1) cap,ps++[.pointer p],?_,?_,?_⟩
 .have h5:=(k3 vb ζ (q4 vb ζ)).trans (hvb.kept (hk2.block vb hvb.lt ζ));simp only[VB,AT,ğ];grind
 .have:(ps++[Value.pointer p]).length=ps.length+1:=φ;rw[this];exact Am q5 (λg' q9=>by
   have:g'=g:=by simpa[AI]using q9.symm
   subst this;exact Æ _ _ _ _ (show g'≠vb from ζ))
 .refine TrL.snoc hal q7 hsz ?_ ?_
  .intro k h0 h1 h2;have h3:some k≠sl.ownBlock:=λh=>h1 h.symm;refine⟨(k4 k ζ h3 ζ).trans (hk2.block k h2 ζ),?_⟩;intro h;have qb:g=k:=by simpa[AI]using h
   grind
  .intro k h1 h2;have h3:some k≠sl.ownBlock:=λh=>by have:=(Af q6 k h.symm).1;omega
   refine⟨k4 k h2 h3 ζ,?_⟩;intro h;have qb:g=k:=by simpa[AI]using h
   grind
theorem cC{f R:Nat}{t:ByteArray}{lv:Int}{w0:AS}{p0 p1 p2 vb N1:Nat}(B:ED w0 R p0 p1 p2 vb N1)(hV:Hs f)(qo:0<=lv)(w:AS)(l:By)(s:List pL×Fl)(hI:LD f R t lv w0 p0 p1 p2 vb N1 w l s)(hl:l.length<f)(hb:lv+f<=4999):
  Calls Tryz.prog 219 #[PtB p0,PtB p1,PtB p2] w λe w'=>
  (∃l' s',CQ (qL f (lv+1)) l s=some (l',s')/\e=.returned (.bool true)/\LD f R t lv w0 p0 p1 p2 vb N1 w' l' s')\/(CQ (qL f (lv+1)) l s=none/\e=.returned (.bool false)/\RdJ R t w0 p2 vb w'):=by
 obtain⟨i0,qf,hz0,qh,hz2⟩:=ę Ve;have c0:CeB w p0 0=some (PtB R):=by simp[A2,hI.b0]
 have c1:CeB w p1 0=some (InB lv):=by simp[A2,hI.b1]
 have qm:lv<=4999:=ζ;go_enter func219,ntmps219;go_wp2_with fail;refine(hV R t (lv+1) l _ _ _ w hI.rd hI.laid B.ng hl ζ ζ).mono λe w2 ⟨hk2,hc⟩=>?_;clear c0 c1;obtain⟨sl,ps,hvb,q4,hal⟩:=hI.el;have bR:=B.r;have a2:=B.a2;have av:=B.av;have d2:=B.d2;have hsz:=hI.sz;have hb2:w2.1[p2]?=some (.cells #[PtB vb] 80 (0,0)):=(hk2.block p2 ζ ζ).trans hI.b2;have q8:=hvb.kept (hk2.block vb hvb.lt ζ);have q7:=Am q4 (λg hg=>hk2.block g (Af q4 g hg).1 (by have:=(Af q4 g hg).2;omega));have q2:CeB w2 p2 0=some (PtB vb):=ck hb2;have q5:CeB w2 vb 5=some sl:=ck q8;have z5:w2.frozen? ⟨vb,5,none⟩=false:=fk q8;have hs2:=hk2.size;have qn:=(È.1 hb2).1;have qg:=q8.lt;have n2:some p2≠sl.ownBlock:=λh=>by have:=(Af q4 _ h.symm).2;omega
 have nv:some vb≠sl.ownBlock:=λh=>by have:=(Af q4 _ h.symm).2;omega
 have qi:∀o,(w2.alloc o).cell? ⟨p2,0,none⟩=some (PtB vb):=λo=>by rw[Ç (w:=w2) (Ä w2 o p2 qn)];exact q2
 have qj:∀o,(w2.alloc o).cell? ⟨vb,5,none⟩=some sl:=λo=>by rw[Ç (w:=w2) (Ä w2 o vb qg)];exact q5
 have qk:∀o,(w2.alloc o).frozen? ⟨vb,5,none⟩=false:=λo=>by rw[Ĕ (w:=w2) (Ä w2 o vb qg)];exact z5
 have qq:ps.length<=2001:=by have:=hal.length;have:=hI.len;omega
 rcases hc with⟨d,r,fl',p,hs,rfl,qd,qe⟩|⟨hs,p,rfl,r,tw,dp,fr,qd⟩
 .have HS:=Ab hs;clear hs;go_wp2_with fail;go_region_law ((refine ġ _ θ _ _ _ θ N1 80 i0 _ 1 8 underlying106 qf hz0 qh hz2 rfl η sl ps.length ps θ ((q7.alloc _).drew) ⟨w2.1.size,0,none⟩ 1 1 [.pointer p] θ θ (Ö (cs:=#[.pointer p]) (t:=80) (fr:=(0,0)) (Ê w2 _)) (by simp[A1]) η (by unfold maxLen;omega) ζ ω (w2.1.size+1) φ ?_;intro g cap w3 q6 q0 q9 hlt;have zz:w3.frozen? ⟨vb,5,none⟩=false:=(q0.frozen_far ⟨vb,5,none⟩ ω nv).trans (qk _);have yy:CeB w3 vb 5=some sl:=(q0.cell_far ⟨vb,5,none⟩ ω nv).trans (qj _);have xx:CeB w3 p2 0=some (PtB vb):=(q0.cell_far ⟨p2,0,none⟩ ω n2).trans (qi _)));all_goals (
   have hf:=Tv B hI hk2 qd hvb q4 hal q6 (Ł q0.os q0.tape q0.output q0.size q0.block) q9;have qb:=EO _ _ _ _ _ _ _ HS.u;go_wp2;go_ret;refine Å ⟨r,(s.1++[d],fl'),?_,rfl,hf.2.2.2 d fl' rfl qe qb⟩;unfold CQ;have:=HS.u;grind)
 .have HS:=Ab hs;clear hs;go_wp2_with fail;go_region_law ((refine ġ _ θ _ _ _ θ N1 80 i0 _ 1 8 underlying106 qf hz0 qh hz2 rfl η sl ps.length ps θ ((q7.alloc _).drew) ⟨w2.1.size,0,none⟩ 1 1 [.pointer p] θ θ (Ö (cs:=#[.pointer p]) (t:=80) (fr:=(0,0)) (Ê w2 _)) (by simp[A1]) η (by unfold maxLen;omega) ζ ω (w2.1.size+1) φ ?_;intro g cap w3 q6 q0 q9 hlt;have zz:w3.frozen? ⟨vb,5,none⟩=false:=(q0.frozen_far ⟨vb,5,none⟩ ω nv).trans (qk _);have yy:CeB w3 vb 5=some sl:=(q0.cell_far ⟨vb,5,none⟩ ω nv).trans (qj _);have xx:CeB w3 p2 0=some (PtB vb):=(q0.cell_far ⟨p2,0,none⟩ ω n2).trans (qi _)));all_goals (
   have hf:=Tv B hI hk2 qd hvb q4 hal q6 (Ł q0.os q0.tape q0.output q0.size q0.block) q9;go_wp2;go_ret;refine À ⟨?_,rfl,hf.1,⟨r,tw,dp,fr,hf.2.1⟩,hf.2.2.1⟩;unfold CQ;have:=HS.u;grind)
