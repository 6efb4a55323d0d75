import Derived.Test.YtdpomdelmdofmaaGreatDoorP04
import Derived.Test.YtdpomdelmdofmaaGreatDoorP03
open Go.Proofs.Tryz renaming prog->AI
open Go renaming World->AS,Value->A5,Calls->CL,bytesBefore->C0,maxLen->D1,DataW->F2,Ending->HG
open Go.Lib renaming encodeRune->AT,trimLeftB->A1,trimRightB->A3,decDigits->BY,itoa->B4,decodeN->CH,bytesWorld->C2,byteCells->DD,byteCells_length->E0,BuilderAt->HC
open Go.DataW renaming insert->A2,map->B1,agg->B2,put->CD,atKey->DA
open Go.Maps renaming has->A4,size_eq->D2
open UInt8 renaming ofNat->Bs
open Go.World renaming cell?->B3
open Go.RowKit renaming intOf->CR
open List renaming getD_cons_succ->C1,head?_dropWhile_not->D0,length_nil->D3,length_mergeSort->D6,take_length->Ft,find?_cons->F5,length_map->G2,length->HK
open Go.Lit renaming string->C5,sameKey->HP
open Go.WideShapes renaming bytes_trans->C6
open List.Pairwise renaming and_mem->D9
open Go.Sort renaming grow->E1
open Except renaming error->E2
open Nat renaming strongRecOn->G1
open Prod renaming snd->G3
open List.Perm renaming refl->HB
open Function renaming comp->HF
set_option maxHeartbeats 16000000
set_option maxRecDepth 100000
namespace Go.Proofs.YtdpomdelmdofmaaGreatDoor
open Go.Proofs.Tryz Go.RowKit Go.Maps Go.ChangeMaps Go.WideMaps
variable{f R p0 p1 p2 vb N1 B m i:Nat}{t:ByteArray}{lv dp d x:Int}{w0 w':AS}{v u sl':A5}{l r q0 ds s':By}{tw:Bool}{fl:Fl}{D:List (Lit×F2 A5)}{es:List (Lit×pL)}{F:Nat->Prop}{ks:List By}{σ:Type}{cl:UInt8}{a c:pN}{p:List Nat}{n':Nm}
def mP(f:Nat)(lv:Int)(l:By)(fl:Fl)(e:HG)(w w':AS)(R:Nat)(t:ByteArray):Prop:=
 (∃es r fl' p,AZ 91 93 (CQ (qL f (lv+1))) l ([],fl)=some (r,(es,fl'))/\e=.returned (.tuple #[.pointer p,.bool true])/\RD w' R t r fl'.1 fl'.2.1 fl'.2.2/\Tr (f+1) w.1.size w' (.pointer p) (Ak es))\/
  (AZ 91 93 (CQ (qL f (lv+1))) l ([],fl)=none/\∃p,e=.returned (.tuple #[.pointer p,.bool false])/\∃r tw dp fr,RD w' R t r tw dp fr)
theorem Lp(f:Nat)(lv:Int)(l:By)(s:List pL×Fl)(l':By)(s':List pL×Fl)(h:CQ (qL f lv) l s=some (l',s')):l'.length<l.length:=by
 unfold CQ at h;split at h
 .cases h
 .rename_i v r fl hv;have:=EO _ _ _ _ _ _ _ hv;grind
theorem mM(B:ED w0 R p0 p1 p2 vb N1)(hV:Hs f)(q4:0<=lv)(hb:lv+f<=4999):
  QQ 219 #[PtB p0,PtB p1,PtB p2] R t f (CQ (qL f (lv+1))) (LD f R t lv w0 p0 p1 p2 vb N1) (RdJ R t w0 p2 vb) where
 rd:=λw l s h=>⟨_,_,_,h.rd⟩
 move:=λw w' l l' s tw dp fr h h1 h2 hk hl=>by
  obtain⟨_,_,e1,e2,e3⟩:=h.rd.uniq h1;have bR:=B.r;have hsz:=h.sz;have a0:=B.a0;have a1:=B.a1;have a2:=B.a2;have av:=B.av;refine⟨ε,h.kept.trans hk,h.laid.kept hk B.ng,(hk.block p0 ζ ζ).trans h.b0,(hk.block p1 ζ ζ).trans h.b1,(hk.block p2 ζ ζ).trans h.b2,by have:=hk.size;omega,by have:=h.len;omega,?_⟩;obtain⟨sl,ps,hvb,q0,hal⟩:=h.el;refine⟨sl,ps,hvb.kept (hk.block vb hvb.lt ζ),Am q0 (λg hg=>hk.block g (Af q0 g hg).1 (by have:=(Af q0 g hg).2;omega)),hal.move λk h3 h5 h4=>⟨hk.block k h4 ζ,h5⟩⟩
 out:=λw l s h=>⟨h.kept,⟨_,_,_,_,h.rd⟩,h.b2⟩
 len:=λl s l' s' h=>Lp _ _ _ _ _ _ h
 call:=λw l s h hl=>cC B hV q4 w l s h hl hb
theorem JY{w:AS}{B' e n:Nat}{xs:List A5}(h:w.ownsRow B e 1 v n xs)(hB:B'<=B):w.ownsRow B' e 1 v n xs:=
 ⟨h.1,h.2.imp id λ⟨g,cap,cur,a,b,c⟩=>⟨g,cap,cur,a,Ã hB b,c⟩⟩
theorem pF(w:AS)(o0 o1 o2 o3:Obj):((((w.alloc o0).alloc o1).alloc o2).alloc o3).1[w.1.size]?=some o0/\((((w.alloc o0).alloc o1).alloc o2).alloc o3).1[w.1.size+1]?=some o1/\
  ((((w.alloc o0).alloc o1).alloc o2).alloc o3).1[w.1.size+1+1]?=some o2/\((((w.alloc o0).alloc o1).alloc o2).alloc o3).1[w.1.size+1+1+1]?=some o3:=by
 have h (k:Nat):((((w.alloc o0).alloc o1).alloc o2).alloc o3).1[k]?=((((w.1.push o0).push o1).push o2).push o3)[k]?:=rfl;grind
theorem jE(B:ED w0 R p0 p1 p2 vb N1){w:AS}{s:List pL×Fl}(h:LD f R t lv w0 p0 p1 p2 vb N1 w l s):
  Tr (f+1) w0.1.size w (PtB vb) (Ak s.1):=by
 have av:=B.av;obtain⟨sl,ps,hvb,q0,hal⟩:=h.el;exact hal.arr av.1 av.2 hvb (JY q0 (Ď _)) λg hg=>(Af q0 g hg).2
theorem XZ{fr:Int}{w:AS}(hV:Hs f)(h:RD w R t l tw dp fr)(hT:Aj w)(hR:NG<=R)(hl:l.length<=f)(q6:0<=lv)(hb:lv+f<=4999):
  CL AI 181 #[PtB R,InB lv] w λe w'=>Ac R w w'/\mP f lv l (tw,dp,fr) e w w' R t:=by
 have q5:=h.lt;have q4:l.length<=2000:=by obtain⟨p,ha,_⟩:=h;have:=ha.len;have:=ha.small;omega
 have B:ED w R w.1.size (w.1.size+1) (w.1.size+1+1+1) (w.1.size+1+1) (w.1.size+4):=⟨q5,hR,ζ,ζ,ζ,ζ,ζ,ζ,ζ⟩
 have hI:Hid (∀W,W=((((w.alloc (.cells #[PtB R] 153)).alloc (.cells #[InB lv] 3)).alloc (.cells #[InB 5,.bool false,.string ⟨#[]⟩,InB 0,.string ⟨#[]⟩,.slice none 0 0,.map none] 111)).alloc (.cells #[.pointer (some ⟨w.1.size+1+1,0,none⟩)] 80)) ->
   LD f R t lv w w.1.size (w.1.size+1) (w.1.size+1+1+1) (w.1.size+1+1) (w.1.size+4) W l ([],(tw,dp,fr))):=by
  rintro W rfl;have hf:=pF w (.cells #[PtB R] 153) (.cells #[InB lv] 3) (.cells #[InB 5,.bool false,.string ⟨#[]⟩,InB 0,.string ⟨#[]⟩,.slice none 0 0,.map none] 111) (.cells #[.pointer (some ⟨w.1.size+1+1,0,none⟩)] 80);have hk:=((((Ac.refl R w).alloc (.cells #[PtB R] 153)).alloc (.cells #[InB lv] 3)).alloc (.cells #[InB 5,.bool false,.string ⟨#[]⟩,InB 0,.string ⟨#[]⟩,.slice none 0 0,.map none] 111)).alloc (.cells #[.pointer (some ⟨w.1.size+1+1,0,none⟩)] 80);refine⟨(((h.alloc _).alloc _).alloc _).alloc _,hk,hT.kept hk hR,hf.1,hf.2.1,hf.2.2.2,φ,ω,.slice none 0 0,[],hf.2.2.1,å _ _ _ _,TrL.nil _ _ _ _⟩
 have K:=mM (t:=t) B hV q6 hb;clear hT;go_enter func181,ntmps181;go_wp2_with fail;refine(PS (CZ func219 δ rfl) _ _ _ 91 93 91 93 rfl rfl R t f _ _ _ K _ l ([],(tw,dp,fr)) (hI.u _ rfl) hl).mono ?_;rintro e w5 hc;rcases hc with⟨l',s',hs,rfl,q0⟩|⟨hs,rfl,hJ⟩
 .have HS:=Ab hs;have hb2:=q0.b2;have q2:w5.cell? ⟨w.1.size+1+1+1,0,none⟩=some (.pointer (some ⟨w.1.size+1+1,0,none⟩)):=ck hb2;have HI:=Ab q0;clear hs q0 hb2 hI;go_wp2;go_ret2;refine⟨HI.u.kept,Å ⟨s'.1,l',s'.2,_,HS.u,rfl,HI.u.rd,jE B HI.u⟩⟩
 .have HS:=Ab hs;have hb2:=hJ.2.2;have q2:w5.cell? ⟨w.1.size+1+1+1,0,none⟩=some (.pointer (some ⟨w.1.size+1+1,0,none⟩)):=ck hb2;have HJ:=Ab hJ;clear hs hJ hb2 hI;go_wp2;go_ret2;exact⟨HJ.u.1,À ⟨HS.u,_,rfl,HJ.u.2.1⟩⟩
structure Id(f R:Nat)(t:ByteArray)(lv:Int)(w0:AS)(p0 p1 p2 vb m N1:Nat)(w:AS)(l:By)(s:pL×Fl):Prop where
 rd:RD w R t l s.2.1 s.2.2.1 s.2.2.2
 kept:Ac R w0 w
 laid:Aj w
 b0:w.1[p0]?=some (.cells #[PtB R] 153 (0,0))
 b1:w.1[p1]?=some (.cells #[InB lv] 3 (0,0))
 b2:w.1[p2]?=some (.cells #[PtB vb] 80 (0,0))
 sz:N1<=w.1.size
 bm:w0.1.size<=m/\m<N1/\m≠p0/\m≠p1/\m≠p2/\m≠vb
 hvb:VB w vb 6 n0 [] (.slice none 0 0) (.map (some m))
 el:∃n D es,n+l.length<=2001/\s.1=Ap es/\w.ownsMap AI 9 RV m n (.map D)/\TrM f N1 w D es
theorem PH(B:ED w0 R p0 p1 p2 vb N1){w:AS}{l':By}{s:pL}{fl':Fl}(h:Id f R t lv w0 p0 p1 p2 vb m N1 w l (s,fl))(hr:RD w' R t l' fl'.1 fl'.2.1 fl'.2.2)(hk:Ac R w w')(hl:l'.length<=l.length):
  Id f R t lv w0 p0 p1 p2 vb m N1 w' l' (s,fl'):=by
 have bR:=B.r;have hsz:=h.sz;have a0:=B.a0;have a1:=B.a1;have a2:=B.a2;have av:=B.av;have bm:=h.bm;refine⟨hr,h.kept.trans hk,h.laid.kept hk B.ng,(hk.block p0 ζ ζ).trans h.b0,(hk.block p1 ζ ζ).trans h.b1,(hk.block p2 ζ ζ).trans h.b2,by have:=hk.size;omega,bm,h.hvb.kept (hk.block vb h.hvb.lt ζ),?_⟩;obtain⟨n,D,es,hn,he,ho,hp⟩:=h.el;refine⟨n,D,es,ζ,he,A0 ho (hk.block m (CV ho) ζ),hp.move λk h3 h4=>hk.block k h4 ζ⟩
theorem Ky(B:ED w0 R p0 p1 p2 vb N1){w w5 w6:AS}{s:pL×Fl}(hI:Id f R t lv w0 p0 p1 p2 vb m N1 w l s)(hk:Ac R w w5){fr:Int}(qb:RD w5 R t r tw dp fr){n:Nat}(hn:n+l.length<=2001)(he:s.1=Ap es)(hp:TrM f N1 w D es){x:A5}{k:Lit}(q6:w6.ownsMap AI 9 RV m (n+1) (CD (.map D) k (.held x)))(q0:w5.grownBy w6 (some m)):
  Ac R w0 w6/\RD w6 R t r tw dp fr/\w6.1[p2]?=some (.cells #[PtB vb] 80 (0,0))/\
  ∀(d:pL),Tr f w.1.size w5 x d->r.length<l.length->Id f R t lv w0 p0 p1 p2 vb m N1 w6 r (CD s.1 k d,(tw,dp,fr)):=by
 have bR:=B.r;have hsz:=hI.sz;have a0:=B.a0;have a1:=B.a1;have a2:=B.a2;have av:=B.av;have bm:=hI.bm;have qd:=hk.size;have gs:=q0.size;have k6:∀j,j<w5.1.size->j≠m->w6.1[j]?=w5.1[j]?:=λj h1 h2=>q0.block j h1 ε;have kx:Ac R w0 w6:=by
  have q4:=hI.kept.trans hk;refine⟨q0.os.trans q4.os,q0.tape.trans q4.tape,q0.output.trans q4.output,ζ,λj h1 h2=>(k6 j ζ ζ).trans (q4.block j h1 h2)⟩
 have q7:RD w6 R t r tw dp fr:=by
  obtain⟨q,ha,hq⟩:=qb;exact⟨q,ha,(k6 R (RP.lt hq) ζ).trans hq⟩
 have box:∀(j:Nat) (ob:Obj),w0.1.size<=j->j<N1->j≠m->w.1[j]?=some ob->w6.1[j]?=some ob:=λj ob h1 h2 h3 h4=>
  (k6 j ζ h3).trans ((hk.block j ζ ζ).trans h4)
 refine⟨kx,q7,box _ _ a2.1 a2.2 ζ hI.b2,?_⟩;intro d q5 q8;refine⟨q7,kx,hI.laid.below ⟨q0.os.trans hk.os,q0.tape.trans hk.tape,q0.output.trans hk.output,ζ,λj hj=>(k6 j (by have:=hI.laid.ng;omega) (by have:=B.ng;omega)).trans (hk.block j (by have:=hI.laid.ng;omega) (by have:=B.ng;omega))⟩,
  box _ _ a0.1 a0.2 ζ hI.b0,box _ _ a1.1 a1.2 ζ hI.b1,box _ _ a2.1 a2.2 ζ hI.b2,ζ,bm,box _ _ av.1 av.2 ζ hI.hvb,?_⟩
 obtain⟨D',es',e1,e2,q9⟩:=hp.put (k:=k) (w6:=w6) q5 hsz (λj h1 h2=>(k6 j ζ ζ).trans (hk.block j h2 ζ)) ε;refine⟨n+1,D',es',ζ,?_,?_,q9⟩
 .rw[he];exact e2
 grind
theorem Tn(f:Nat):∀(l s r:By),Ck f l=some (s,r)->s.length+4*r.length<=4*l.length:=by
 induction f with
 |zero=>intro l s r h;cases h
 |succ f ih=>
  intro l s r h;unfold Ck at h;split at h
  .grind
  .split at h
   .cases h
   .rename_i c r1 hc;have a:=Gs hc;have b:=Gp (c:Int);grind
theorem kQ{s:By}(h:rJ l=some (s,r)):s.length<=4*l.length:=by
 unfold rJ at h;split at h
 .have:=Tn _ _ _ _ h;grind
 .cases h
theorem C9:Keyed AI 9:=string_keyed underlying9
theorem DI(w:AS):(zeroValue 80).run AI w=.ok (.pointer none) w:=δ
theorem pB(s:By)(h:s.length<=8000):keyOf AI 9 (.string ⟨s.toArray⟩)=some (.string s):=by
 have:=Go.WideMaps.keyOf_string_mk underlying9 (s:=⟨s.toArray⟩) (by rw[AD];unfold D1;omega);omega
def WD(f:Nat)(R:Nat)(t:ByteArray)(lv:Int)(w0:AS)(p0 p1 p2 vb m N1:Nat)(l:By)(s:pL×Fl)(e:HG)(w':AS):Prop:=
 (∃l' s',Cx (qL f (lv+1)) l s=some (l',s')/\e=.returned (.bool true)/\Id f R t lv w0 p0 p1 p2 vb m N1 w' l' s')\/(Cx (qL f (lv+1)) l s=none/\e=.returned (.bool false)/\RdJ R t w0 p2 vb w')
theorem Us(B:ED w0 R p0 p1 p2 vb N1)(hV:Hs f)(zb:0<=lv)(w:AS)(l:By)(s:pL)(tw:Bool)(dp fr:Int)(hI:Id f R t lv w0 p0 p1 p2 vb m N1 w l (s,(tw,dp,fr)))(hl:l.length<f)(hb:lv+f<=4999):
  CL AI 218 #[PtB R,PtB vb,.int .i64 (lv+1)] w λe w'=>WD f R t lv w0 p0 p1 p2 vb m N1 l (s,(tw,dp,fr)) e w':=by
 have q8:=C9;have qo:=DI;have qz:l.length<=2000:=by obtain⟨p,ha,_⟩:=hI.rd;have:=ha.len;have:=ha.small;omega
 have HI:=Ab hI;have hr:=hI.rd;simp only at hr;have hT:=hI.laid;clear hI;go_enter func218,ntmps218;go_wp2_with fail;refine(LS hr hT B.ng).mono ?_;rintro e w1⟨qn,hc⟩;rcases hc with⟨k,l1,hq,rfl,qt⟩|⟨hq,k,l1,rfl,qt⟩;rotate_left
 .have HQ:=Ab hq;clear hq hT;go_wp2;go_ret;refine À ⟨?_,rfl,?_⟩
  .unfold Cx;rw[HQ.u]
  .have h9:=PH B (fl':=(tw,dp,fr)) (l':=[]) (w':=w1) HI.u;exact⟨HI.u.kept.trans qn,⟨_,_,_,_,qt⟩,(qn.block p2 (by have:=B.a2;have:=HI.u.sz;omega) (by have:=B.a2;have:=B.r;omega)).trans HI.u.b2⟩
 have HQ:=Ab hq;have ze:=Ff hq;have zc:=kQ hq;clear hq;go_wp2_with fail;refine(Dv qt).mono ?_;rintro e w2⟨rfl,z3,hk2⟩;have zf:=Az l1;by_cases k1:pQ (pR l1) 58=true;rotate_left
 .have K1:=Ab (Bq k1);clear k1 hT;go_wp2_with fail;refine(BR 58 _ rfl z3 K1.u).mono ?_;rintro e w3⟨rfl,qu,qr⟩;have hkk:=(qn.trans hk2).trans qr;go_wp2;go_ret;refine À ⟨?_,rfl,?_⟩
  .unfold Cx;rw[HQ.u];simp only;rw[K1.u];rfl
  .exact⟨HI.u.kept.trans hkk,⟨_,_,_,_,qu⟩,(hkk.block p2 (by have:=B.a2;have:=HI.u.sz;omega) (by have:=B.a2;have:=B.r;omega)).trans HI.u.b2⟩
 have K1:=Ab k1;have za:=AV k1;clear k1;go_wp2_with fail;refine(AX 58 _ rfl z3 K1.u).mono ?_;rintro e w3⟨rfl,qu,qr⟩;go_wp2_with fail;refine(Dv qu).mono ?_;rintro e w4⟨rfl,z8,z6⟩;have zg:=Az (pR l1).tail;have q4:=((qn.trans hk2).trans qr).trans z6;go_wp2_with fail;refine(hV R t (lv+1) _ _ _ _ w4 z8 (hT.kept q4 B.ng) B.ng ζ ζ ζ).mono ?_;rintro e w5⟨hk5,hc⟩;have q0:=q4.trans hk5;have bR:=B.r;have av:=B.av;have a2:=B.a2;have bm:=HI.u.bm;have hsz:=HI.u.sz;obtain⟨n,D,es,hn,qm,ho,hp⟩:=HI.u.el;simp only at qm;have z1:=A0 ho (q0.block m (CV ho) ζ);have qw:=HI.u.hvb.kept (q0.block vb HI.u.hvb.lt ζ);have q6:w5.cell? ⟨vb,6,none⟩=some (.map (some m)):=ck qw;have z0:keyOf AI 9 (.string ⟨k.toArray⟩)=some (.string k):=pB k ζ;have HM:=Ab (show Cx (qL f (lv+1)) l (s,(tw,dp,fr))=(match qL f (lv+1) (pR (pR l1).tail) (tw,dp,fr)with
  |none=>none
  |some (v,r,fl)=>some (r,(CD s (.string k) v,(fl.1 || A4 s (.string k),fl.2))))from by
   unfold Cx;rw[HQ.u];simp only;rw[K1.u];rfl)
 have qf:Hid (A4 s (.string k)=A4 (.map D) (.string k)):=by rw[Hid,qm];exact(hp.pt.has _).symm
 have q7:=Ab z1;have q5:=Ab z0;have HN:=Ab (show n<D1 by unfold D1;omega);have qi:=Ab qm;have qk:=Ab hp;have qj:=Ab hn;clear z1 z0 qm hp hn ho;generalize pR (pR l1).tail=l4 at*;rcases hc with⟨d,r,fl',p,hs,rfl,qg,qh⟩|⟨hs,p,rfl,r,zh,z4,z5,qg⟩
 .have HS:=Ab hs;clear hs hT;cases hh:A4 (.map D) (.string k)with
  |false=>
   have HH:=Ab hh;clear hh;go_wp2_with (first|(at_lookup;refine ï _ rfl _ _ 109 rfl 9 80 q8 underlying109 RV (qo _) (.held (.pointer none)) [] rfl m n (.map D) rfl q7.u _ _ rfl q5.u ?_));intro v0 qy qe;clear qe;rw[HH.u];go_wp2_with (first|(at_mapUpdate;refine ĸ _ rfl _ _ _ 109 rfl 9 80 q8 underlying109 RV m n (.map D) rfl q7.u HN.u _ _ _ rfl rfl q5.u (.held (.pointer p)) [] rfl ?_));intro w6 qd q9;go_wp2;go_ret;have hf:=Ky B HI.u q0 qg qj.u qi.u qk.u qd q9;refine Å ⟨r,(CD s (.string k) d,(fl'.1,fl'.2)),?_,rfl,?_⟩
   .rw[HM.u,HS.u];simp only;rw[qf.u,HH.u];simp
   .have z7:=EO _ _ _ _ _ _ _ HS.u;exact hf.2.2.2 d (qh.move q4.size λj h1 h2=>rfl) ζ
  |true=>
   have HH:=Ab hh;clear hh;obtain⟨q,ha,hq⟩:=qg;have z2:=hq.fz 2;have y2:=hq.c2;have qv:RD (w5.setCell ⟨R,2,none⟩ (.bool true)) R t r true fl'.2.1 fl'.2.2:=⟨q,ha,hq.set2 true⟩
   have qb:Ac R w (w5.setCell ⟨R,2,none⟩ (.bool true)):=q0.setCell rfl _;have qq:=Ab (A0 q7.u (show(w5.setCell ⟨R,2,none⟩ (.bool true)).1[m]?=w5.1[m]? from Æ _ _ _ _ (show m≠R from ζ)));have z9:(w5.setCell ⟨R,2,none⟩ (.bool true)).cell? ⟨vb,6,none⟩=some (.map (some m)):=(Ç (w:=w5) (Æ _ _ _ _ (show vb≠R from ζ))).trans q6;go_wp2_with (first|(at_lookup;refine ï _ rfl _ _ 109 rfl 9 80 q8 underlying109 RV (qo _) (.held (.pointer none)) [] rfl m n (.map D) rfl q7.u _ _ rfl q5.u ?_));intro v0 qy qe;clear qe;rw[HH.u];go_wp2_with (first|(at_mapUpdate;refine ĸ _ rfl _ _ _ 109 rfl 9 80 q8 underlying109 RV m n (.map D) rfl qq.u HN.u _ _ _ rfl rfl q5.u (.held (.pointer p)) [] rfl ?_));intro w6 qd q9;go_wp2;go_ret;have hf:=Ky B HI.u qb qv qj.u qi.u qk.u qd q9;refine Å ⟨r,(CD s (.string k) d,(true,fl'.2)),?_,rfl,?_⟩
   .rw[HM.u,HS.u];simp only;rw[qf.u,HH.u];simp
   .have z7:=EO _ _ _ _ _ _ _ HS.u;exact hf.2.2.2 d (qh.move q4.size λj h1 h2=>Æ _ _ _ _ (show j≠R by have:=q4.size;omega)) ζ
 .have HS:=Ab hs;clear hs hT;cases hh:A4 (.map D) (.string k)with
  |false=>
   have HH:=Ab hh;clear hh;go_wp2_with (first|(at_lookup;refine ï _ rfl _ _ 109 rfl 9 80 q8 underlying109 RV (qo _) (.held (.pointer none)) [] rfl m n (.map D) rfl q7.u _ _ rfl q5.u ?_));intro v0 qy qe;clear qe;rw[HH.u];go_wp2_with (first|(at_mapUpdate;refine ĸ _ rfl _ _ _ 109 rfl 9 80 q8 underlying109 RV m n (.map D) rfl q7.u HN.u _ _ _ rfl rfl q5.u (.held (.pointer p)) [] rfl ?_));intro w6 qd q9;go_wp2;go_ret;have hf:=Ky B HI.u q0 qg qj.u qi.u qk.u qd q9;refine À ⟨?_,rfl,hf.1,⟨_,_,_,_,hf.2.1⟩,hf.2.2.1⟩;rw[HM.u,HS.u]
  |true=>
   have HH:=Ab hh;clear hh;obtain⟨q,ha,hq⟩:=qg;have z2:=hq.fz 2;have y2:=hq.c2;have qv:RD (w5.setCell ⟨R,2,none⟩ (.bool true)) R t r true z4 z5:=⟨q,ha,hq.set2 true⟩
   have qb:Ac R w (w5.setCell ⟨R,2,none⟩ (.bool true)):=q0.setCell rfl _;have qq:=Ab (A0 q7.u (show(w5.setCell ⟨R,2,none⟩ (.bool true)).1[m]?=w5.1[m]? from Æ _ _ _ _ (show m≠R from ζ)));have z9:(w5.setCell ⟨R,2,none⟩ (.bool true)).cell? ⟨vb,6,none⟩=some (.map (some m)):=(Ç (w:=w5) (Æ _ _ _ _ (show vb≠R from ζ))).trans q6;go_wp2_with (first|(at_lookup;refine ï _ rfl _ _ 109 rfl 9 80 q8 underlying109 RV (qo _) (.held (.pointer none)) [] rfl m n (.map D) rfl q7.u _ _ rfl q5.u ?_));intro v0 qy qe;clear qe;rw[HH.u];go_wp2_with (first|(at_mapUpdate;refine ĸ _ rfl _ _ _ 109 rfl 9 80 q8 underlying109 RV m n (.map D) rfl qq.u HN.u _ _ _ rfl rfl q5.u (.held (.pointer p)) [] rfl ?_));intro w6 qd q9;go_wp2;go_ret;have hf:=Ky B HI.u qb qv qj.u qi.u qk.u qd q9;refine À ⟨?_,rfl,hf.1,⟨_,_,_,_,hf.2.1⟩,hf.2.2.1⟩;rw[HM.u,HS.u]
theorem Zs(f:Nat)(lv:Int)(l:By)(s:pL×Fl)(l':By)(s':pL×Fl)(h:Cx (qL f lv) l s=some (l',s')):l'.length<l.length:=by
 unfold Cx at h;split at h
 .cases h
 .rename_i k l1 hq;have a:=Ff hq;have b:=Az l1;split at h
  .have c:=Az (pR l1).tail;have d:=į (l:=pR l1);split at h
   .cases h
   .rename_i v r fl hv;have:=EO _ _ _ _ _ _ _ hv;grind
  .cases h
theorem Zc(B:ED w0 R p0 p1 p2 vb N1)(hV:Hs f)(q0:0<=lv)(hb:lv+f<=4999)(w:AS)(l:By)(s:pL×Fl)(hI:Id f R t lv w0 p0 p1 p2 vb m N1 w l s)(hl:l.length<f):
  CL AI 217 #[PtB p0,PtB p2,PtB p1] w λe w'=>WD f R t lv w0 p0 p1 p2 vb m N1 l s e w':=by
 have c0:CeB w p0 0=some (PtB R):=by simp[B3,hI.b0]
 have c1:CeB w p1 0=some (InB lv):=by simp[B3,hI.b1]
 have c2:CeB w p2 0=some (PtB vb):=by simp[B3,hI.b2]
 have q4:lv<=4999:=ζ;have HI:=Ab hI;clear hI;go_enter func217,ntmps217;go_wp2_with fail;refine(Us B hV q0 w l s.1 s.2.1 s.2.2.1 s.2.2.2 HI.u hl hb).mono ?_;rintro e w2 hc;rcases hc with⟨l',s',h1,rfl,h2⟩|⟨h1,rfl,h2⟩
 .have H1:=Ab h1;have H2:=Ab h2;clear h1 h2;go_wp2;go_ret;exact Å ⟨l',s',H1.u,rfl,H2.u⟩
 .have H1:=Ab h1;have H2:=Ab h2;clear h1 h2;go_wp2;go_ret;exact À ⟨H1.u,rfl,H2.u⟩
theorem lA(B:ED w0 R p0 p1 p2 vb N1)(hV:Hs f)(q0:0<=lv)(hb:lv+f<=4999):
  QQ 217 #[PtB p0,PtB p2,PtB p1] R t f (Cx (qL f (lv+1))) (Id f R t lv w0 p0 p1 p2 vb m N1) (RdJ R t w0 p2 vb) where
 rd:=λw l s h=>⟨_,_,_,h.rd⟩
 move:=λw w' l l' s tw dp fr h h1 h2 hk hl=>by
  obtain⟨_,_,e1,e2,e3⟩:=h.rd.uniq h1;exact PH B (fl':=s.2) h ε hk hl
 out:=λw l s h=>⟨h.kept,⟨_,_,_,_,h.rd⟩,h.b2⟩
 len:=λl s l' s' h=>Zs _ _ _ _ _ _ h
 call:=λw l s h hl=>Zc B hV q0 hb w l s h hl
def lD(f:Nat)(lv:Int)(l:By)(fl:Fl)(e:HG)(w w':AS)(R:Nat)(t:ByteArray):Prop:=
 (∃v r fl' p,AZ 123 125 (Cx (qL f (lv+1))) l (Ap [],fl)=some (r,(v,fl'))/\e=.returned (.tuple #[.pointer p,.bool true])/\RD w' R t r fl'.1 fl'.2.1 fl'.2.2/\Tr (f+1) w.1.size w' (.pointer p) v)\/
  (AZ 123 125 (Cx (qL f (lv+1))) l (Ap [],fl)=none/\∃p,e=.returned (.tuple #[.pointer p,.bool false])/\∃r tw dp fr,RD w' R t r tw dp fr)
theorem fO(B:ED w0 R p0 p1 p2 vb N1){w:AS}{s:pL×Fl}(h:Id f R t lv w0 p0 p1 p2 vb m N1 w l s):
  Tr (f+1) w0.1.size w (PtB vb) s.1:=by
 have av:=B.av;have bm:=h.bm;obtain⟨n,D,es,hn,he,ho,hp⟩:=h.el;rw[he];exact hp.obj av ⟨bm.1,bm.2.1⟩ ζ h.hvb ho
theorem pG(w:AS)(o0 o1 o2 o3 o4:Obj):(((((w.alloc o0).alloc o1).alloc o2).alloc o3).alloc o4).1[w.1.size]?=some o0/\(((((w.alloc o0).alloc o1).alloc o2).alloc o3).alloc o4).1[w.1.size+1]?=some o1/\
  (((((w.alloc o0).alloc o1).alloc o2).alloc o3).alloc o4).1[w.1.size+1+1]?=some o2/\(((((w.alloc o0).alloc o1).alloc o2).alloc o3).alloc o4).1[w.1.size+1+1+1]?=some o3/\(((((w.alloc o0).alloc o1).alloc o2).alloc o3).alloc o4).1[w.1.size+1+1+1+1]?=some o4:=by
 have h (k:Nat):(((((w.alloc o0).alloc o1).alloc o2).alloc o3).alloc o4).1[k]?=(((((w.1.push o0).push o1).push o2).push o3).push o4)[k]?:=rfl;grind
theorem Um{fr:Int}{w:AS}(hV:Hs f)(h:RD w R t l tw dp fr)(hT:Aj w)(hR:NG<=R)(hl:l.length<=f)(q7:0<=lv)(hb:lv+f<=4999):
  CL AI 180 #[PtB R,InB lv] w λe w'=>Ac R w w'/\lD f lv l (tw,dp,fr) e w w' R t:=by
 have q8:=@run_makeMap AI;have q6:=h.lt;have q5:l.length<=2000:=by obtain⟨p,ha,_⟩:=h;have:=ha.len;have:=ha.small;omega
 have B:ED w R w.1.size (w.1.size+1) (w.1.size+1+1+1+1) (w.1.size+1+1+1) (w.1.size+5):=⟨q6,hR,ζ,ζ,ζ,ζ,ζ,ζ,ζ⟩
 have hI:Hid (∀W,W=(((((w.alloc (.cells #[PtB R] 153)).alloc (.cells #[InB lv] 3)).alloc (.map #[] 0)).alloc (.cells #[InB 6,.bool false,.string ⟨#[]⟩,InB 0,.string ⟨#[]⟩,.slice none 0 0,.map (some (w.1.size+1+1))] 111)).alloc (.cells #[.pointer (some ⟨w.1.size+1+1+1,0,none⟩)] 80)) ->
   Id f R t lv w w.1.size (w.1.size+1) (w.1.size+1+1+1+1) (w.1.size+1+1+1) (w.1.size+1+1) (w.1.size+5) W l (Ap [],(tw,dp,fr))):=by
  rintro W rfl;have hf:=pG w (.cells #[PtB R] 153) (.cells #[InB lv] 3) (.map #[] 0) (.cells #[InB 6,.bool false,.string ⟨#[]⟩,InB 0,.string ⟨#[]⟩,.slice none 0 0,.map (some (w.1.size+1+1))] 111) (.cells #[.pointer (some ⟨w.1.size+1+1+1,0,none⟩)] 80);have hk:=(((((Ac.refl R w).alloc (.cells #[PtB R] 153)).alloc (.cells #[InB lv] 3)).alloc (.map #[] 0)).alloc (.cells #[InB 6,.bool false,.string ⟨#[]⟩,InB 0,.string ⟨#[]⟩,.slice none 0 0,.map (some (w.1.size+1+1))] 111)).alloc (.cells #[.pointer (some ⟨w.1.size+1+1+1,0,none⟩)] 80);have hm:((w.alloc (.cells #[PtB R] 153)).alloc (.cells #[InB lv] 3)).1.size=w.1.size+1+1:=φ;have q0:=World.ownsMap_made ((w.alloc (.cells #[PtB R] 153)).alloc (.cells #[InB lv] 3)) AI 9 RV;rw[hm]at q0;refine⟨((((h.alloc _).alloc _).alloc _).alloc _).alloc _,hk,hT.kept hk hR,hf.1,hf.2.1,hf.2.2.2.2,φ,ζ,hf.2.2.2.1,0,[],[],ζ,rfl,?_,TrM.nil _ _ _⟩;exact A0 (A0 q0 (Ä _ _ _ (CV q0))) (Ä _ _ _ φ)
 have K:=lA (t:=t) (m:=w.1.size+1+1) B hV q7 hb;clear hT;go_enter func180,ntmps180;go_wp2_with fail;refine(PS (CZ func217 δ rfl) _ _ _ 123 125 123 125 rfl rfl R t f _ _ _ K _ l (Ap [],(tw,dp,fr)) (hI.u _ rfl) hl).mono ?_;rintro e w5 hc;rcases hc with⟨l',s',hs,rfl,q4⟩|⟨hs,rfl,hJ⟩
 .have HS:=Ab hs;have hb2:=q4.b2;have q2:w5.cell? ⟨w.1.size+1+1+1+1,0,none⟩=some (.pointer (some ⟨w.1.size+1+1+1,0,none⟩)):=ck hb2;have HI:=Ab q4;clear hs q4 hb2 hI;go_wp2;go_ret2;exact⟨HI.u.kept,Å ⟨s'.1,l',s'.2,_,HS.u,rfl,HI.u.rd,fO B HI.u⟩⟩
 .have HS:=Ab hs;have hb2:=hJ.2.2;have q2:w5.cell? ⟨w.1.size+1+1+1+1,0,none⟩=some (.pointer (some ⟨w.1.size+1+1+1,0,none⟩)):=ck hb2;have HJ:=Ab hJ;clear hs hJ hb2 hI;go_wp2;go_ret2;exact⟨HJ.u.1,À ⟨HS.u,_,rfl,HJ.u.2.1⟩⟩
theorem J1{n:Nm}(h:rO l=some (n,r))(hl:l.length<=2000):-10000000<=n.2.2/\n.2.2<=10000000:=by
 have hb:∀(b:Bool) (l:By),l.length<=2000->BM b l=some (n,r) -> -10000000<=n.2.2/\n.2.2<=10000000:=by
  intro b l hl h;unfold BM at h;have a:=Cw l;split at h
  .cases h
  .split at h
   .cases h
   .rename_i f r1 h1;have a2:=Fj h1;split at h
    .cases h
    .rename_i e r2 h2;have a3:=S9 h2;have a4:=SG b (dg l++f) (e-f.length);grind
 unfold rO at h;grind
theorem jK(f:Nat):Hs f:=by
 induction f with
 |zero=>intro R t lv l tw dp fr w _ _ _ hl;omega
 |succ f ih=>
  intro R t lv l tw dp fr w h hT hR hl qm hb;have qk:l.length<=f:=ζ;have qh:lv+f<=4999:=ζ;obtain⟨q,ha,hq⟩:=h;have q6:l.length<=2000:=by have:=ha.len;have:=ha.small;omega
  have c3:=hq.c3;have z3:=hq.fz 3;have qt:RD (w.setCell ⟨R,3,none⟩ (.int .i64 (max dp lv))) R t l tw (max dp lv) fr:=⟨q,ha,hq.set3 (max dp lv)⟩
  have qi:Ac R w (w.setCell ⟨R,3,none⟩ (.int .i64 (max dp lv))):=(Ac.refl R w).setCell rfl _;have qq:=hT.kept qi hR;have qu:(w.setCell ⟨R,3,none⟩ (.int .i64 (max dp lv))).1.size=w.1.size:=κ;clear hq ha hT hl hb;go_enter func137,ntmps137;go_wp2_with fail;refine(LU qt).mono ?_;rintro e w1⟨rfl,q9,qj⟩;have q5:=qi.trans qj;have qd:=qq.kept qj hR;have qv:=q5.size;clear c3 z3;by_cases hp:pY l=123
  .have qf:((pY l:Int)==123)=true:=ω;have HV:Hid (qL (f+1) lv l (tw,dp,fr)=(match AZ 123 125 (Cx (qL f (lv+1))) l (Ap [],(tw,(max dp lv,fr)))with
     |none=>none
     |some (r,(v,fl'))=>some (v,r,fl'))):=by
    unfold Hid;rw[qL,if_pos hp];rfl
   clear hp;go_wp2_with fail;refine(Um ih q9 qd hR qk qm qh).mono ?_;rintro e w2⟨hk2,hc⟩;rcases hc with⟨v,r,fl',p,hs,rfl,q4,q7⟩|⟨hs,p,rfl,q4⟩
   .have HS:=Ab hs;clear hs;go_wp2;go_ret2;refine⟨q5.trans hk2,Å ⟨v,r,fl',p,?_,rfl,q4,q7.move ζ λk h1 _=>rfl⟩⟩;rw[HV.u,HS.u]
   .have HS:=Ab hs;clear hs;go_wp2;go_ret2;refine⟨q5.trans hk2,À ⟨?_,p,rfl,q4⟩⟩;rw[HV.u,HS.u]
  have qf:((pY l:Int)==123)=false:=ω;by_cases qb:pY l=91
  .have qo:((pY l:Int)==91)=true:=ω;have HV:Hid (qL (f+1) lv l (tw,dp,fr)=(match AZ 91 93 (CQ (qL f (lv+1))) l ([],(tw,(max dp lv,fr)))with
     |none=>none
     |some (r,(es,fl'))=>some (Ak es,r,fl'))):=by
    unfold Hid;grind [qL,pY,Ak]
   clear hp qb;go_wp2_with fail;refine(XZ ih q9 qd hR qk qm qh).mono ?_;rintro e w2⟨hk2,hc⟩;rcases hc with⟨es,r,fl',p,hs,rfl,q4,q7⟩|⟨hs,p,rfl,q4⟩
   .have HS:=Ab hs;clear hs;go_wp2;go_ret2;refine⟨q5.trans hk2,Å ⟨Ak es,r,fl',p,?_,rfl,q4,q7.move ζ λk h1 _=>rfl⟩⟩;rw[HV.u,HS.u]
   .have HS:=Ab hs;clear hs;go_wp2;go_ret2;refine⟨q5.trans hk2,À ⟨?_,p,rfl,q4⟩⟩;rw[HV.u,HS.u]
  have qo:((pY l:Int)==91)=false:=ω;by_cases qe:pY l=34
  .have qn:((pY l:Int)==34)=true:=ω;have HV:Hid (qL (f+1) lv l (tw,dp,fr)=(match rJ l with
     |none=>none
     |some (s,r)=>some (Av s,r,(tw,(max dp lv,fr))))):=by
    unfold Hid;grind [pY,qL,Av]
   clear hp qb qe;go_wp2_with fail;refine(LS q9 qd hR).mono ?_;rintro e w2⟨hk2,hc⟩;have q0:=q5.trans hk2;have hs2:=hk2.size;rcases hc with⟨s,r,hs,rfl,q4⟩|⟨hs,s,r,rfl,q4⟩
   .have HS:=Ab hs;clear hs;go_wp2;go_ret2;refine⟨q0.alloc _,Å ⟨Av s,r,(tw,(max dp lv,fr)),some ⟨w2.1.size,0,none⟩,?_,rfl,q4.alloc _,Tr.leafS ζ (Ax _ _ _ rfl)⟩⟩;rw[HV.u,HS.u]
   .have HS:=Ab hs;clear hs;go_wp2;go_ret2;refine⟨q0.alloc _,À ⟨?_,_,rfl,_,_,_,_,q4.alloc _⟩⟩;rw[HV.u,HS.u]
  have qn:((pY l:Int)==34)=false:=ω;by_cases q8:pY l=45\/(48<=pY l/\pY l<=57)
  .have HV:Hid (qL (f+1) lv l (tw,dp,fr)=(match rO l with
     |none=>none
     |some (n,r)=>some (Bm n,r,(tw,(max dp lv,max (max fr n.2.2) (-n.2.2)))))):=by
    unfold Hid;grind [pY,qL,Cd]
   rcases q8 with q8|q8
   .have qg:((pY l:Int)==45)=true:=ω;clear hp qb qe q8;go_wp2_with fail;refine(L8 q9).mono ?_;rintro e w2⟨hk2,hc⟩;have q0:=q5.trans hk2;have hs2:=hk2.size;rcases hc with⟨n,r,hs,rfl,q4⟩|⟨hs,rfl,r,q4⟩
    .have HS:=Ab hs;obtain⟨nb,nd,ne⟩:=n;clear hs;unfold Cd;go_wp2;go_ret2;refine⟨(q0.alloc _).alloc _,Å ⟨Bm (nb,nd,ne),r,(tw,(max dp lv,max (max fr ne) (-ne))),some ⟨w2.1.size+1,0,none⟩,?_,rfl,(q4.alloc _).alloc _,Tr.leafN ζ (Ax _ _ _ φ) ⟨by have:=J1 HS.u q6;omega,by have:=J1 HS.u q6;omega⟩⟩⟩;rw[HV.u,HS.u]
    .have HS:=Ab hs;clear hs;unfold Cd;go_wp2;go_ret2;refine⟨(q0.alloc _).alloc _,À ⟨?_,_,rfl,_,_,_,_,(q4.alloc _).alloc _⟩⟩;rw[HV.u,HS.u]
   .have qg:((pY l:Int)==45)=false:=ω;have HD:=Ab (show Da (pY l)=true by unfold Da;simp;omega);clear hp qb qe q8;go_wp2_with fail;refine(BT _ _ (LT l)).mono ?_;rintro e w9⟨rfl,rfl⟩;rw[HD.u];go_wp2_with fail;refine(L8 q9).mono ?_;rintro e w2⟨hk2,hc⟩;have q0:=q5.trans hk2;have hs2:=hk2.size;rcases hc with⟨n,r,hs,rfl,q4⟩|⟨hs,rfl,r,q4⟩
    .have HS:=Ab hs;obtain⟨nb,nd,ne⟩:=n;clear hs;unfold Cd;go_wp2;go_ret2;refine⟨(q0.alloc _).alloc _,Å ⟨Bm (nb,nd,ne),r,(tw,(max dp lv,max (max fr ne) (-ne))),some ⟨w2.1.size+1,0,none⟩,?_,rfl,(q4.alloc _).alloc _,Tr.leafN ζ (Ax _ _ _ φ) ⟨by have:=J1 HS.u q6;omega,by have:=J1 HS.u q6;omega⟩⟩⟩;rw[HV.u,HS.u]
    .have HS:=Ab hs;clear hs;unfold Cd;go_wp2;go_ret2;refine⟨(q0.alloc _).alloc _,À ⟨?_,_,rfl,_,_,_,_,(q4.alloc _).alloc _⟩⟩;rw[HV.u,HS.u]
  have qg:((pY l:Int)==45)=false:=ω;have HV:Hid (qL (f+1) lv l (tw,dp,fr)=(match A6 l 0 rE with
    |none=>none
    |some (k,r)=>some (BG k,r,(tw,(max dp lv,fr))))):=by
   unfold Hid;grind [pY,qL,BG]
  have HD:=Ab (show Da (pY l)=false by unfold Da;simp;omega);clear hp qb qe q8;go_wp2_with fail;refine(BT _ _ (LT l)).mono ?_;rintro e w9⟨rfl,rfl⟩;rw[HD.u];go_wp2_with fail;refine(Yg q9 qd).mono ?_;rintro e w2⟨hk2,hc⟩;have q0:=q5.trans hk2;rcases hc with⟨k,r,b,hs,rfl,qr,hvb,hb2,q4⟩|⟨hs,rfl,q4⟩
  .have HS:=Ab hs;clear hs;go_wp2;go_ret2;refine⟨q0,Å ⟨BG k,r,(tw,(max dp lv,fr)),some ⟨b,0,none⟩,?_,rfl,q4,Tr.leafW ζ qr hvb⟩⟩;rw[HV.u,HS.u]
  .have HS:=Ab hs;clear hs;go_wp2;go_ret2;refine⟨q0,À ⟨?_,none,rfl,_,_,_,_,q4⟩⟩;rw[HV.u,HS.u]
def top:Nat:=2001
theorem DN:top=2001:=rfl
def qB(t:By)(q0 ex:Int):Nat×Option pL:=
 if 2000<t.length then(4,none)else
 match qL top 1 (pR t) (false,(0,0))with
 |none=>(5,none)
 |some (v,r,fl)=>if(pR r).isEmpty then(if fl.1 then(6,none)else if q0<fl.2.1 then(7,none)else if ex<fl.2.2 then(8,none)else(0,some v))else(5,none)
theorem Tr.drewN{lo:Nat}{w:AS}{d:pL}(h:Tr f lo w v d)(n:Nat):Tr f lo (w.drewN n) v d:=h.move (Á _) λ_ _ _=>rfl
def Yh(l:By)(fl:Fl)(e:HG)(w w':AS)(R:Nat)(t:ByteArray):Prop:=
 (∃v r fl' p,qL top 1 (pR l) fl=some (v,r,fl')/\e=.returned (.tuple #[.pointer p,.bool (pR r).isEmpty])/\RD w' R t (pR r) fl'.1 fl'.2.1 fl'.2.2/\Tr top w.1.size w' (.pointer p) v)\/
  (qL top 1 (pR l) fl=none/\∃p,e=.returned (.tuple #[.pointer p,.bool false])/\∃r tw dp fr,RD w' R t r tw dp fr)
theorem Vp{fr:Int}{w:AS}(h:RD w R t l tw dp fr)(hT:Aj w)(hR:NG<=R):
  CL AI 102 #[PtB R] w λe w'=>Ac R w w'/\Yh l (tw,(dp,fr)) e w w' R t:=by
 have qf:=h.lt;have q8:l.length<=2000:=by obtain⟨p,ha,_⟩:=h;have:=ha.len;have:=ha.small;omega
 have qh:=Az l;have qe:=DN;go_enter func102,ntmps102;go_wp2_with fail;refine(Dv h).mono ?_;rintro e w1⟨rfl,qb,q5⟩;go_wp2_with fail;refine(jK top R t 1 _ _ _ _ w1 qb (hT.kept q5 hR) hR ζ ζ ζ).mono ?_;rintro e w2⟨hk2,hc⟩;have q0:=q5.trans hk2;have qg:=q5.size;rcases hc with⟨v,r,fl',p,hs,rfl,q6,q7⟩|⟨hs,p,rfl,q6⟩
 .have HS:=Ab hs;clear hs hT;go_wp2_with fail;refine(Dv q6).mono ?_;rintro e w3⟨rfl,qd,q9⟩;have q4:Tr top w.1.size w3 (.pointer p) v:=q7.move ζ λk h1 h2=>q9.block k h2 ζ;obtain⟨q,ha,hq⟩:=qd;have c0:=hq.c0;have c1:=hq.c1;have hem:((q:Int)==(t.size:Int))=(pR r).isEmpty:=by
   have e1:=ha.len;have e2:=ha.le;cases hx:pR r with
   |nil=>grind
   |cons a b=>grind
  have HE:=Ab hem;have HA:=Ab ha;have HQ:=Ab hq;clear ha hq hem;go_wp2_with fail;go_quiet(fail);go_wp2_with fail;rw[HE.u];go_ret2;exact⟨(q0.trans q9).drewN _,Å ⟨v,r,fl',p,HS.u,rfl,⟨q,HA.u,HQ.u.drewN _⟩,q4.drewN _⟩⟩
 .have HS:=Ab hs;clear hs hT;go_wp2;go_ret2;exact⟨q0,À ⟨HS.u,none,rfl,q6⟩⟩
def fG(t:By)(q0 ex:Int)(e:HG)(w w':AS):Prop:=
 (∃c,qB t q0 ex=(c,none)/\0<c/\e=.returned (.tuple #[.pointer none,InB (c:Nat)]))\/
  (∃v p,qB t q0 ex=(0,some v)/\e=.returned (.tuple #[.pointer (some p),InB 0])/\Tr top w.1.size w' (.pointer (some p)) v)
theorem Q6{t:By}(h:2000<t.length):qB t d x=(4,none):=by unfold qB;grind
theorem Q5{t:By}(h:¬2000<t.length)(hv:qL top 1 (pR t) (false,(0,0))=none):qB t d x=(5,none):=by unfold qB;grind
theorem Q0{t:By}(h:¬2000<t.length){v:pL}(hv:qL top 1 (pR t) (false,(0,0))=some (v,r,fl)):
  qB t d x=if(pR r).isEmpty then(if fl.1 then(6,none)else if d<fl.2.1 then(7,none)else if x<fl.2.2 then(8,none)else(0,some v))else(5,none):=by unfold qB;grind
theorem cM(s:ByteArray)(q0 ex:Int)(w:AS)(hT:Aj w):
  CL AI 77 #[.string s,InB q0,InB ex] w λe w'=>Bl w w'/\fG s.data.toList q0 ex e w w':=by
 have q7:s.data.toList.length=s.size:=(Ė s).symm;by_cases hl:2000<s.size
 .have h0:=Ab (Q6 (d:=q0) (x:=ex) (show 2000<s.data.toList.length from ζ));have e0:decide ((2000:Int)<(s.size:Int))=true:=ω;clear hT q7;go_enter func77,ntmps77;go_wp2;go_ret2;exact⟨Â _ _,Å ⟨4,h0.u,ζ,rfl⟩⟩
 .have e0:decide ((2000:Int)<(s.size:Int))=false:=ω;have hn:¬2000<s.data.toList.length:=ζ;have hR:=hT.ng;have q9:Ac w.1.size w (w.alloc (.cells #[.string s,InB 0,.bool false,InB 0,InB 0] 155)):=(Ac.refl _ w).alloc _;have q8:RD (w.alloc (.cells #[.string s,InB 0,.bool false,InB 0,InB 0] 155)) w.1.size s s.data.toList false 0 0:=by
   refine⟨0,⟨ζ,ζ,rfl⟩,?_⟩;show(w.1.push _)[w.1.size]?=_;simp
  have qd:=hT.kept (X:=w.1.size) q9 hR;clear hT;go_enter func77,ntmps77;go_wp2_with fail;refine(Vp q8 qd hR).mono λe w2 ⟨hk2,hc⟩=>?_;have q6:=q9.trans hk2;have hb2:Bl w w2:=q6.below (Á _) (Á _);rcases hc with⟨v,r,fl',p,hs,rfl,qb,q4⟩|⟨hs,p,rfl,qb⟩
  .have h0:=Ab (Q0 (d:=q0) (x:=ex) hn hs);obtain⟨tw,dp,fr⟩:=fl';obtain⟨bb,rfl⟩:∃bb,p=some bb:=by
    obtain⟨b,hb,_⟩:=q4.ptr;grind
   have q5:Tr top w.1.size w2 (.pointer (some bb)) v:=q4.move φ λk h1 _=>rfl;obtain⟨q,ha,hq⟩:=qb;simp only at hq;have c2:=hq.c2;have c3:=hq.c3;have c4:=hq.c4;clear hs q8 ha hq q4;cases hem:(pR r).isEmpty with
   |false=>
    have h1:=Ab (show qB s.data.toList q0 ex=(5,none)from by rw[h0.u,hem];rfl);clear hem h0;go_wp2;go_ret2;exact⟨hb2,Å ⟨5,h1.u,ζ,rfl⟩⟩
   |true=>
    cases htw:tw with
    |true=>
     have h1:=Ab (show qB s.data.toList q0 ex=(6,none)from by rw[h0.u,hem];simp[htw]);subst htw;clear hem h0;go_wp2;go_ret2;exact⟨hb2,Å ⟨6,h1.u,ζ,rfl⟩⟩
    |false=>
     subst htw;by_cases h7:q0<dp
     .have h1:=Ab (show qB s.data.toList q0 ex=(7,none)from by rw[h0.u,hem];simp[h7]);have e7:decide (q0<dp)=true:=ε;clear hem h0;go_wp2;go_ret2;exact⟨hb2,Å ⟨7,h1.u,ζ,rfl⟩⟩
     .have e7:decide (q0<dp)=false:=ε;by_cases h8:ex<fr
      .have h1:=Ab (show qB s.data.toList q0 ex=(8,none)from by rw[h0.u,hem];simp[h7,h8]);have e8:decide (ex<fr)=true:=ε;clear hem h0;go_wp2;go_ret2;exact⟨hb2,Å ⟨8,h1.u,ζ,rfl⟩⟩
      .have h1:=Ab (show qB s.data.toList q0 ex=(0,some v)from by rw[h0.u,hem];simp[h7,h8]);have e8:decide (ex<fr)=false:=ε;clear hem h0;go_wp2;go_ret2;exact⟨hb2,À ⟨v,_,h1.u,rfl,q5⟩⟩
  .have h1:=Ab (Q5 (d:=q0) (x:=ex) hn hs);clear hs q8;go_wp2;go_ret2;exact⟨hb2,Å ⟨5,h1.u,ζ,rfl⟩⟩
def EK(n:Nat):UInt8:=if n<10 then Bs (48+n)else Bs (87+n)
def BE(c:UInt8):By:=if c.toNat=34\/c.toNat=92 then[92,c]else if c.toNat<32 then[92,117,48,48,EK (c.toNat / 16),EK (c.toNat % 16)]else[c]
def AF:By->By
 |[]=>[]
 |c::r=>BE c++AF r
def Ai(s:By):By:=34::(AF s++[34])
def BI(n:Nm):By:=if n.2.1=[]then[48]else(if n.1 then[45]else[])++(n.2.1++(if n.2.2=0 then[]else 101::B4 n.2.2))
def Bp:List By->By
 |[]=>[]
 |x::r=>44::(x++Bp r)
def Ah:List By->By
 |[]=>[]
 |x::r=>x++Bp r
def rV(es:List (Lit×pL)):List By:=es.map λp=>match p.1 with|.string b=>b|_=>[]
def rW(es:List (Lit×pL))(k:By):pL:=DA (.map es) (.string k) .nil
def pP:Nat->pL->By
 |0,_=>[]
 |f+1,d=>match d with
  |.lit (.int _ k)=>rE.getD k.toNat []
  |.lit (.string s)=>Ai s
  |.agg [.lit (.bool ng),.lit (.string ds),.lit (.int _ ex)]=>BI (ng,ds,ex)
  |.slice es _=>91::(Ah (es.map (pP f))++[93])
  |.map es=>123::(Ah (((rV es).mergeSort λx y=>decide (x<=y)).map λk=>Ai k++58::pP f (rW es k))++[125])
  |_=>[]
theorem GZ(f k:Nat):pP (f+1) (BG k)=rE.getD k []:=rfl
theorem IA(f:Nat)(n:Nm):pP (f+1) (Bm n)=BI n:=rfl
theorem Gt(f:Nat)(s:By):pP (f+1) (Av s)=Ai s:=rfl
theorem BH(f:Nat)(es:List pL):pP (f+1) (Ak es)=91::(Ah (es.map (pP f))++[93]):=rfl
theorem EW(f:Nat)(es:List (Lit×pL)):pP (f+1) (Ap es)=123::(Ah (((rV es).mergeSort λx y=>decide (x<=y)).map λk=>Ai k++58::pP f (rW es k))++[125]):=rfl
theorem UA(l:List By)(x:By):Bp (l++[x])=Bp l++44::x:=by
 induction l with
 |nil=>simp[Bp]
 |cons y r ih=>simp[Bp,ih]
theorem Eg(l:List By)(i:Nat)(h:i<l.length):Ah (l.take (i+1))=Ah (l.take i)++((if 0<i then[44]else[])++l[i]):=by
 rw[Í h];cases l with
 |nil=>simp at h
 |cons x r=>
  cases i with
  |zero=>simp[Ah,Bp]
  |succ i=>simp only[List.take_succ_cons,Ü,Ah,UA];simp
theorem Ch(l:List By)(i:Nat):(Ah (l.take i)).length<=(Ah l).length:=by
 have h:∀(r:List By) (i:Nat),(Bp (r.take i)).length<=(Bp r).length:=by
  intro r;induction r with
  |nil=>grind
  |cons x r ih=>
   intro i;cases i with
   |zero=>simp[Bp]
   |succ i=>grind [Bp,Ah]
 cases l with
 |nil=>simp
 |cons x r=>
  cases i with
  |zero=>simp[Ah]
  |succ i=>grind [Bp,Ah]
theorem Om(s:By)(i:Nat)(h:i<s.length):AF (s.take (i+1))=AF (s.take i)++BE s[i]:=by
 have ha:∀(a b:By),AF (a++b)=AF a++AF b:=by
  intro a b;induction a with
  |nil=>rfl
  |cons c r ih=>simp[AF,ih]
 rw[Í h,ha];simp[AF]
theorem Qc(c:UInt8):(BE c).length<=6:=by
 grind [BE]
theorem Lo(s:By):(AF s).length<=6*s.length:=by
 induction s with
 |nil=>simp[AF]
 |cons c r ih=>have:=Qc c;grind [AF]
structure Fr(B b:Nat)(w w':AS):Prop where
 low:Below B w w'
 oth:OKz b w w'
theorem Fr.refl(B b:Nat)(w:AS):Fr B b w w:=⟨Â _ _,OKz.refl _ _⟩
theorem Fr.trans{b:Nat}{w1 w2 w3:AS}(h:Fr B b w1 w2)(g:Fr B b w2 w3):Fr B b w1 w3:=⟨h.low.trans g.low,h.oth.trans g.oth⟩
abbrev Bu(B b:Nat)(l:By)(w:AS):Prop:=IsB B b (DD l) w
theorem mL(l:By)(c:UInt8):DD l++[.int .u8 (c.toNat:Int)]=DD (l++[c]):=by simp[DD]
theorem BF{b:Nat}(c:UInt8)(ci:Int)(hc:ci=c.toNat){w:AS}(h:Bu B b q0 w)(hl:q0.length+1<=140737488355328)(hB:B<=w.1.size):
  CL AI 139 #[PtB b,.int .u8 ci] w λe w'=>e=.returned .nilIface/\Bu B b (q0++[c]) w'/\Fr B b w w':=by
 refine(OP B b _ ci w h (by rw[E0];exact hl) hB).mono λe w' ⟨he,h1,h2,h3⟩=>?_;rw[hc,mL]at h1;exact⟨he,À h1,h2,h3⟩
theorem KZ{b:Nat}(s:By){w:AS}(h:Bu B b q0 w)(hl:q0.length+s.length<=140737488355328)(hB:B<=w.1.size):
  CL AI 107 #[PtB b,.string ⟨s.toArray⟩] w λe w'=>e=.returned (.tuple #[InB s.length,.nilIface])/\Bu B b (q0++s) w'/\Fr B b w w':=by
 refine(MD B b _ ⟨s.toArray⟩ w h (by rw[E0,AD];exact hl) hB).mono λe w' ⟨he,h1,h2,h3⟩=>?_;rw[Lib.strCells_toArray,<-Lib.byteCells_append]at h1;rw[AD]at he;exact⟨he,À h1,h2,h3⟩
def lN:ByteArray:=⟨#[48,49,50,51,52,53,54,55,56,57,97,98,99,100,101,102]⟩
theorem gR:∀n,n<16->lN.data.toList.getD n 0=EK n:=η
theorem WW(n:Nat)(h:n<16)(h2:n<(⟨#[48,49,50,51,52,53,54,55,56,57,97,98,99,100,101,102]⟩:ByteArray).size):((⟨#[48,49,50,51,52,53,54,55,56,57,97,98,99,100,101,102]⟩:ByteArray)[n]'h2)=EK n:=by
 have:=gR n h;rw[<-this];have h3:n<lN.data.toList.length:=h;simp only[List.getD,Ô h3,Ģ];rfl
theorem Vi(n:Nm)(w:AS):CB 138 #[Cd n] w (.bool n.2.1.isEmpty):=by
 obtain⟨nb,nd,ne⟩:=n;unfold Cd;go_enter func138,ntmps138;go_wp2;go_ret;exact⟨φ,(Â _ _).alloc (Á _) _⟩
theorem Aj.tab{w:AS}(h:Aj w):Lib.TabIs AI w "internal/strconv.uint64pow10" .u64 Lib.pow10Tab:=by
 obtain⟨t,fr,e⟩:=h.pow;unfold Lib.TabIs World.var?;rw[show Tryz.prog.globalNamed "internal/strconv.uint64pow10" = some 5 by kernel_rfl];simp[e]
theorem F9(w:AS)(k:Nat)(os:Array Obj):Bl w (E1 (w.drewN k) os):=by
 refine⟨rfl,rfl,rfl,?_,?_⟩
 .simp_all
 grind [E1,World.drewN]
theorem Zj(n:Nm):(BI n).length<=n.2.1.length+3+(B4 n.2.2).length:=by
 unfold BI;grind
theorem Dx{b:Nat}{w:AS}(h:Bu B b l w)(hb:Bl w w'):Bu B b l w':=by
 have hk:∀{p:A5}{bs:List A5},HC 119 5 B b p bs w->HC 119 5 B b p bs w':=by
  intro p bs h;obtain⟨hB,v,q4,q0,hne⟩:=h;exact⟨hB,v,(hb.block b ε).trans q4,⟨q0.1,q0.2.imp id λ⟨g,cap,cur,h1,h2,h3,h4⟩=>⟨g,cap,cur,h1,h2,(hb.block g ε).trans h3,h4⟩⟩,hne⟩
 exact h.imp hk hk
theorem Ou(w:AS)(s:By):∃cs fz,(C2 w 5 ⟨s.toArray⟩).1[w.1.size]?=some (.cells cs 5 fz)/\fz≠(0,0)/\(∀j (h:j<s.length),cs[j]?=some (.int .u8 (s[j].toNat:Int)))/\Bl w (C2 w 5 ⟨s.toArray⟩):=by
 refine⟨_,_,Lib.bytesWorld_at_new w 5 _,φ,?_,?_⟩
 .intro j h;have h2:j<(s.toArray.map λb=>Value.int .u8 (b.toNat:Int)).size:=ε;simp only[Lib.bytesCells];grind
 .refine⟨rfl,rfl,rfl,by rw[Lib.bytesWorld_size];omega,λk hk=>Lib.bytesWorld_at_old w 5 _ k hk⟩
theorem EX{b:Nat}{q6:By}(s:By){w:AS}(h:Bu B b q6 w)(hl:q6.length+(6*s.length+2)<=140737488355328)(hB:B<=w.1.size):
  CL AI 104 #[PtB b,.string ⟨s.toArray⟩] w λe w'=>e=.returned (.tuple #[])/\Bu B b (q6++Ai s) w'/\Fr B b w w':=by
 have qj:=λW=>Lib.run_convert_string_bytes (P:=AI) W 9 117 5 ⟨s.toArray⟩ underlying9 underlying117 underlying5;go_enter func104,ntmps104;go_wp2_with fail;refine(BF 34 _ rfl h ζ hB).mono ?_;rintro e w1⟨rfl,h1,f1⟩;go_wp2_with fail;obtain⟨cs,fz,qb,qm,qi,q7⟩:=Ou w1 s;have qf:B<=w1.1.size:=Ã hB f1.low.size;have h2:=Dx h1 q7;have f2:Fr B b w (C2 w1 5 ⟨s.toArray⟩):=f1.trans ⟨q7.mono qf,OKz.below q7⟩;generalize C2 w1 5 ⟨s.toArray⟩=w2 at*;have HW:=Ab q7;have qk:w1.1.size≠b:=by
  rcases h1 with h1|h1
  .have:=h1.lt;omega
  .have:=h1.lt;omega
 clear qj h h1 f1 q7;go_loopw [11] (λi wr=>∃k:Nat,k<=s.length/\i=.int .i64 k/\Bu B b (q6++34::AF (s.take k)) wr/\Fr B b w wr/\wr.1[w1.1.size]?=some (.cells cs 5 fz)) (λi _=>s.length-(CR i).toNat)
 case atStart=>grind [BE,AF,CR]
 case round=>
  obtain⟨k,hk,rfl,qd,hf,hro⟩:=hrel;have q5:=Ab qd;have q0:B<=wr.1.size:=ε;clear qd h2 f2 qb;by_cases hlt:k<s.length
  .have cc:wr.cell? ⟨w1.1.size,k,none⟩=some (.int .u8 (s[k].toNat:Int)):=by simp[B3,hro,qi k hlt]
   have qe:=Om s k hlt;have hsl:=Lo (s.take k);have hsl2:(s.take k).length=k:=ω;have q8:Hid (∀w':AS,Fr B b wr w'->w'.1[w1.1.size]?=some (.cells cs 5 fz)):=λw' h=>h.oth _ _ hro qk ε;have q9:=Ab qe;have qh:q6.length+(1+(AF (s.take k)).length)+7<=140737488355328:=ζ;have hn:=s[k].toNat_lt;generalize hc:s[k]=c at*;clear qe hc;by_cases c1:c.toNat=34
   .have HE:=Ab (show BE c=[92,c] by grind [BE,AF,CR]);have e1:((c.toNat:Int)==34)=true:=ω;clear c1;go_wp2_with fail;refine(BF 92 _ rfl q5.u ω q0).mono ?_;rintro e w3⟨rfl,h3,f3⟩;have q4:B<=w3.1.size:=Ã q0 f3.low.size;go_wp2_with fail;refine(BF c _ rfl h3 ω q4).mono ?_;rintro e w4⟨rfl,h4,f4⟩;go_wp2;go_roundw
    case rel=>exact⟨k+1,ζ,ψ,by rw[q9.u,HE.u];grind,(hf.trans f3).trans f4,q8.u _ (f3.trans f4)⟩
    grind [BE,AF,CR]
   .have e1:((c.toNat:Int)==34)=false:=ω;by_cases c2:c.toNat=92
    .have HE:=Ab (show BE c=[92,c] by grind [BE,AF,CR]);have e2:((c.toNat:Int)==92)=true:=ω;clear c1 c2;go_wp2_with fail;refine(BF 92 _ rfl q5.u ω q0).mono ?_;rintro e w3⟨rfl,h3,f3⟩;have q4:B<=w3.1.size:=Ã q0 f3.low.size;go_wp2_with fail;refine(BF c _ rfl h3 ω q4).mono ?_;rintro e w4⟨rfl,h4,f4⟩;go_wp2;go_roundw
     case rel=>exact⟨k+1,ζ,ψ,by rw[q9.u,HE.u];grind,(hf.trans f3).trans f4,q8.u _ (f3.trans f4)⟩
     grind [BE,AF,CR]
    .have e2:((c.toNat:Int)==92)=false:=ω;by_cases c3:c.toNat<32
     .have HE:=Ab (show BE c=[92,117,48,48,EK (c.toNat / 16),EK (c.toNat % 16)] by grind [BE,AF,CR]);have e3:decide ((c.toNat:Int)<32)=true:=ω;go_wp2_with fail;refine(KZ [92,117,48,48] q5.u ω q0).mono ?_;rintro e w3⟨rfl,h3,f3⟩;have q4:B<=w3.1.size:=Ã q0 f3.low.size;go_wp2_with fail;refine(BF (EK (c.toNat / 16)) _ ?_ h3 ω q4).mono ?_
      .rw[WW _ ζ]
      rintro e w4⟨rfl,h4,f4⟩;have qg:B<=w4.1.size:=Ã q4 f4.low.size;go_wp2_with fail;refine(BF (EK (c.toNat % 16)) _ ?_ h4 ω qg).mono ?_
      .rw[WW _ ζ]
      rintro e w5⟨rfl,h5,f5⟩;go_wp2;go_roundw
      case rel=>exact⟨k+1,ζ,ψ,by rw[q9.u,HE.u];grind,((hf.trans f3).trans f4).trans f5,q8.u _ ((f3.trans f4).trans f5)⟩
      grind [BE,AF,CR]
     .have HE:=Ab (show BE c=[c] by grind [BE,AF,CR]);have e3:decide ((c.toNat:Int)<32)=false:=ω;clear c1 c2 c3;go_wp2_with fail;refine(BF c _ rfl q5.u ω q0).mono ?_;rintro e w3⟨rfl,h3,f3⟩;go_wp2;go_roundw
      case rel=>exact⟨k+1,ζ,ψ,by rw[q9.u,HE.u];grind,hf.trans f3,q8.u _ f3⟩
      grind [BE,AF,CR]
  .go_wp2_with fail;refine(BF 34 _ rfl q5.u ?_ q0).mono ?_
   .have:=Lo (s.take k);grind
   rintro e w3⟨rfl,h3,f3⟩;go_wp2;go_end0;refine⟨rfl,?_,hf.trans f3⟩;rw[Ï ζ]at h3;simpa[Ai]using h3
def NB(w:AS)(g:Nat)(nb:Bool)(nd:By)(ne:Int):Prop:=w.1[g]?=some (.cells #[.bool nb,.string ⟨nd.toArray⟩,InB ne] 108 (0,0))
section
variable{w:AS}{g:Nat}{nb:Bool}{nd:By}{ne:Int}
theorem NB.c0(h:NB w g nb nd ne):CeB w g 0=some (.bool nb):=ck h
theorem NB.c1(h:NB w g nb nd ne):CeB w g 1=some (.string ⟨nd.toArray⟩):=ck h
theorem NB.c2(h:NB w g nb nd ne):CeB w g 2=some (InB ne):=ck h
theorem NB.fr{b:Nat}(h:NB w g nb nd ne)(hf:Fr B b w w')(hb:g≠b):NB w' g nb nd ne:=hf.oth _ _ h hb (λc e=>ε)
theorem NB.low(h:NB w g nb nd ne)(hf:Bl w w'):NB w' g nb nd ne:=(hf.block g (È.1 h).1).trans h
end
theorem dL{b:Nat}{w:AS}(h:Bu B b l w):b<w.1.size:=by
 rcases h with h|h
 .exact h.lt
 .exact h.lt
theorem LE{b:Nat}{q4:By}(n:Nm){w:AS}(h:Bu B b q4 w)(hl:q4.length+(BI n).length<=140737488355328)(hB:B<=w.1.size)(hT:Aj w)(qk:NG<=B)(h0:-100000000<=n.2.2)(h1:n.2.2<=100000000):
  CL AI 103 #[PtB b,Cd n] w λe w'=>e=.returned (.tuple #[])/\Bu B b (q4++BI n) w'/\Fr B b w w':=by
 obtain⟨nb,nd,ne⟩:=n;simp only at h0 h1;have qn:=dL h;have n0:NB (w.alloc (.cells #[.bool nb,.string ⟨nd.toArray⟩,.int .i64 ne] 108)) w.1.size nb nd ne:=by
  show(w.1.push _)[w.1.size]?=_;simp
 have h2:=Dx h ((Â _ w).alloc (Á _) (.cells #[.bool nb,.string ⟨nd.toArray⟩,.int .i64 ne] 108));have f0:Fr B b w (w.alloc (.cells #[.bool nb,.string ⟨nd.toArray⟩,.int .i64 ne] 108)):=⟨(Â _ w).alloc hB _,OKz.below ((Â _ w).alloc (Á _) _)⟩
 obtain⟨T,q6⟩:∃T,T=BI (nb,nd,ne):=⟨_,rfl⟩
 rw[<-q6]at hl |-;unfold BI at q6;have HE:=Ab q6;clear q6;unfold Cd;go_enter func103,ntmps103;go_wp2_with fail;refine(Vi (nb,nd,ne) _).mono ?_;rintro e w1⟨rfl,hb1⟩;have h3:=Dx h2 hb1;have n1:=n0.low hb1;have f1:Fr B b w w1:=f0.trans ⟨hb1.mono (by first|omega|(simp;omega)),OKz.below hb1⟩;have q5:B<=w1.1.size:=Ã hB f1.low.size;simp only;clear h h2 n0 f0 hb1;cases hz:nd.isEmpty with
 |true=>
  obtain rfl:T=[48]:=by rw[HE.u];grind
  clear hz;go_wp2_with fail;refine(BF 48 _ rfl h3 (by simp at hl;omega) q5).mono ?_;rintro e w2⟨rfl,h4,f2⟩;go_wp2_with fail;refine Ì (v:=.tuple #[]) (þ δ _ _ _) rfl ?_;exact⟨rfl,h4,f1.trans f2⟩
 |false=>
  obtain⟨Y,hY⟩:∃Y:By,Y=if ne=0 then[]else 101::B4 ne:=⟨_,rfl⟩
  have hE:T=(if nb then[45]else[])++(nd++Y):=by rw[HE.u,hY];grind
  have q8:q4.length+(if nb then[45]else[]:By).length+nd.length+Y.length<=140737488355328:=by rw[hE]at hl;simp only[Ñ]at hl;omega
  have qb:=Ab hE;have HY:=Ab hY;have q0:=n1.c0;clear hz hE hY hl;cases nb;rotate_left
  focus
   go_wp2_with fail;refine(BF 45 _ rfl h3 (by simp at q8;omega) q5).mono ?_;rintro e w2⟨rfl,h4,q9⟩;have f2:=f1.trans q9;have n2:=n1.fr q9 ζ;have qf:B<=w2.1.size:=Ã hB f2.low.size;clear q0 h3 n1 f1 q5 q9
  rotate_left;have h4:Bu B b (q4++[]) w1:=by simpa using h3
  obtain⟨w2,hw⟩:∃w2,w2=w1:=⟨_,rfl⟩
  subst hw;have f2:=f1;have n2:=n1;have qf:=q5;clear h3 n1 f1 q5;all_goals (
   have q1:=n2.c1;go_wp2_with fail;refine(KZ nd h4 (by simp at q8 |-;omega) qf).mono ?_;rintro e w3⟨rfl,h5,qd⟩;have f3:=f2.trans qd;have n3:=n2.fr qd ζ;have qi:B<=w3.1.size:=Ã hB f3.low.size;clear q1;have q2:=n3.c2;cases hx:(ne != 0)with
   |false=>
    obtain rfl:Y=[]:=by rw[HY.u];grind
    go_wp2;go_end0;exact⟨rfl,by rw[qb.u];simpa using h5,f3⟩
   |true=>
    have hY:Y=101::B4 ne:=by rw[HY.u];grind
    have qh:=Ab hY;have qo:Y.length=1+(B4 ne).length:=by rw[hY];simp;omega
    clear hY;go_wp2_with fail;refine(BF 101 _ rfl h5 (by simp at q8 |-;omega) qi).mono ?_;rintro e w4⟨rfl,h6,qe⟩;have f4:=f3.trans qe;have n4:=n3.fr qe ζ;have qg:B<=w4.1.size:=Ã hB f4.low.size;have qm:=(hT.below (f4.low.mono qk)).tab;clear q2;have q2:=n4.c2;go_wp2_with fail;refine(Tryz.strconv_Itoa ne ζ ζ w4 qm).mono ?_;rintro e w5⟨rfl,kk,os,rfl⟩;have q7:=F9 w4 kk os;have h7:=Dx h6 q7;have qj:B<=(E1 (w4.drewN kk) os).1.size:=Ã qg q7.size;have f5:Fr B b w4 (E1 (w4.drewN kk) os):=⟨q7.mono qg,OKz.below q7⟩
    generalize E1 (w4.drewN kk) os=w5 at*;go_wp2_with fail;refine(KZ (B4 ne) h7 (by simp at q8 |-;omega) qj).mono ?_;rintro e w6⟨rfl,h8,f6⟩;go_wp2;go_end0;exact⟨rfl,by rw[qb.u,qh.u];simpa using h8,(f4.trans f5).trans f6⟩)
def QJ(f:Nat):Prop:=∀(B b:Nat) (q0:By) (v:A5) (d:pL) (w:AS) (F:Nat->Prop),Bu B b q0 w->Rep f F w v d->(∀k,F k->k<B)->Aj w->NG<=B->B<=w.1.size->q0.length+(pP f d).length<=8796093022208 ->
 CL AI 78 #[PtB b,v] w λe w'=>e=.returned (.tuple #[])/\Bu B b (q0++pP f d) w'/\Fr B b w w'
theorem Rep.low{w:AS}{d:pL}(h:Rep f F w v d)(hF:∀k,F k->k<B)(hb:Below B w w'):Rep f F w' v d:=h.move λk h1 _=>⟨hb.block k (hF k h1),h1⟩
theorem Vr{b:Nat}{q8:By}(hV:QJ f){g n cap:Nat}{ps:List A5}{es:List pL}{w:AS}(h:Bu B b q8 w)(hF:∀k,F k->k<B)(hT:Aj w)(q9:NG<=B)(hB:B<=w.1.size)(hn:n=ps.length)(qr:n<=cap)(q6:cap<=D1)(q7:∀k (h:k<ps.length),w.cell? ⟨g,k,none⟩=some ps[k])(hg:g<B)(hal:Al (Rep f F w) ps es)(hl:q8.length+(1+((Ah (es.map (pP f))).length+1))<=8796093022208):
  CL AI 105 #[PtB b,SlB g n cap] w λe w'=>e=.returned (.tuple #[])/\Bu B b (q8++91::(Ah (es.map (pP f))++[93])) w'/\Fr B b w w':=by
 have qo:=hal.length;have HN:=Ab hn;have qw:(n:Int)<=9223372036854775807:=by unfold D1 at q6;omega
 clear hn;go_enter func105,ntmps105;go_wp2_with fail;refine(BF 91 _ rfl h ζ hB).mono ?_;rintro e w1⟨rfl,h1,f1⟩;go_wp2_with fail;clear h;go_loopw [10] (λi wr=>∃k:Nat,k<=n/\i=.int .i64 k/\Bu B b (q8++91::Ah ((es.map (pP f)).take k)) wr/\Fr B b w wr) (λi _=>n-(CR i).toNat)
 case atStart=>grind [pP,Ah,D3]
 case round=>
  obtain⟨k,hk,rfl,qm,hf⟩:=hrel;have qd:=Ab qm;have qb:B<=wr.1.size:=Ã hB hf.low.size;have qv:=Ch (es.map (pP f)) k;have hnn:=HN.u;have qi:=Ab qo;have qj:=Ab hnn;clear qm h1 f1 qo hnn;by_cases hlt:k<n
  .have qn:k<ps.length:=by have:=qj.u;omega
   have qu:k<(es.map (pP f)).length:=by have:=qi.u;simp;omega
   have qf:k<es.length:=ε;have cc:wr.cell? ⟨g,k,none⟩=some ps[k]:=(hf.low.cell (p:=⟨g,k,none⟩) hg).trans (q7 k qn);have q4:=(hal.get k qn qf).low hF hf.low;have qg:=Ab (Eg (es.map (pP f)) k qu);have qt:=Ch (es.map (pP f)) (k+1);have qe:(es.map (pP f))[k]=pP f es[k]:=φ;have q0:=congrArg HK qg.u;rw[qe]at q0;simp only[Ñ]at q0;have q5:=Ab q4;have qh:=Ab qe;obtain⟨bb,qq,_⟩:=q4.ptr;clear q4 qe;generalize ps[k]=pk at*;subst qq;have qk:=hT.below (hf.low.mono q9);by_cases h0:0<k
   .have e0:decide ((0:Int)<(k:Int))=true:=ω;rw[if_pos h0]at q0;simp only[É,á]at q0;go_wp2_with fail;refine(BF 44 _ rfl qd.u ω qb).mono ?_;rintro e w3⟨rfl,h3,f3⟩;go_wp2_with fail;refine(hV B b _ _ es[k] w3 F h3 (q5.u.low hF f3.low) hF (qk.below (f3.low.mono q9)) q9 (Ã qb f3.low.size) ω).mono ?_;rintro e w4⟨rfl,h4,f4⟩;go_wp2;go_roundw
    case rel=>exact⟨k+1,ζ,ψ,by rw[qg.u,if_pos h0,qh.u];grind,(hf.trans f3).trans f4⟩
    case measure=>simp[CR];omega
   .have e0:decide ((0:Int)<(k:Int))=false:=ω;rw[if_neg h0]at q0;simp only[á]at q0;go_wp2_with fail;refine(hV B b _ _ es[k] wr F qd.u q5.u hF qk q9 qb ω).mono ?_;rintro e w4⟨rfl,h4,f4⟩;go_wp2;go_roundw
    case rel=>exact⟨k+1,ζ,ψ,by rw[qg.u,if_neg h0,qh.u];grind,hf.trans f4⟩
    case measure=>simp[CR];omega
  .go_wp2_with fail;refine(BF 93 _ rfl qd.u ω qb).mono ?_;rintro e w3⟨rfl,h3,f3⟩;go_wp2;go_end0;refine⟨rfl,?_,hf.trans f3⟩;rw[Ï (by have:=qi.u;have:=qj.u;simp;omega)]at h3;grind
theorem Ym{b:Nat}{w:AS}(h:Bu B b q0 w)(hB:B<=w.1.size)(hl:q0.length+2<=140737488355328):
  CL AI 105 #[PtB b,.slice none 0 0] w λe w'=>e=.returned (.tuple #[])/\Bu B b (q0++91::([]++[93])) w'/\Fr B b w w':=by
 go_enter func105,ntmps105;go_wp2_with fail;refine(BF 91 _ rfl h ζ hB).mono ?_;rintro e w1⟨rfl,h1,f1⟩;go_wp2_with fail;refine ø 1 ?_;rw[ď];go_wp2_with fail;refine(BF 93 _ rfl h1 ω (Ã hB f1.low.size)).mono ?_;rintro e w3⟨rfl,h3,f3⟩;go_wp2;go_end0;exact⟨rfl,ε,f1.trans f3⟩
theorem Pt.keys{P:A5->pL->Prop}:∀{l:List (Lit×F2 A5)}{m:List (Lit×pL)},Pt P l m->strKeys (.map l)=rV m
 |[],[],_=>rfl
 |a::r,b::s,⟨⟨kk,_⟩,t⟩=>by
  have h:=Pt.keys t;simp only[strKeys,rV,Ð]at h |-;rw[kk,h];congr 1
theorem Pt.look{P:A5->pL->Prop}(k:By):∀{l:List (Lit×F2 A5)}{m:List (Lit×pL)},Pt P l m->A4 (.map l) (.string k)=true ->∃x,(B1 l).atKey (.string k) (.held (.pointer none))=.held x/\P x (rW m k)
 |[],[],_,h=>by cases h
 |a::r,b::s,⟨⟨kk,x,e,hp⟩,t⟩,h=>by
  cases hs:a.1.sameKey (.string k)with
  |true=>
   refine⟨x,?_,?_⟩
   .simp[DA,hs,e]
   .have hs2:b.1.sameKey (.string k)=true:=ε;simpa[rW,DA,hs2]using hp
  |false=>
   have hs2:b.1.sameKey (.string k)=false:=ε;have h2:A4 (.map r) (.string k)=true:=by
    have h3:(a::r).any (λp=>p.1.sameKey (.string k))=true:=h;rw[ļ,hs,Bool.false_or]at h3;exact h3
   obtain⟨y,h4,h5⟩:=Pt.look k t h2;refine⟨y,?_,?_⟩
   .simpa[DA,F5,hs]using h4
   .simpa[rW,DA,F5,hs2]using h5
theorem Pt.len{P:A5->pL->Prop}:∀{l:List (Lit×F2 A5)}{m:List (Lit×pL)},Pt P l m->l.length=m.length
 |[],[],_=>rfl
 |_::_,_::_,⟨_,d⟩=>congrArg (· + 1) (Pt.len d)
def rB(es:List (Lit×pL)):List By:=(rV es).mergeSort λx y=>decide (x<=y)
def qN(f:Nat)(es:List (Lit×pL))(k:By):By:=Ai k++58::pP f (rW es k)
theorem vO(f:Nat)(es:List (Lit×pL)):pP (f+1) (Ap es)=123::(Ah ((rB es).map (qN f es))++[125]):=rfl
theorem vP(es:List (Lit×pL)):(rB es).length=es.length:=by
 grind [rB,rV,D6]
theorem wC(l:List By):l.length<=(Bp l).length:=by
 induction l with
 |nil=>simp
 |cons x r ih=>simp[Bp];omega
theorem wD(l:List By)(h:∀x∈l,0<x.length):l.length<=(Ah l).length:=by
 cases l with
 |nil=>simp
 |cons x r=>have:=h x φ;have:=wC r;simp[Ah];omega
theorem vE(s:By):s.length+2<=(Ai s).length:=by
 have h:∀s:By,s.length<=(AF s).length:=by
  intro s;induction s with
  |nil=>simp
  |cons c r ih=>
   grind [AF,Ai,BE]
 have:=h s;simp[Ai];omega
theorem uY(f:Nat)(es:List (Lit×pL))(k:By):(qN f es k).length=(Ai k).length+(1+(pP f (rW es k)).length):=by
 simp[qN];omega
theorem wE(f:Nat)(es:List (Lit×pL)):es.length<=(Ah ((rB es).map (qN f es))).length:=by
 have h:=wD ((rB es).map (qN f es)) (by
  grind [uY,vP,rB])
 grind [uY,vP,rB]
theorem lC{n:Nat}{w:AS}(ho:w.ownsMap AI 9 RV m n (.map D))(hp:Pt (Rep f F w) D es){k:By}(hk:k∈rB es):
  A4 (.map D) (.string k)=true/\keyOf AI 9 (.string ⟨k.toArray⟩)=some (.string k):=by
 have h1:k∈strKeys (.map D):=by
  rw[hp.keys];exact(ĕ _ _).mem_iff.1 hk
 obtain⟨p,q5,hpk⟩:=Ò.1 (show k∈D.map λp=>strOf p.1 from h1);obtain⟨D',hD,q4⟩:=ho.keysOf;cases hD;obtain⟨key,q0⟩:=q4 p q5;obtain⟨x,hx,q6,q7⟩:=Maps.keyOf_str underlying9 q0;rw[q6]at hpk q0;have:x=k:=hpk;subst this;subst hx;refine⟨?_,q0⟩;rw[Maps.has_eq,è];exact⟨p,q5,by rw[q6];simp[HP]⟩
def SR(w:AS)(g n:Nat)(ks:List By):Prop:=∃cur,w.1[g]?=some (.cells cur 9 (0,0))/\cur.toList.take n=ks.map encStr
theorem SR.cell{w:AS}{g n:Nat}(h:SR w g n ks)(k:Nat)(hk:k<ks.length):CeB w g k=some (.string ⟨ks[k].toArray⟩):=by
 obtain⟨cur,hb,ht⟩:=h;have h1:(ks.map encStr)[k]?=some (.string ⟨ks[k].toArray⟩):=ε;rw[<-ht]at h1;have q0:k<n:=by
  grind
 rw[List.getElem?_take_of_lt q0]at h1;simp[B3,hb];grind
theorem SR.fr{b:Nat}{w:AS}{g n:Nat}(h:SR w g n ks)(hf:Fr B b w w')(hb:g≠b):SR w' g n ks:=by
 obtain⟨cur,h1,h2⟩:=h;exact⟨cur,hf.oth _ _ h1 hb ε,h2⟩
theorem fQ{n:Nat}{w:AS}(hF:∀k,F k->k<B)(hm:F m)(ho:w.ownsMap AI 9 RV m n (.map D))(hp:Pt (Rep f F w) D es)(hb:Below B w w'):
  w'.ownsMap AI 9 RV m n (.map D)/\Pt (Rep f F w') D es:=⟨A0 ho (hb.block m (hF m hm)),hp.mono λ_ _ hr=>hr.low hF hb⟩
theorem oV{b n:Nat}{qo:By}(hV:QJ f){w:AS}(h:Bu B b qo w)(hF:∀k,F k->k<B)(hT:Aj w)(qd:NG<=B)(hB:B<=w.1.size)(hm:F m)(ho:w.ownsMap AI 9 RV m n (.map D))(hp:Pt (Rep f F w) D es)(hl:qo.length+(1+((Ah ((rB es).map (qN f es))).length+1))<=8796093022208):
  CL AI 106 #[PtB b,.map (some m)] w λe w'=>e=.returned (.tuple #[])/\Bu B b (qo++123::(Ah ((rB es).map (qN f es))++[125])) w'/\Fr B b w w':=by
 have zb:=C9;have zc:=DI;have zq:=wE f es;have zt:=hp.len;have HO:=Ab (λw' (hb:Below B w w')=>fQ hF hm ho hp hb);have zf:=Ab (λk (hk:k∈rB es)=>lC ho hp hk);have zh:=Ab hp.keys;have z8:=h;clear ho hp;go_enter func106,ntmps106;go_wp2_with fail;refine(BF 123 _ rfl h ζ hB).mono ?_;rintro e w1⟨rfl,h1,f1⟩;have zi:B<=w1.1.size:=Ã hB f1.low.size;go_wp2_with fail;refine(ķ.1 (Tryz.maps_Keys_141 (some m) w1)).mono ?_;rintro e w2⟨rfl,rfl⟩;go_wp2_with fail;refine(ķ.1 (Tryz.slices_Sorted_keys_140_141 m n (.map D) RV w1 (HO.u w1 f1.low).1 (by rw[D2];unfold D1;omega) (by rw[D2];omega))).mono ?_;rintro e w3⟨v,ss,rfl,q5,qm,qk,hb3⟩;have q4:Bl w1 w3:=((Â _ w1).alloc (Á _) _).trans (hb3.mono φ);have h3:=Dx h1 q4;have f3:Fr B b w w3:=f1.trans ⟨q4.mono zi,OKz.below q4⟩;have zj:B<=w3.1.size:=Ã hB f3.low.size;have qq:ss.mergeSort (λx y=>decide (x<=y))=rB es:=by
  rw[mergeSort_of_perm q5,zh.u];rfl
 have q7:ss.length=(rB es).length:=by rw[<-qq,D6]
 rw[qq]at qm;have zk:=dL h1;have zl:(w1.alloc (.cells #[.map (some m)] 109)).1.size=w1.1.size+1:=φ;rcases qm with⟨ze,⟨rfl,zr⟩|⟨g,cap,cur,rfl,hg,za,qj,qw,zm,htk⟩⟩
 .have qi:rB es=[]:=ε;have HE:=Ab qi;clear qq ze zr qk q5 h h1 f1 hb3 q4 qi q7 z8;go_wp2_with fail;refine ø 1 ?_;rw[ď];go_wp2_with fail;refine(BF 125 _ rfl h3 ω zj).mono ?_;rintro e w4⟨rfl,h4,f4⟩;go_wp2;go_end0;refine⟨rfl,?_,f3.trans f4⟩;rw[HE.u];simpa[Ah]using h4
 .have zu:SR w3 g (rB es).length (rB es):=⟨cur,za,ε⟩
  have qg:g≠b:=ζ;rw[q7]at qj |-;clear qq ze qk q5 h h1 f1 hb3 q4 za htk zm q7 z8;generalize qi:rB es=ks at*;have zx:(ks.length:Int)<=9223372036854775807:=by unfold D1 at qw;omega
  have zg:=Ab qi;clear qi;go_wp2;go_loopw [12] (λi wr=>∃k:Nat,k<=ks.length/\i=.int .i64 k/\Bu B b (qo++123::Ah ((ks.map (qN f es)).take k)) wr/\Fr B b w wr/\SR wr g ks.length ks) (λi _=>ks.length-(CR i).toNat)
  case atStart=>grind [qN,rB,Ah]
  case round=>
   obtain⟨k,hk,rfl,z9,hf,z0⟩:=hrel;have qt:=Ab z9;have qe:B<=wr.1.size:=Ã hB hf.low.size;have zw:=Ch (ks.map (qN f es)) k;clear z9 h3 f3;by_cases hlt:k<ks.length
   .have cc:=z0.cell k hlt;have zo:k<(ks.map (qN f es)).length:=ε;have z1:=Ab (Eg (ks.map (qN f es)) k zo);have zn:=Ch (ks.map (qN f es)) (k+1);have qy:(ks.map (qN f es))[k]=qN f es ks[k]:=φ;have q0:=congrArg HK z1.u;rw[qy]at q0;simp only[Ñ]at q0;have zv:=uY f es ks[k];have zy:=vE ks[k];have z7:=zf.u ks[k] (Ó hlt);have qr:=Ab z7;have z2:=Ab qy;have z4:=Ab z0;clear z7 qy z0;generalize ks[k]=key at*;have qh:=qr.u.2;have z3:=Ab qh;clear qh;have z6:=hT.below (hf.low.mono qd);by_cases h0:0<k
    .have e0:decide ((0:Int)<(k:Int))=true:=ω;rw[if_pos h0]at q0;simp only[É,á]at q0;go_wp2_with fail;refine(BF 44 _ rfl qt.u ω qe).mono ?_;rintro e w4⟨rfl,h4,f4⟩;have z5:B<=w4.1.size:=Ã qe f4.low.size;go_wp2_with fail;refine(EX key h4 ω z5).mono ?_;rintro e w5⟨rfl,h5,f5⟩;have qb:B<=w5.1.size:=Ã z5 f5.low.size;go_wp2_with fail;refine(BF 58 _ rfl h5 ω qb).mono ?_;rintro e w6⟨rfl,h6,f6⟩;have qu:B<=w6.1.size:=Ã qb f6.low.size;have q9:=(hf.trans f4).trans (f5.trans f6);have q6:=HO.u w6 q9.low;obtain⟨x,px,qz,qf⟩:=q6.1.lookup zb underlying109 (zc w6) (zd:=.held (.pointer none)) (zp:=[]) rfl z3.u;obtain⟨y,qn,q8⟩:=Pt.look key q6.2 qr.u.1;rw[qn]at qf;obtain rfl:x=y:=by
      grind [qN,rB,Ah,D2,D3,RV,CR,D1]
     have HY:=Ab q8;obtain⟨bb,qv,_⟩:=q8.ptr;subst qv;clear qf qn q8 q6;go_wp2_with fail;refine(hV B b _ _ (rW es key) w6 F h6 HY.u hF (z6.below (((f4.trans f5).trans f6).low.mono qd)) qd qu ω).mono ?_;rintro e w7⟨rfl,h7,f7⟩;go_wp2;go_roundw
     case rel=>exact⟨k+1,ζ,ψ,by rw[z1.u,if_pos h0,z2.u];simpa[qN]using h7,q9.trans f7,z4.u.fr (((f4.trans f5).trans f6).trans f7) qg⟩
     case measure=>simp[CR];omega
    .have e0:decide ((0:Int)<(k:Int))=false:=ω;rw[if_neg h0]at q0;simp only[á]at q0;go_wp2_with fail;refine(EX key qt.u ω qe).mono ?_;rintro e w5⟨rfl,h5,f5⟩;have qb:B<=w5.1.size:=Ã qe f5.low.size;go_wp2_with fail;refine(BF 58 _ rfl h5 ω qb).mono ?_;rintro e w6⟨rfl,h6,f6⟩;have qu:B<=w6.1.size:=Ã qb f6.low.size;have q9:=hf.trans (f5.trans f6);have q6:=HO.u w6 q9.low;obtain⟨x,px,qz,qf⟩:=q6.1.lookup zb underlying109 (zc w6) (zd:=.held (.pointer none)) (zp:=[]) rfl z3.u;obtain⟨y,qn,q8⟩:=Pt.look key q6.2 qr.u.1;rw[qn]at qf;obtain rfl:x=y:=by
      grind [qN,rB,Ah,D2,D3,RV,CR,D1]
     have HY:=Ab q8;obtain⟨bb,qv,_⟩:=q8.ptr;subst qv;clear qf qn q8 q6;go_wp2_with fail;refine(hV B b _ _ (rW es key) w6 F h6 HY.u hF (z6.below ((f5.trans f6).low.mono qd)) qd qu ω).mono ?_;rintro e w7⟨rfl,h7,f7⟩;go_wp2;go_roundw
     case rel=>exact⟨k+1,ζ,ψ,by rw[z1.u,if_neg h0,z2.u];simpa[qN]using h7,q9.trans f7,z4.u.fr ((f5.trans f6).trans f7) qg⟩
     case measure=>simp[CR];omega
   .go_wp2_with fail;refine(BF 125 _ rfl qt.u ω qe).mono ?_;rintro e w4⟨rfl,h4,f4⟩;go_wp2;go_end0;refine⟨rfl,?_,hf.trans f4⟩;rw[Ï ω]at h4;rw[zg.u];grind
section
variable{w:AS}{b:Nat}{k:Int}{n:Nm}{s:By}{sl mp:A5}
theorem VB.c0(h:VB w b k n s sl mp):CeB w b 0=some (InB k):=ck h
theorem VB.c1(h:VB w b k n s sl mp):CeB w b 1=some (.bool n.1):=ck h
theorem VB.c2(h:VB w b k n s sl mp):CeB w b 2=some (.string ⟨n.2.1.toArray⟩):=ck h
theorem VB.c3(h:VB w b k n s sl mp):CeB w b 3=some (InB n.2.2):=ck h
theorem VB.c4(h:VB w b k n s sl mp):CeB w b 4=some (.string ⟨s.toArray⟩):=ck h
theorem VB.c5(h:VB w b k n s sl mp):CeB w b 5=some sl:=ck h
theorem VB.c6(h:VB w b k n s sl mp):CeB w b 6=some mp:=ck h
end
theorem Aj.word{w:AS}(h:Aj w)(k:Nat)(hk:k<3):w.cell? ⟨0,k,none⟩=some (.string ⟨(Dc k).toArray⟩):=by
 obtain⟨t,fr,e⟩:=h.words
 match k,hk with
 |0,_=>simp[B3,e,CU,Dc,rE]
 |1,_=>simp[B3,e,CU,Dc,rE]
 |2,_=>simp[B3,e,CU,Dc,rE]
theorem Vq{b k:Nat}{w:AS}(h:Bu B b q0 w)(hk:k<3)(hvb:VB w vb k n0 [] (.slice none 0 0) (.map none))(hT:Aj w)(hB:B<=w.1.size)(hl:q0.length+5<=8796093022210):
  CL AI 78 #[PtB b,PtB vb] w λe w'=>e=.returned (.tuple #[])/\Bu B b (q0++Dc k) w'/\Fr B b w w':=by
 have c0:=hvb.c0;have cw:=hT.word k hk;have q4:=JH k hk;clear hT hvb;have e3:((k:Int)==3)=false:=ω;have e4:((k:Int)==4)=false:=ω;have e5:((k:Int)==5)=false:=ω;have e6:((k:Int)==6)=false:=ω;generalize Dc k=wk at*;go_enter func78,ntmps78;go_wp2_with fail;refine(KZ wk h ζ hB).mono ?_;rintro e w1⟨rfl,h1,f1⟩;go_wp2;go_end0;grind
theorem Yk{b:Nat}{n:Nm}{w:AS}(h:Bu B b q0 w)(hvb:VB w vb 3 n [] (.slice none 0 0) (.map none))(hT:Aj w)(q4:NG<=B)(hB:B<=w.1.size)(h0:-100000000<=n.2.2)(h1:n.2.2<=100000000)(hl:q0.length+(BI n).length<=8796093022208):
  CL AI 78 #[PtB b,PtB vb] w λe w'=>e=.returned (.tuple #[])/\Bu B b (q0++BI n) w'/\Fr B b w w':=by
 have c0:=hvb.c0;have c1:=hvb.c1;have c2:=hvb.c2;have c3:=hvb.c3;clear hvb;go_enter func78,ntmps78;go_wp2_with fail;refine(LE n h ζ hB hT q4 h0 h1).mono ?_;rintro e w1⟨rfl,h1,f1⟩;go_wp2;go_end0;grind
theorem Yi{b:Nat}{s:By}{w:AS}(h:Bu B b q0 w)(hvb:VB w vb 4 n0 s (.slice none 0 0) (.map none))(hB:B<=w.1.size)(hl:q0.length+(Ai s).length<=8796093022208):
  CL AI 78 #[PtB b,PtB vb] w λe w'=>e=.returned (.tuple #[])/\Bu B b (q0++Ai s) w'/\Fr B b w w':=by
 have c0:=hvb.c0;have c4:=hvb.c4;have hq:=vE s;clear hvb;go_enter func78,ntmps78;go_wp2_with fail;refine(EX s h ζ hB).mono ?_;rintro e w1⟨rfl,h1,f1⟩;go_wp2;go_end0;grind
theorem Yl{b:Nat}{sl:A5}{ps:List A5}{es:List pL}{q5:By}{w:AS}(hV:QJ f)(h:Bu B b q5 w)(hF:∀k,F k->k<B)(hvb:VB w vb 5 n0 [] sl (.map none))(hT:Aj w)(q9:NG<=B)(hB:B<=w.1.size)(ho:w.ownsRow 0 80 1 sl ps.length ps)(hs:∀g,sl.ownBlock=some g->F g)(ha:Al (Rep f F w) ps es)(hl:q5.length+(1+((Ah (es.map (pP f))).length+1))<=8796093022208):
  CL AI 78 #[PtB b,PtB vb] w λe w'=>e=.returned (.tuple #[])/\Bu B b (q5++91::(Ah (es.map (pP f))++[93])) w'/\Fr B b w w':=by
 have c0:=hvb.c0;have c5:=hvb.c5;have hal:=ha.length;clear hvb;rcases ho.2 with⟨rfl,hn⟩|⟨g,cap,cur,rfl,hg,qf,q0,q6,qb,htk⟩
 .have qd:es=[]:=ε;subst qd;clear ho hs ha hal hn;go_enter func78,ntmps78;go_wp2_with fail;refine(Ym h hB ζ).mono ?_;rintro e w1⟨rfl,h1,f1⟩;go_wp2;go_end0;exact⟨rfl,h1,f1⟩
 .have q4:∀k (h:k<ps.length),w.cell? ⟨g,k,none⟩=some ps[k]:=by
   intro k hk;have:=ho.cellAt k ζ;grind
  have qe:=hF g (hs g rfl);have HL:=Ab hl;clear ho hs hal qf qb htk hl;generalize q7:ps.length=np at c5 q0;have q8:=Ab q7;clear q7;go_enter func78,ntmps78;go_wp2_with fail;refine(Vr hV h hF hT q9 hB q8.u.symm q0 q6 q4 qe ha HL.u).mono ?_;rintro e w1⟨rfl,h1,f1⟩;go_wp2;go_end0;grind
theorem Yj{b n:Nat}{w:AS}(hV:QJ f)(h:Bu B b q0 w)(hF:∀k,F k->k<B)(hvb:VB w vb 6 n0 [] (.slice none 0 0) (.map (some m)))(hT:Aj w)(q4:NG<=B)(hB:B<=w.1.size)(hm:F m)(ho:w.ownsMap AI 9 RV m n (.map D))(hp:Pt (Rep f F w) D es)(hl:q0.length+(1+((Ah ((rB es).map (qN f es))).length+1))<=8796093022208):
  CL AI 78 #[PtB b,PtB vb] w λe w'=>e=.returned (.tuple #[])/\Bu B b (q0++123::(Ah ((rB es).map (qN f es))++[125])) w'/\Fr B b w w':=by
 have c0:=hvb.c0;have c6:=hvb.c6;have HL:=Ab hl;clear hvb hl;go_enter func78,ntmps78;go_wp2_with fail;refine(oV hV h hF hT q4 hB hm ho hp HL.u).mono ?_;rintro e w1⟨rfl,h1,f1⟩;go_wp2;go_end0;grind
theorem nB:∀f,QJ f:=by
 intro f;induction f with
 |zero=>intro B b q4 v d w F _ hr;exact hr.elim
 |succ f ih=>
  intro B b q4 v d w F h hr hF hT q0 hB hl;obtain⟨vb,rfl,hb,hr⟩:=hr;rcases hr with⟨k,hk,rfl,hvb⟩|⟨n,rfl,hvb,q5,q6⟩|⟨s,rfl,hvb⟩|⟨es,sl,ps,rfl,hvb,ho,hs,ha⟩|⟨es,m,n,D,rfl,hvb,hm,ho,hp⟩
  .rw[GZ]at hl |-;have hw:4<=(Dc k).length:=by
    match k,hk with
    |0,_=>decide
    |1,_=>decide
    |2,_=>decide
   exact Vq h hk hvb hT hB (by have:=JH k hk;unfold Dc at*;omega)
  .rw[IA]at hl |-;exact Yk h hvb hT q0 hB q5 q6 hl
  .rw[Gt]at hl |-;exact Yi h hvb hB hl
  .rw[BH]at hl |-;refine Yl ih h hF hvb hT q0 hB ho hs ha ?_;grind
  .rw[vO]at hl |-;refine Yj ih h hF hvb hT q0 hB hm ho hp ?_;grind
theorem EC{d:pL}{w:AS}(hr:Rep f F w v d)(hT:Aj w)(hl:(pP f d).length<=8796093022208):
  CB 55 #[v] w (.string ⟨(pP f d).toArray⟩):=by
 have hF:Rep f (λk=>k<w.1.size) w v d:=hr.move ε;obtain⟨vb,rfl,hlt,_⟩:=hr.ptr;have q0:=(Â w.1.size w).alloc (Á _) (.cells #[.pointer none,.slice none 0 0] 119);have h0:Bu w.1.size w.1.size [] (w.alloc (.cells #[.pointer none,.slice none 0 0] 119)):=Å ⟨Á _,.slice none 0 0,by show(w.1.push _)[w.1.size]?=_;simp,å _ _ _ _,by simp[Value.ownBlock]⟩;have q6:=hF.low (λk hk=>hk) q0;have q4:=hT.below (q0.mono hT.ng);have q5:=hT.ng;clear hr hF hT;go_enter func55,ntmps55;go_wp2_with fail;refine(nB f w.1.size w.1.size [] _ d _ _ h0 q6 (λk hk=>hk) q4 q5 φ ε).mono ?_;rintro e w1⟨rfl,h1,f1⟩;go_wp2_with fail;refine(Tryz.Builder_String_any w.1.size w.1.size _ w1 h1 (by have:=f1.low.size;simp at this;omega)).mono ?_;rintro e w2⟨rfl,hb2⟩;go_wp2;go_ret;exact⟨φ,(q0.trans f1.low).trans hb2⟩
theorem gF(cl:UInt8)(item:By->σ->Option (By×σ))(I:By->σ->Prop)(hm:∀l l' s,I l s->l'.length<=l.length->I l' s)(hi:∀l s l' s',I l s->item l s=some (l',s')->I l' s')(n:Nat):
  ∀(l:By) (s:σ) (r:By) (s':σ),I l s->qZ cl item n l s=some (r,s')->I r s':=by
 induction n with
 |zero=>intro l s r s' _ h;cases h
 |succ n ih=>
  intro l s r s' hI h;unfold qZ at h;split at h
  .cases h
  .rename_i l1 s1 h1;have h2:=hi _ _ _ _ (hm _ _ _ hI (Az l)) h1;have c:=Az l1;grind
theorem CW{op:UInt8}{item:By->σ->Option (By×σ)}(I:By->σ->Prop)(hm:∀l l' s,I l s->l'.length<=l.length->I l' s)(hi:∀l s l' s',I l s->item l s=some (l',s')->I l' s'){s:σ}{s':σ}(hI:I l.tail s)(h:AZ op cl item l s=some (r,s')):I r s'/\0<l.length:=by
 unfold AZ at h;split at h
 .rename_i k;have:=AV k;have b:=Az l.tail;split at h
  .grind
  .exact⟨gF cl item I hm hi _ _ _ _ _ (hm _ _ _ hI b) h,ζ⟩
 .cases h
theorem lF{n:Nm}(h:rO l=some (n,r)):n.2.1.length+r.length<=l.length:=by
 have hf:∀{l:By}{n r},AY l=some (n,r)->r.length<=l.length:=by
  intro l n r h;unfold AY at h;have a:=Cw l.tail;have b:=Cw l.tail.tail;grind
 have hb:∀{b:Bool}{l:By}{n r},BM b l=some (n,r)->n.2.1.length+r.length<=l.length:=by
  intro b l n r h;unfold BM at h;have a:=Cw l;split at h
  .cases h
  .split at h
   .cases h
   .rename_i f r1 h1;have:=Fj h1;split at h
    .cases h
    .rename_i e r2 h2;have:=hf h2;injection h with h;injection h with h3 h4;subst h4;subst h3;have h5:(Ce b (dg l++f) (e-f.length)).2.1.length<=(dg l++f).length:=by
      unfold Ce;have h1:=Ha (dg l++f) 48;have h2:=FF (A1 (dg l++f) 48) 48;grind
     grind
 unfold rO at h;grind
theorem Fm(s:By):(Ai s).length<=6*s.length+2:=by
 have:=Lo s;simp[Ai];omega
theorem Ps{s:By}(h:rJ l=some (s,r)):s.length+4*r.length+4<=4*l.length:=by
 unfold rJ at h;split at h
 .rename_i k;have:=AV k;have:=Tn _ _ _ _ h;omega
 .cases h
theorem Ka(l:List By):(Bp l).length=(l.map λx=>x.length+1).sum:=by
 induction l with
 |nil=>rfl
 |cons x r ih=>simp[Bp,ih];omega
theorem FO(l:List By):(Ah l).length<=(l.map λx=>x.length+1).sum:=by
 cases l with
 |nil=>simp[Ah]
 |cons x r=>simp[Ah,Ka]
def ent(g:Nat)(p:Lit×pL):Nat:=(Ai (strOf p.1)).length+(pP g p.2).length+2
def DV(g:Nat)(es:List (Lit×pL)):Nat:=(es.map (ent g)).sum
theorem Rp(g:Nat)(x:Lit×pL)(l:List (Lit×pL)):DV g (A2 x l)=ent g x+DV g l:=by
 induction l with
 |nil=>rfl
 |cons y r ih=>
  unfold A2;split
  .rfl
  .simp only[DV,Ð,Ĉ]at ih |-;omega
theorem Rq(g:Nat)(c:Lit×pL->Bool)(l:List (Lit×pL)):DV g (l.filter c)<=DV g l:=by
 induction l with
 |nil=>simp
 |cons y r ih=>
  rw[Ġ];split
  .simp only[DV,Ð,Ĉ]at ih |-;omega
  .simp only[DV,Ð,Ĉ]at ih |-;omega
def Vh(g C:Nat)(l:By)(v:pL):Prop:=∃es,v=.map es/\es.Pairwise (λp q=>p.1≠q.1)/\(∀p∈es,∃x,p.1=.string x)/\DV g es+40*l.length<=C
theorem SD{g:Nat}(hp:es.Pairwise (λp q=>p.1≠q.1))(hk:∀p∈es,∃x,p.1=.string x):
  (Ah ((rB es).map (qN g es))).length<=DV g es:=by
 refine Ã (FO _) ?_;rw[Ý];have h1:((rB es).map ((λx=>x.length+1) ∘ qN g es)).Perm ((rV es).map ((λx=>x.length+1) ∘ qN g es)):=(ĕ _ _).map _;rw[h1.sum_nat];unfold rV DV;rw[Ý];apply Nat.le_of_eq;congr 1;apply ä;intro p q0;obtain⟨x,hx⟩:=hk p q0;have h2:rW es x=p.2:=by
  unfold rW;exact Ă .nil trivial hp ε
 obtain⟨k,v⟩:=p;simp only at hx h2;subst hx;simp only[HF,ent,strOf];rw[uY,h2];omega
theorem Vh.put{g C:Nat}{l' k:By}{v d:pL}(h:Vh g C l v)(he:(Ai k).length+(pP g d).length+2+40*l'.length<=40*l.length):Vh g C l' (CD v (.string k) d):=by
 obtain⟨es,rfl,hp,hk,hs⟩:=h;obtain⟨es',e1,q4⟩:=Tidy.put (D:=B1 es) (k:=.string k) ⟨es,rfl,hp⟩ trivial d;refine⟨es',e1,q4,?_,?_⟩
 .have e2:es'=A2 (.string k,d) (es.filter λp=>!p.1.sameKey (.string k)):=by
   have:B1 (A2 (.string k,d) (es.filter λp=>!p.1.sameKey (.string k)))=B1 es':=e1;grind
  intro p q0;rw[e2]at q0;rcases Ë.1 ((ö _ _).mem_iff.1 q0)with rfl|h2
  .grind
  grind
 .have e2:es'=A2 (.string k,d) (es.filter λp=>!p.1.sameKey (.string k)):=by
   have:B1 (A2 (.string k,d) (es.filter λp=>!p.1.sameKey (.string k)))=B1 es':=e1;grind
  rw[e2,Rp];have h4:DV g (es.filter λp=>!p.1.sameKey (.string k))<=DV g es:=Rq g _ es;show ent g (.string k,d)+DV g (es.filter λp=>!p.1.sameKey (.string k))+40*l'.length<=C;have h3:ent g (.string k,d)=(Ai k).length+(pP g d).length+2:=rfl;omega
theorem Nl(k:Nat):(rE.getD k []).length<=5:=by
 match k with
 |0=>decide
 |1=>decide
 |2=>decide
 |k+3=>simp[rE]
theorem jN(f:Nat):∀(lv:Int) (l:By) (fl:Fl) (v:pL) (r:By) (fl':Fl),l.length<=2000->qL f lv l fl=some (v,r,fl') ->∀g,(pP g v).length+2+40*r.length<=40*l.length:=by
 induction f with
 |zero=>intro lv l fl v r fl' _ h;cases h
 |succ f ih=>
  intro lv l fl v r fl' hl h g;have q6:=EO _ _ _ _ _ _ _ h;cases g with
  |zero=>simp[pP];omega
  |succ g=>
   unfold qL at h;split at h
   .split at h
    .cases h
    .rename_i h1;have hI:=CW (σ:=pL×Fl) (λm s=>Vh g (40*l.tail.length) m s.1/\m.length<=2000) (λa b s ⟨⟨es,e1,e2,e3,e4⟩,e5⟩ hab=>⟨⟨es,e1,e2,e3,ζ⟩,ζ⟩) (by
      rintro a s a' s' ⟨ho,ha⟩hm;unfold Cx at hm;split at hm
      .cases hm
      .rename_i k l1 hq;have q1:=Ps hq;have q2:=Fm k;have b:=Az l1;split at hm
       .rename_i htk;have ht:=AV htk;have c:=Az (pR l1).tail;split at hm
        .cases hm
        .rename_i d r2 q5 hv;have hc:=ih _ _ _ _ _ _ ζ hv g;cases hm;exact⟨ho.put ζ,ζ⟩
       .cases hm) ⟨⟨[],rfl,Ī,φ,by simp[DV]⟩,ε⟩ h1
     obtain⟨⟨⟨es,e1,e2,e3,e4⟩,e5⟩,hpos⟩:=hI;injection h with h;injection h with h2 h3;injection h3 with h3 h4;subst h2;subst h3;rename_i v2 _ _ _;simp only at e1;subst e1;have h9:=SD (g:=g) e2 e3;have e6:pP (g+1) (B1 es)=123::(Ah ((rB es).map (qN g es))++[125]):=rfl;grind
   .split at h
    .split at h
     .cases h
     .rename_i h1;have hI:=CW (σ:=List pL×Fl) (λm s=>(s.1.map λv=>(pP g v).length+1).sum+40*m.length<=40*l.tail.length/\m.length<=2000) ζ (by
       rintro a s a' s' ⟨ho,ha⟩hm;unfold CQ at hm;split at hm
       .cases hm
       .rename_i d r2 q5 hv;have hc:=ih _ _ _ _ _ _ ha hv g;grind) ε h1
      obtain⟨⟨e4,e5⟩,hpos⟩:=hI;injection h with h;injection h with h2 h3;injection h3 with h3 h4;subst h2;subst h3;rw[BH];rename_i q0 _;have h9:=FO (q0.map (pP g));rw[Ý]at h9;have:=į (l:=l);simp only[É,Ñ,á];simp only[Function.comp_def]at h9;grind
    .split at h
     .split at h
      .cases h
      .rename_i s r1 h1;have q1:=Ps h1;have q2:=Fm s;injection h with h;injection h with h2 h3;injection h3 with h3 h4;subst h2;subst h3;rw[Gt];omega
     .split at h
      .split at h
       .cases h
       .rename_i n r1 h1;have q1:=lF h1;have q2:=J1 h1 hl;have q3:=Zj n;have q4:=Lib.itoa_length_le n.2.2 ζ ζ;injection h with h;injection h with h2 h3;injection h3 with h3 h4;subst h2;subst h3;rw[IA];omega
      .split at h
       .cases h
       .rename_i k r1 h1;injection h with h;injection h with h2 h3;injection h3 with h3 h4;subst h2;subst h3;rw[GZ];have:=Nl k;omega
theorem Ge{t:By}{v:pL}(h:qB t d x=(0,some v))(g:Nat):(pP g v).length<=80000:=by
 unfold qB at h;split at h
 .grind
 .rename_i hl;have hs:=Az t;split at h
  .grind
  .rename_i v2 r fl hv;have hb:=jN _ _ _ _ _ _ _ ζ hv g;grind
def Sc(c:Nat):Prop:=c<55296\/(57344<=c/\c<=1114111)
abbrev qS(c:Nat):By:=AT (c:Int)
def Ut(s:By):Prop:=∃cs:List Nat,(∀c∈cs,Sc c)/\s=cs.flatMap qS
theorem eV(h:Br l=some (m,r)):Sc m:=by
 unfold Br at h;split at h
 .cases h
 .rename_i a r1 hx;have h2:=Mo hx;unfold Sc;grind
theorem aK(l:By)(T:List (UInt8×Nat))(hT:∀x∈T,x.2<55296)(h:Cy l T=some (m,r)):Sc m:=by
 induction T with
 |nil=>cases h
 |cons x T ih=>
  obtain⟨c,n⟩:=x;rw[Cy]at h;split at h
  .injection h with h;injection h with h1 h2;have:=hT (c,n) φ;exact Å ζ
  grind
theorem Dt(l:By)(h:l≠[]):rC l=CH l.length (l.getD 0 0).toNat (l.getD 1 0).toNat (l.getD 2 0).toNat (l.getD 3 0).toNat:=by
 unfold rC;rw[if_neg ε,Lib.decode_at];have hg:∀i,(ByteArray.mk l.toArray).get! i=l.getD i 0:=by
  intro i;simp[ByteArray.get!,List.getD,Array.getElem!_eq_getD,Array.getD];split
  .grind
  .rename_i hi;rw[ĳ ζ];rfl
 rw[hg,hg,hg,hg];rfl
theorem iR(n a b c d:Nat):Sc (CH n a b c d).1:=by
 grind [Sc,CH]
theorem mE(l:By):Sc (rC l).1:=by
 by_cases h:l=[]
 .subst h;exact À ⟨η,η⟩
 .rw[Dt l h];exact iR _ _ _ _ _
theorem XR(h:rP l=some (m,r)):Sc m:=by
 unfold rP at h;split at h
 .unfold rM at h;split at h
  .exact eV h
  .exact aK _ DH η h
 .split at h
  .cases h
  .injection h with h;injection h with h1 h2;rw[<-h1];exact mE l
theorem iW(f:Nat):∀(l s r:By),Ck f l=some (s,r)->Ut s:=by
 induction f with
 |zero=>intro l s r h;cases h
 |succ f ih=>
  intro l s r h;unfold Ck at h;split at h
  .injection h with h;injection h with h1 h2;subst h1;exact⟨[],φ,rfl⟩
  .split at h
   .cases h
   .rename_i c r1 hc;split at h
    .cases h
    .rename_i s1 r2 hx;obtain⟨cs,h1,h2⟩:=ih _ _ _ hx;injection h with h;injection h with h3 h4;subst h3;exact⟨c::cs,by
      intro x hm;rcases Ë.1 hm with rfl|hm
      .exact XR hc
      grind,ε⟩
theorem V4{s:By}(h:rJ l=some (s,r)):Ut s:=by
 unfold rJ at h;split at h
 .exact iW _ _ _ _ h
 .cases h
theorem Jm(a b:By):AF (a++b)=AF a++AF b:=by
 induction a with
 |nil=>rfl
 |cons c r ih=>simp[AF,ih]
theorem Oh:∀n:Fin 16,Ci (EK n.val).toNat=some n.val:=η
theorem MO(c:UInt8)(l:By):pY (c::l)=c.toNat:=rfl
theorem ZU(a b:Nat)(ha:a<16)(hb:b<16)(l:By):A9 4 0 (48::48::EK a::EK b::l)=some (a*16+b,l):=by
 have h0:Ci 48=some 0:=η;have e1:=Oh ⟨a,ha⟩;have e2:=Oh ⟨b,hb⟩;simp only at e1 e2;simp only[A9,MO,Ą,e1,e2,show(48:UInt8).toNat=48 from rfl,h0];simp
theorem On(l:By)(h:∀x∈l,128<=x.toNat):AF l=l:=by
 induction l with
 |nil=>rfl
 |cons c r ih=>
  have hc:=h c φ;rw[AF,ih ε];unfold BE;grind
theorem DF(c:Nat)(h:c<128):AT (c:Int)=[Bs c]:=by
 rw[AT,Lib.encodeRuneZ_one ζ ζ];simp
theorem GV(c:Nat)(h:128<=c)(hc:Sc c)(l:By):(∀x∈AT (c:Int),128<=x.toNat)/\rC (AT (c:Int)++l)=(c,(AT (c:Int)).length)/\2<=(AT (c:Int)).length:=by
 unfold Sc at hc;have hn:∀z:Int,0<=z->z<256->(z.toNat.toUInt8).toNat=z.toNat:=by
  intro z h0 h1;simp;omega
 by_cases h2:c<=2047
 .rw[AT,Lib.encodeRuneZ_two ζ ζ];have a1:=hn (192+(c:Int) / 64) ζ ζ;have a2:=hn (128+(c:Int) % 64) ζ ζ;refine⟨?_,?_,φ⟩
  .intro x hx;simp only[Ð,ÿ,Ë,ģ,or_false]at hx;rcases hx with rfl|rfl
   .rw[a1];omega
   .rw[a2];omega
  .rw[Dt _ φ];simp only[Ð,ÿ,Ü,Ù,ľ,C1,a1,a2,É,á];unfold CH
   repeat' split
   all_goals first|(exfalso;omega)|(apply ą<;>simp only<;>omega)
 .by_cases h3:c<=65535
  .rw[AT,Lib.encodeRuneZ_three ζ];have a1:=hn (224+(c:Int) / 4096) ζ ζ;have a2:=hn (128+(c:Int) / 64 % 64) ζ ζ;have a3:=hn (128+(c:Int) % 64) ζ ζ;refine⟨?_,?_,φ⟩
   .intro x hx;simp only[Ð,ÿ,Ë,ģ,or_false]at hx;rcases hx with rfl|rfl|rfl
    .rw[a1];omega
    .rw[a2];omega
    .rw[a3];omega
   .rw[Dt _ φ];simp only[Ð,ÿ,Ü,Ù,ľ,C1,a1,a2,a3,É,á];unfold CH
    repeat' split
    all_goals first|(exfalso;omega)|(apply ą<;>simp only<;>omega)
  .rw[AT,Lib.encodeRuneZ_four ζ ζ];have a1:=hn (240+(c:Int) / 262144) ζ ζ;have a2:=hn (128+(c:Int) / 4096 % 64) ζ ζ;have a3:=hn (128+(c:Int) / 64 % 64) ζ ζ;have a4:=hn (128+(c:Int) % 64) ζ ζ;refine⟨?_,?_,φ⟩
   .intro x hx;simp only[Ð,ÿ,Ë,ģ,or_false]at hx;rcases hx with rfl|rfl|rfl|rfl
    .rw[a1];omega
    .rw[a2];omega
    .rw[a3];omega
    .rw[a4];omega
   .rw[Dt _ φ];simp only[Ð,ÿ,Ü,Ù,ľ,C1,a1,a2,a3,a4,É,á];unfold CH
    repeat' split
    all_goals first|(exfalso;omega)|(apply ą<;>simp only<;>omega)
theorem Cp(c d:UInt8)(l:By):pQ (c::l) d=(c==d):=rfl
theorem iY(c:Nat)(hc:Sc c)(l:By):rP (AF (AT (c:Int))++l)=some (c,l)/\pQ (AF (AT (c:Int))++l) 34=false:=by
 by_cases h:c<128
 .rw[DF c h];have e:(Bs c).toNat=c:=ω;simp only[AF,ĉ];unfold BE;rw[e];by_cases h1:c=34\/c=92
  .rw[if_pos h1];rcases h1 with rfl|rfl
   .exact⟨rfl,rfl⟩
   .exact⟨rfl,rfl⟩
  .rw[if_neg h1];by_cases h2:c<32
   .rw[if_pos h2];refine⟨?_,rfl⟩;simp only[Ü,Ù];unfold rP;rw[if_pos (show pQ (92::_) 92=true from rfl),Ą];unfold rM;rw[if_pos (show pQ (117::_) 117=true from rfl),Ą];unfold Br;rw[ZU _ _ ζ ζ];grind
   .rw[if_neg h2];have q0:(Bs c==34)=false:=by
     rw[beq_eq_false_iff_ne];intro k;simp_all
    have q4:(Bs c==92)=false:=by
     rw[beq_eq_false_iff_ne];intro k;simp_all
    simp only[Ü,Ù,Cp];refine⟨?_,q0⟩;unfold rP;rw[Cp,if_neg ε];have hd:rC (Bs c::l)=(c,1):=by
     rw[Dt _ φ,ľ,e];unfold CH;grind
    grind
 .obtain⟨h1,h2,h3⟩:=GV c ζ hc l;rw[On _ h1];generalize hx:AT (c:Int)=e at*
  match e,h3 with
  |a::b::t,_=>
   have ha:=h1 a φ;have q0:(a==34)=false:=by
    rw[beq_eq_false_iff_ne];rintro rfl;simp at ha
   have q4:(a==92)=false:=by
    rw[beq_eq_false_iff_ne];rintro rfl;simp at ha
   refine⟨?_,q0⟩;unfold rP;rw[show pQ (a::b::t++l) 92=false from q4,if_neg η,h2,if_neg (by simp only[É];omega)];simp
theorem bN:∀(cs:List Nat),(∀c∈cs,Sc c) ->∀(f:Nat) (l:By),cs.length<f->Ck f (AF (cs.flatMap qS)++34::l)=some (cs.flatMap qS,l):=by
 intro cs;induction cs with
 |nil=>
  intro _ f l hf
  match f,hf with
  |f+1,_=>rfl
 |cons c cs ih=>
  intro h f l hf
  match f,hf with
  |f+1,hf=>
   obtain⟨h1,h2⟩:=iY c (h c φ) (AF (cs.flatMap qS)++34::l);rw[ã,Jm,ē];unfold Ck;grind
theorem aL(a:UInt8):1<=(BE a).length:=by
 grind [BE]
theorem IR{s:By}(h:Ut s)(l:By):rJ (Ai s++l)=some (s,l):=by
 obtain⟨cs,h1,rfl⟩:=h;unfold rJ Ai;simp only[Ü,ē,Ù,Ą];rw[if_pos (show pQ (34::_) 34=true from rfl)];apply bN _ h1;have q0:∀cs:List Nat,cs.length<=(AF (cs.flatMap qS)).length:=by
  intro cs;induction cs with
  |nil=>simp
  |cons c cs ih=>
   rw[ã,Jm,Ñ,É];have:1<=(AF (qS c)).length:=by
    unfold qS;have h2:=(Lib.encodeRuneZ_length (c:Int)).1;have h3:(AT (c:Int)).length=(Lib.encodeRuneZ (c:Int)).length:=by simp[AT]
    match hx:AT (c:Int)with
    |[]=>grind
    |a::t=>
     rw[AF,Ñ];have:=aL a;omega
   omega
 grind
def Gn(n:Nm):Prop:=n=(false,[],0)\/(n.2.1≠[]/\(∀c∈n.2.1,qW c=true)/\n.2.1.head?≠some 48/\n.2.1.getLast?≠some 48)
def Nd(r:By):Prop:=∀c t,r=c::t->qW c=false/\c≠46/\c≠101/\c≠69
theorem XB(l:By):∀c∈dg l,qW c=true:=by
 induction l with
 |nil=>intro c h;cases h
 |cons d r ih=>
  intro c h;unfold dg at h;grind
theorem Vz(ds:By)(hd:∀c∈ds,qW c=true)(hw:A3 (A1 ds 48) 48≠[]):
  (∀c∈A3 (A1 ds 48) 48,qW c=true)/\(A3 (A1 ds 48) 48).head?≠some 48/\(A3 (A1 ds 48) 48).getLast?≠some 48:=by
 have q5:∀c∈A1 ds 48,c∈ds:=λc h=>(List.dropWhile_sublist _).subset h;have q0:A3 (A1 ds 48) 48 <+: A1 ds 48:=by
  unfold A3;have:=List.dropWhile_suffix (l:=(A1 ds 48).reverse) (·==48);grind
 refine⟨ε,?_,?_⟩
 .have h1:(A3 (A1 ds 48) 48).head?=(A1 ds 48).head?:=by
   obtain⟨t,ht⟩:=q0;have q4:∀(A B:By),A≠[]->A.head?=(A++B).head?:=by
    intro A B hA;cases A with
    |nil=>grind
    |cons a b=>rfl
   grind
  rw[h1];have:=D0 (·==(48:UInt8)) ds;intro k;unfold A1 at k;grind
 .intro k;unfold A3 at k;rw[List.getLast?_reverse]at k;have:=D0 (·==(48:UInt8)) (A1 ds 48).reverse;grind
theorem Wy(ng:Bool)(ds:By)(e:Int)(hd:∀c∈ds,qW c=true):Gn (Ce ng ds e):=by
 unfold Ce;simp only;split
 .exact Å rfl
 .rename_i hw;exact À ⟨hw,Vz ds hd hw⟩
theorem N2{ng:Bool}{n:Nm}(h:BM ng l=some (n,r)):Gn n:=by
 unfold BM at h;split at h
 .cases h
 .split at h
  .cases h
  .rename_i f r1 hf;split at h
   .cases h
   .injection h with h;injection h with h1 h2;rw[<-h1];apply Wy;intro c hc;rcases ó.1 hc with hc|hc
    .exact XB _ c hc
    .unfold B5 at hf;split at hf
     .split at hf
      .cases hf
      .injection hf with hf;injection hf with h3 h4;rw[<-h3]at hc;exact XB _ c hc
     grind
theorem Zh{n:Nm}(h:rO l=some (n,r)):Gn n:=by
 unfold rO at h;split at h
 .exact N2 h
 .exact N2 h
theorem Ix(ds T:By)(hd:∀c∈ds,qW c=true)(hT:∀c t,T=c::t->qW c=false):dg (ds++T)=ds/\qP (ds++T)=T:=by
 induction ds with
 |nil=>
  cases T with
  |nil=>exact⟨rfl,rfl⟩
  |cons c t=>
   grind [dg,qP,qW]
 |cons d ds ih=>
  grind [dg,qP,qW]
theorem GW(u:Nat):∀c∈BY u,qW c=true:=by
 induction u using G1 with
 |ind u ih=>
  have q0:∀k,k<10->qW (Bs (48+k))=true:=by
   intro k hk;have:(Bs (48+k)).toNat=48+k:=ω;unfold qW;grind
  grind [qW,List.mem_singleton,BY]
theorem Gr(u:Nat):BY u≠[]:=by
 rw[BY];split
 .simp
 .simp
theorem Xg(a b:By)(n:Int):Bg (a++b) n=Bg b (Bg a n):=by
 induction a generalizing n with
 |nil=>rfl
 |cons c r ih=>exact ih _
theorem Ol(u:Nat)(hu:u<=1000000):Bg (BY u) 0=u:=by
 induction u using G1 with
 |ind u ih=>
  have q0:∀k,k<10->(Bs (48+k)).toNat=48+k:=by
   intro k hk;simp;omega
  grind [BY,Xg,Bg]
theorem JK(hne:ds≠[])(T:By)(c:UInt8):pQ (ds++T) c=pQ ds c:=by
 cases ds with
 |nil=>grind
 |cons d r=>rfl
theorem IG(hd:∀c∈ds,qW c=true)(k:UInt8)(hk:qW k=false):pQ ds k=false:=by
 cases ds with
 |nil=>rfl
 |cons d r=>
  grind [qW,Cp,beq_eq_false_iff_ne]
theorem Ok(ex:Int)(hb:-1000000<=ex/\ex<=1000000)(r:By)(hr:Nd r):AY (101::(B4 ex++r))=some (ex,r):=by
 have hT:∀c t,r=c::t->qW c=false:=λc t e=>(hr c t e).1;unfold AY;rw[if_pos θ,Ą];unfold B4;by_cases hn:ex<0
 .rw[if_pos hn,Ü,if_pos θ,Ą];obtain⟨e1,e2⟩:=Ix (BY ex.natAbs) r (GW _) hT;rw[e1,e2,if_neg (Gr _),Ol _ ζ];grind
 .rw[if_neg hn];obtain⟨e1,e2⟩:=Ix (BY ex.toNat) r (GW _) hT;rw[JK (Gr _),JK (Gr _),IG (GW _) 45 η,IG (GW _) 43 η,if_neg η,if_neg η,e1,e2,if_neg (Gr _),Ol _ ζ];grind
theorem Ho{T:By}(h:∀c t,T=c::t->c≠46):B5 T=some ([],T):=by
 unfold B5;rw[if_neg];cases T with
 |nil=>decide
 |cons c t=>
  rw[Cp];grind
theorem Ke{T:By}(h:Nd T):AY T=some (0,T):=by
 unfold AY;rw[if_neg];cases T with
 |nil=>decide
 |cons c t=>
  obtain⟨_,_,h3,h4⟩:=h c t rfl;rw[Cp,Cp];grind
theorem RN(h1:ds.head?≠some 48)(h2:ds.getLast?≠some 48):A1 ds 48=ds/\A3 ds 48=ds:=by
 have hd:∀l:By,l.head?≠some 48->l.dropWhile (·==48)=l:=by
  intro l hl;cases l with
  |nil=>rfl
  |cons c t=>
   simp_all
 refine⟨hd ds h1,?_⟩;unfold A3;grind
theorem NZ{ng:Bool}{ex:Int}(hne:ds≠[])(hd:∀c∈ds,qW c=true)(h1:ds.head?≠some 48)(h2:ds.getLast?≠some 48)(hb:-1000000<=ex/\ex<=1000000)(r:By)(hr:Nd r):
  BM ng (ds++((if ex=0 then[]else 101::B4 ex)++r))=some ((ng,ds,ex),r):=by
 have hT:∀c t,(if ex=0 then[]else 101::B4 ex)++r=c::t->qW c=false/\c≠46:=by
  intro c t h;split at h
  .exact⟨(hr c t h).1,(hr c t h).2.1⟩
  .injection h with h3 h4;rw[<-h3];exact⟨η,η⟩
 obtain⟨e1,e2⟩:=Ix ds _ hd (λc t h=>(hT c t h).1);have hex:AY ((if ex=0 then[]else 101::B4 ex)++r)=some (ex,r):=by
  by_cases h0:ex=0
  .rw[if_pos h0,Ù,h0];exact Ke hr
  .rw[if_neg h0];exact Ok ex hb r hr
 have hk:pQ ds 48=false:=by
  cases ds with
  |nil=>rfl
  |cons c t=>
   rw[Cp,beq_eq_false_iff_ne];grind
 unfold BM;rw[e1,e2,JK hne,hk,if_neg (by simp[hne]),Ho ε];simp only;rw[hex];simp only[ĉ,á];obtain⟨t1,t2⟩:=RN h1 h2;unfold Ce;grind
theorem PJ{n:Nm}(hg:Gn n)(hb:-1000000<=n.2.2/\n.2.2<=1000000)(r:By)(hr:Nd r):rO (BI n++r)=some (n,r):=by
 rcases hg with rfl|⟨hne,hd,h1,h2⟩
 .unfold BI;rw[if_pos rfl];unfold rO;rw[if_neg (by rw[Ü,Cp];decide)];obtain⟨e1,e2⟩:=Ix [48] r η (λc t e=>(hr c t e).1);unfold BM;rw[e1,e2,if_neg φ,Ho (λc t e=>(hr c t e).2.1)];simp only;rw[Ke hr];rfl
 .obtain⟨ng,ds,ex⟩:=n;simp only at hne hd h1 h2 hb;unfold BI;rw[if_neg hne];simp only;unfold rO;cases ng with
  |true=>
   simp only[if_pos,ē,Ü,Ù];rw[if_pos θ,Ą];exact NZ hne hd h1 h2 hb r hr
  |false=>
   simp only[ł,if_false,ē,Ù];rw[JK hne,IG hd 45 η,if_neg η];exact NZ hne hd h1 h2 hb r hr
def tE(d x:Int)(fl:Fl):Prop:=fl.1=false/\fl.2.1<=d/\fl.2.2<=x
def pU(d x:Int):Nat->Int->pL->Prop
 |0,_,_=>False
 |f+1,lv,v=>lv<=d/\((∃k,k<3/\v=BG k)\/(∃s,Ut s/\v=Av s)\/(∃n,Gn n/\-x<=n.2.2/\n.2.2<=x/\v=Bm n)\/
   (∃es,(∀e∈es,pU d x f (lv+1) e)/\v=Ak es)\/
   (∃es,es.Pairwise (λp q=>p.1.before q.1=true)/\(∀p∈es,(∃s,p.1=.string s/\Ut s)/\pU d x f (lv+1) p.2)/\v=Ap es))
theorem FX{x:Lit×pL}{l:List (Lit×pL)}(hx:∃s,x.1=.string s)(hs:∀p∈l,∃s,p.1=.string s)(hne:∀p∈l,p.1≠x.1)(h:l.Pairwise (λp q=>p.1.before q.1=true)):
  (A2 x l).Pairwise (λp q=>p.1.before q.1=true):=by
 obtain⟨s,q0⟩:=hx;induction l with
 |nil=>simp[A2]
 |cons y r ih=>
  rw[ô]at h;obtain⟨h1,h2⟩:=h;obtain⟨t,ht⟩:=hs y φ;unfold A2;split
  .rename_i hb;refine ô.2 ⟨λq hq=>?_,ô.2 ⟨h1,h2⟩⟩;rcases Ë.1 hq with rfl|hq
   .exact hb
   .obtain⟨u,hu⟩:=hs q (by simp[hq]);have h3:=h1 q hq;rw[q0,ht]at hb;rw[ht,hu]at h3;rw[q0,hu];exact C6 _ _ _ hb h3
  .rename_i hb;refine ô.2 ⟨λq hq=>?_,ε⟩;rcases Ë.1 ((ö _ _).mem_iff.1 hq)with rfl|hq
   .rw[q0,ht]at hb |-;have hn:t≠s:=by
     grind
    rcases WideAt.bytes_total t s hn with h3|h3
    .exact h3
    .exact absurd h3 hb
   grind
theorem jL(d x:Int)(f:Nat):∀(lv:Int) (l:By) (fl:Fl) (v:pL) (r:By) (fl':Fl),qL f lv l fl=some (v,r,fl')->tE d x fl'->tE d x fl/\pU d x f lv v:=by
 induction f with
 |zero=>intro lv l fl v r fl' h;cases h
 |succ f ih=>
  intro lv l fl v r fl' h hok;have q0:∀{e:Int},tE d x (fl.1,(max fl.2.1 lv,e))->fl.2.2<=e->tE d x fl/\lv<=d:=by
   rintro e⟨h1,h2,h3⟩he;simp only at h1 h2 h3;exact⟨⟨h1,ζ,ζ⟩,ζ⟩
  unfold qL at h;split at h
  .split at h
   .cases h
   .rename_i r1 v1 fl1 h1;obtain⟨hI,_⟩:=CW (σ:=pL×Fl) (λ_ s=>tE d x s.2->tE d x (fl.1,(max fl.2.1 lv,fl.2.2))/\∃es,s.1=Ap es/\es.Pairwise (λp q=>p.1.before q.1=true)/\(∀p∈es,(∃s,p.1=.string s/\Ut s)/\pU d x f (lv+1) p.2))
     (λ_ _ _ h _=>h) (by
      rintro a s a' s' hI hm q4;unfold Cx at hm;split at hm
      .cases hm
      .rename_i k l1 hq;split at hm
       .split at hm
        .cases hm
        .rename_i w r2 qb hv;cases hm;obtain⟨k1,k2,k3⟩:=q4;simp only[Ĩ]at k1 k2 k3;obtain⟨q7,hg⟩:=ih _ _ _ _ _ _ hv ⟨k1.1,k2,k3⟩;obtain⟨hb,es,e1,e2,e3⟩:=hI q7;refine⟨hb,?_⟩;have hno:=k1.2;rw[e1]at hno |-;have q6:∀p∈es,p.1.sameKey (.string k)=false:=by
          simpa[Ap,A4]using hno
         have q5:(es.filter λp=>!p.1.sameKey (.string k))=es:=Ŀ.2 ε;refine⟨A2 (.string k,w) es,by simp only[Ap,CD,q5],?_,?_⟩
         .refine FX ⟨k,rfl⟩ (λp hp=>?_) (λp hp=>?_) e2
          .grind
          .intro e;have:=q6 p hp;rw[e]at this;simp[HP]at this
         .intro p hp;rcases Ë.1 ((ö _ _).mem_iff.1 hp)with rfl|hp
          .exact⟨⟨k,rfl,V4 hq⟩,hg⟩
          grind
       .cases hm) (λh=>⟨h,[],rfl,Ī,φ⟩) h1
    injection h with h;injection h with h2 h3;injection h3 with h3 h4;subst h2;subst h4;obtain⟨hb,es,e1,e2,e3⟩:=hI hok;obtain⟨b1,b2⟩:=q0 hb (Ā _);exact⟨b1,b2,ε⟩
  .split at h
   .split at h
    .cases h
    .rename_i r1 q9 fl1 h1;obtain⟨hI,_⟩:=CW (σ:=List pL×Fl) (λ_ s=>tE d x s.2->tE d x (fl.1,(max fl.2.1 lv,fl.2.2))/\∀e∈s.1,pU d x f (lv+1) e)
      (λ_ _ _ h _=>h) (by
       rintro a s a' s' hI hm q4;unfold CQ at hm;grind) ε h1
     injection h with h;injection h with h2 h3;injection h3 with h3 h4;subst h2;subst h4;obtain⟨hb,q8⟩:=hI hok;obtain⟨b1,b2⟩:=q0 hb (Ā _);exact⟨b1,b2,ε⟩
   .split at h
    .split at h
     .cases h
     .rename_i s r1 h1;injection h with h;injection h with h2 h3;injection h3 with h3 h4;subst h2;subst h4;obtain⟨b1,b2⟩:=q0 hok (Ā _);exact⟨b1,b2,À (Å ⟨s,V4 h1,rfl⟩)⟩
    .split at h
     .split at h
      .cases h
      .rename_i n r1 h1;injection h with h;injection h with h2 h3;injection h3 with h3 h4;subst h2;subst h4;obtain⟨b1,b2⟩:=q0 hok ζ;have h5:max (max fl.2.2 n.2.2) (-n.2.2)<=x:=hok.2.2;exact⟨b1,b2,À (À (Å ⟨n,Zh h1,ζ,ζ,rfl⟩))⟩
     .split at h
      .cases h
      .rename_i k r1 h1;injection h with h;injection h with h2 h3;injection h3 with h3 h4;subst h2;subst h4;obtain⟨b1,b2⟩:=q0 hok (Ā _);refine⟨b1,b2,Å ⟨k,?_,rfl⟩⟩;have hk:∀(ws:List By) (k0:Nat),A6 l k0 ws=some (k,r1)->k<k0+ws.length:=by
        intro ws;induction ws with
        |nil=>intro k0 h;cases h
        |cons w ws qd=>
         intro k0 h;unfold A6 at h;grind
       simpa[rE]using hk _ _ h1
def Hd(l:By):Prop:=∃c t,l=c::t/\uD c=false/\c≠93/\c≠125
theorem Hd.skB(h:Hd l)(r:By):pR (l++r)=l++r:=by
 obtain⟨c,t,rfl,hb,_⟩:=h;simp[pR,hb]
theorem Hd.tk(h:Hd l)(r:By){k:UInt8}(hk:k=93\/k=125):pQ (l++r) k=false:=by
 obtain⟨c,t,rfl,_,h1,h2⟩:=h;rw[Ü,Cp,beq_eq_false_iff_ne];grind
theorem lK{c:UInt8}(h:qW c=true):uD c=false/\c≠93/\c≠125:=by
 refine⟨?_,?_,?_⟩
 .have h1:48<=c.toNat:=by unfold qW at h;grind
  unfold uD;simp only[Ĩ,beq_eq_false_iff_ne];refine⟨⟨⟨?_,?_⟩,?_⟩,?_⟩;all_goals (rintro rfl;simp at h1)
 .rintro rfl;exact absurd h η
 .rintro rfl;exact absurd h η
theorem MV{n:Nm}(hg:Gn n):∃c t,BI n=c::t/\(c=45\/qW c=true):=by
 rcases hg with rfl|⟨hne,hd,_⟩
 .exact⟨48,[],rfl,À η⟩
 .obtain⟨ng,ds,ex⟩:=n;simp only at hne hd;unfold BI;rw[if_neg hne];cases ng with
  |true=>simp_all
  |false=>
   cases ds with
   |nil=>grind
   |cons c t=>grind
theorem Mp{v:pL}(h:pU d x f lv v):Hd (pP f v):=by
 cases f with
 |zero=>cases h
 |succ f=>
  obtain⟨_,⟨k,hk,rfl⟩|⟨s,_,rfl⟩|⟨n,hn,_,_,rfl⟩|⟨es,_,rfl⟩|⟨es,_,_,rfl⟩⟩:=h
  .rw[GZ]
   match k,hk with
   |0,_=>exact⟨110,_,rfl,η,η,η⟩
   |1,_=>exact⟨116,_,rfl,η,η,η⟩
   |2,_=>exact⟨102,_,rfl,η,η,η⟩
  .rw[Gt];exact⟨34,_,rfl,η,η,η⟩
  .rw[IA];obtain⟨c,t,e,hc⟩:=MV hn;refine⟨c,t,e,?_⟩;rcases hc with rfl|hc
   .exact⟨η,η,η⟩
   .exact lK hc
  .rw[BH];exact⟨91,_,rfl,η,η,η⟩
  .rw[EW];exact⟨123,_,rfl,η,η,η⟩
theorem Zp(h:cl=93\/cl=125)(r:By):Nd (cl::r):=by
 intro c t e;injection e with e1 e2;subst e1;rcases h with rfl|rfl
 .exact⟨η,η,η,η⟩
 .exact⟨η,η,η,η⟩
theorem Zo(r:By):Nd (44::r):=by
 intro c t e;injection e with e1 e2;subst e1;exact⟨η,η,η,η⟩
theorem Nt(h:cl=93\/cl=125)(r:By):pR (cl::r)=cl::r:=by
 rcases h with rfl|rfl
 .rfl
 .rfl
theorem Zx(cl:UInt8)(hcl:cl=93\/cl=125)(item:By->σ->Option (By×σ))(P:Nat->σ->Prop)(r:By):∀(xs:List By) (k:Nat) (s:σ) (n:Nat),
  (∀i (h:i<xs.length) s rest,P (k+i) s->Nd rest ->∃s',item (xs[i]++rest) s=some (rest,s')/\P (k+i+1) s')->(∀y∈xs,Hd y)->xs≠[]->xs.length<=n->P k s ->
  ∃s',qZ cl item n (Ah xs++cl::r) s=some (r,s')/\P (k+xs.length) s':=by
 intro xs;induction xs with
 |nil=>grind
 |cons y ys ih=>
  intro k s n hit q0 _ hn hP
  match n,hn with
  |n+1,hn=>
   have hy:=q0 y φ;have e1:Ah (y::ys)++cl::r=y++(Bp ys++cl::r):=by simp[Ah]
   rw[e1];unfold qZ;rw[hy.skB];cases ys with
   |nil=>
    obtain⟨s',h1,h2⟩:=hit 0 φ s (cl::r) hP (Zp hcl r);simp only[ě]at h1;simp only[Bp,Ù];rw[h1];simp only;rw[Nt hcl,if_pos (by rw[Cp];simp)];grind
   |cons z zs=>
    have e2:Bp (z::zs)++cl::r=44::(Ah (z::zs)++cl::r):=θ;rw[e2];obtain⟨s',h1,h2⟩:=hit 0 φ s (44::(Ah (z::zs)++cl::r)) hP (Zo _);simp only[ě]at h1;rw[h1];simp only;have e3:pR (44::(Ah (z::zs)++cl::r))=44::(Ah (z::zs)++cl::r):=rfl;have e4:pQ (44::(Ah (z::zs)++cl::r)) cl=false:=by
     rw[Cp];grind
    rw[e3,e4,if_neg η,if_pos θ,Ą];obtain⟨s2,h3,h4⟩:=ih (k+1) s' n (λi hi s rest hp hr=>by
     have:=hit (i+1) ε s rest ε hr;grind) ε φ ε h2
    grind
theorem Li(xs:List By)(h:∀y∈xs,Hd y):xs.length<=(Ah xs).length:=by
 have hr:∀ys:List By,ys.length<=(Bp ys).length:=by
  intro ys;induction ys with
  |nil=>simp
  |cons y r ih=>simp[Bp];omega
 cases xs with
 |nil=>simp
 |cons y r=>
  obtain⟨c,t,e,_⟩:=h y φ;have:=hr r;simp[Ah,e];omega
theorem FA(op cl:UInt8)(hcl:cl=93\/cl=125)(item:By->σ->Option (By×σ))(P:Nat->σ->Prop)(r:By)(xs:List By)(s:σ)(hit:∀i (h:i<xs.length) s rest,P i s->Nd rest ->∃s',item (xs[i]++rest) s=some (rest,s')/\P (i+1) s')(q0:∀y∈xs,Hd y)(hP:P 0 s):
  ∃s',AZ op cl item (op::(Ah xs++cl::r)) s=some (r,s')/\P xs.length s':=by
 unfold AZ;rw[if_pos (by rw[Cp];simp),Ą];cases xs with
 |nil=>
  rw[show Ah []++cl::r=cl::r from rfl,Nt hcl,if_pos (by rw[Cp];simp),Ą];grind
 |cons y ys=>
  have hy:=q0 y φ;have e1:Ah (y::ys)++cl::r=y++(Bp ys++cl::r):=by simp[Ah]
  have e2:pR (Ah (y::ys)++cl::r)=Ah (y::ys)++cl::r:=by rw[e1,hy.skB]
  have e3:pQ (Ah (y::ys)++cl::r) cl=false:=by rw[e1];exact hy.tk _ hcl
  rw[e2,e3,if_neg η];have hj:=Li (y::ys) q0;obtain⟨s',h1,h2⟩:=Zx cl hcl item P r (y::ys) 0 s ((Ah (y::ys)++cl::r).length+1) ε q0 φ ε hP;grind
theorem FT:∀(a b:By),C0 a b=true->a<b
 |[],[],h=>by simp[C0]at h
 |_::_,[],h=>by simp[C0]at h
 |[],_::_,_=>List.nil_lt_cons _ _
 |a::r,b::s,h=>by
  simp only[C0,Ķ,ō,decide_eq_true_eq,beq_iff_eq]at h;rw[List.cons_lt_cons_iff];rcases h with h|⟨h1,h2⟩
  .grind
  .exact À ⟨h1,FT r s h2⟩
theorem YE(hp:es.Pairwise (λp q=>p.1.before q.1=true))(hk:∀p∈es,∃s,p.1=.string s):(rV es).mergeSort (λa b=>decide (a<=b))=rV es:=by
 apply List.mergeSort_of_pairwise;unfold rV;rw[Ć];refine(D9.1 hp).imp ?_;rintro p q⟨h1,h2,h3⟩;obtain⟨s,hs⟩:=hk p h1;obtain⟨t,ht⟩:=hk q h2;rw[hs,ht]at h3 |-;simp only[decide_eq_true_eq];exact List.le_of_lt (FT s t h3)
theorem Ny(hp:es.Pairwise (λp q=>p.1.before q.1=true))(hk:∀p∈es,∃s,p.1=.string s):es.Pairwise (λp q=>p.1≠q.1):=by
 refine(D9.1 hp).imp ?_;rintro p q⟨h1,h2,h3⟩e;obtain⟨s,hs⟩:=hk p h1;rw[<-e,hs]at h3;have:=ĝ s;rw[show(C5 s).before (C5 s)=C0 s s from rfl,this]at h3;cases h3
def sS(f:Nat)(p:Lit×pL):By:=Ai (strOf p.1)++58::pP f p.2
theorem GD(hp:es.Pairwise (λp q=>p.1.before q.1=true))(hk:∀p∈es,∃s,p.1=.string s):pP (f+1) (Ap es)=123::(Ah (es.map (sS f))++[125]):=by
 rw[EW,YE hp hk];have:(rV es).map (λk=>Ai k++58::pP f (rW es k))=es.map (sS f):=by
  unfold rV;rw[Ý];apply ä;intro p q0;obtain⟨s,hs⟩:=hk p q0;have h2:rW es s=p.2:=by
   unfold rW;exact Ă .nil trivial (Ny hp hk) ε
  obtain⟨k,v⟩:=p;simp only at hs h2;subst hs;simp only[HF,sS,strOf];rw[h2]
 rw[this]
theorem KV{x:Lit×pL}{l:List (Lit×pL)}(h:∀p∈l,x.1.before p.1=false):A2 x l=l++[x]:=by
 induction l with
 |nil=>rfl
 |cons y r ih=>
  unfold A2;grind
theorem Io{e:Int}(q0:lv<=d)(h:tE d x fl)(he:e<=x):tE d x (fl.1,(max fl.2.1 lv,e)):=by
 obtain⟨h1,h2,h3⟩:=h;exact⟨h1,ε,he⟩
theorem QF{p q:Lit×pL}(hp:∃s,p.1=.string s)(hq:∃s,q.1=.string s)(h:p.1.before q.1=true):q.1.before p.1=false:=by
 obtain⟨s,hs⟩:=hp;obtain⟨t,ht⟩:=hq;rw[hs,ht]at h |-;cases hb:(C5 t).before (C5 s)with
 |false=>rfl
 |true=>
  have:=C6 s t s h hb;rw[ĝ]at this;cases this
theorem Y0(hp:es.Pairwise (λp q=>p.1.before q.1=true))(hk:∀p∈es,∃s,p.1=.string s)(hi:i<es.length){k:By}(q5:es[i].1=.string k):
  CD (Ap (es.take i)) (.string k) es[i].2=Ap (es.take (i+1))/\A4 (Ap (es.take i)) (.string k)=false:=by
 have hb:∀p∈es.take i,p.1.before es[i].1=true:=by
  intro p q0;obtain⟨j,hj,e⟩:=ù q0;rw[İ]at hj;rw[List.getElem_take]at e;rw[<-e];exact List.pairwise_iff_getElem.1 hp j i ζ hi ζ
 have q6:∀p∈es.take i,∃s,p.1=.string s:=ε;have q7:∀p∈es.take i,p.1.sameKey (.string k)=false:=by
  intro p q0;have h1:=hb p q0;obtain⟨s,hs⟩:=q6 p q0;rw[q5,hs]at h1;rw[hs];show(s==k)=false;rw[beq_eq_false_iff_ne];rintro rfl;rw[show(C5 s).before (C5 s)=C0 s s from rfl,ĝ]at h1;cases h1
 have q4:((es.take i).filter λp=>!p.1.sameKey (.string k))=es.take i:=Ŀ.2 ε;constructor
 .simp only[Ap,CD,q4];rw[KV (λp q0=>by
   have:=QF (p:=p) (q:=es[i]) (q6 p q0) ⟨k,q5⟩ (hb p q0);grind),Í hi]
  grind
 .simp only[Ap,A4];grind
theorem dT(hx:x<=1000000)(f:Nat):∀(lv:Int) (v:pL),pU d x f lv v ->∀(fl:Fl) (r:By),Nd r ->∃fl',qL f lv (pP f v++r) fl=some (v,r,fl')/\(tE d x fl->tE d x fl'):=by
 induction f with
 |zero=>intro lv v h;cases h
 |succ f ih=>
  intro lv v h fl r hr;obtain⟨q0,⟨k,hk,rfl⟩|⟨s,hs,rfl⟩|⟨n,hn,q9,qb,rfl⟩|⟨es,q4,rfl⟩|⟨es,hp,q4,rfl⟩⟩:=h
  .refine⟨(fl.1,(max fl.2.1 lv,fl.2.2)),?_,λho=>Io q0 ho ho.2.2⟩;rw[GZ]
   match k,hk with
   |0,_=>rfl
   |1,_=>rfl
   |2,_=>rfl
  .refine⟨(fl.1,(max fl.2.1 lv,fl.2.2)),?_,λho=>Io q0 ho ho.2.2⟩;rw[Gt];have hq:=IR hs r;have hpk:pY (Ai s++r)=34:=rfl;grind [qL,pP,sS]
  .refine⟨(fl.1,(max fl.2.1 lv,max (max fl.2.2 n.2.2) (-n.2.2))),?_,λho=>Io q0 ho (by have:=ho.2.2;omega)⟩;rw[IA];have hq:=PJ hn ⟨ζ,ζ⟩ r hr;obtain⟨c,t,e,hc⟩:=MV hn;have hpk:pY (BI n++r)=c.toNat:=by rw[e];rfl
   have q8:c.toNat=45\/(48<=c.toNat/\c.toNat<=57):=by
    rcases hc with rfl|hc
    .grind
    .unfold qW at hc;grind
   grind [qL,pP,sS]
  .have hj:=FA (σ:=List pL×Fl) 91 93 (Å rfl) (CQ (qL f (lv+1))) (λi s=>s.1=es.take i/\(tE d x fl->tE d x s.2)) r (es.map (pP f)) ([],(fl.1,(max fl.2.1 lv,fl.2.2))) (by
    rintro i hi⟨a,fl1⟩rest⟨ha,hf⟩hrest;rw[æ]at hi;simp only at ha hf;subst ha;rw[é];obtain⟨q6,h1,h2⟩:=ih (lv+1) es[i] ε fl1 rest hrest;unfold CQ;simp_all) (by
    intro y hy;obtain⟨e,he,rfl⟩:=Ò.1 hy;exact Mp (q4 e he)) ⟨φ,λho=>Io q0 ho ho.2.2⟩
   obtain⟨⟨es',fl'⟩,h1,h2,h3⟩:=hj;rw[æ,Ft]at h2;simp only at h2 h3;subst h2;refine⟨fl',?_,h3⟩;rw[BH];grind [qL,pP,sS,tE,Ah,G2,pY,CQ]
  .have hk:∀p∈es,∃s,p.1=.string s:=ε;have hj:=FA (σ:=pL×Fl) 123 125 (À rfl) (Cx (qL f (lv+1))) (λi s=>s.1=Ap (es.take i)/\(tE d x fl->tE d x s.2)) r (es.map (sS f)) (Ap [],(fl.1,(max fl.2.1 lv,fl.2.2))) (by
    rintro i hi⟨a,fl1⟩rest⟨ha,hf⟩hrest;rw[æ]at hi;simp only at ha hf;subst ha;rw[é];obtain⟨⟨k,q5,q7⟩,hg⟩:=q4 es[i] (Ó hi);obtain⟨q6,h1,h2⟩:=ih (lv+1) es[i].2 hg fl1 rest hrest;obtain⟨q1,q2⟩:=Y0 hp hk hi q5;have e1:sS f es[i]++rest=Ai k++(58::(pP f es[i].2++rest)):=by
     unfold sS;rw[q5];simp[strOf]
    rw[e1];unfold Cx;rw[IR q7];simp only;rw[show pR (58::(pP f es[i].2++rest))=58::(pP f es[i].2++rest)from rfl,if_pos θ,Ą,(Mp hg).skB,h1];grind) (by
    intro y hy;obtain⟨e,he,rfl⟩:=Ò.1 hy;exact⟨34,_,rfl,η,η,η⟩) ⟨rfl,λho=>Io q0 ho ho.2.2⟩
   obtain⟨⟨v',fl'⟩,h1,h2,h3⟩:=hj;rw[æ,Ft]at h2;simp only at h2 h3;subst h2;refine⟨fl',?_,h3⟩;rw[GD hp hk];grind [qL,pP,sS,tE,Ah,G2,pY,CQ]
theorem Fe{t:By}{v:pL}(h:qB t d x=(0,some v)):pU d x top 1 v:=by
 unfold qB at h;split at h
 .grind
 .split at h
  .grind
  .rename_i v2 r fl hv;split at h
   .split at h
    .grind
    .rename_i k1;split at h
     .grind
     .rename_i k2;split at h
      .grind
      .rename_i k3;injection h with h1 h2;cases h2;exact(jL d x _ _ _ _ _ _ _ hv ⟨ε,ζ,ζ⟩).2
   grind
def sB:By:=[48,49,50,51,52,53,54,55,56,57]
def sG(q0:Nat)(l:By):Nat:=l.foldl (λa c=>a*10+(c.toNat-48)) q0
def qG(t:By):Option Nat:=
 if t=[]\/(1<t.length/\t[0]?=some 48)\/t.all (sB.contains ·)=false then none else some (min (sG 0 t) 9223372036854775807)
theorem GN{t:By}(h:t=[]\/(1<t.length/\t[0]?=some 48)\/t.all (sB.contains ·)=false):qG t=none:=by grind [qG]
theorem Lj{t:By}(h:¬(t=[]\/(1<t.length/\t[0]?=some 48)\/t.all (sB.contains ·)=false)):qG t=some (min (sG 0 t) 9223372036854775807):=by grind [qG]
theorem KH(b:UInt8)(h:sB.contains b=true):48<=b.toNat/\b.toNat<=57:=by
 simp only[sB,List.contains_eq_mem,Ë,ģ,or_false,decide_eq_true_eq]at h;rcases h with rfl|rfl|rfl|rfl|rfl|rfl|rfl|rfl|rfl|rfl<;>decide
def qA(d:pL)(t:By):Except Nat pL:=match d with
 |.map es=>if A4 (.map es:pL) (.string t)=true then .ok ((B1 es).atKey (.string t) .nil)else .error 11
 |.slice es _=>match qG t with
  |none=>.error 12
  |some i=>match es[i]? with
   |some e=>.ok e
   |none=>.error 11
 |_=>.error 11
def Ag(d:pL):List By->Except Nat pL
 |[]=>.ok d
 |t::r=>match qA d t with
  |.ok e=>Ag e r
  |.error c=>.error c
def qC:By->Option By
 |[]=>some []
 |c::r=>if c=126 then(match r with
  |48::q=>(qC q).map (126 :: ·)
  |49::q=>(qC q).map (47 :: ·)
  |_=>none)
  else(qC r).map (c :: ·)
theorem Dy(c:UInt8)(r:By):qC (c::r)=if c=126 then(match r with
  |48::q=>(qC q).map (126 :: ·)
  |49::q=>(qC q).map (47 :: ·)
  |_=>none)
  else(qC r).map (c :: ·):=by
 match r with
 |[]=>rfl
 |b::q=>
  by_cases h0:b=48
  .subst h0;rfl
  .by_cases h1:b=49
   .subst h1;rfl
   .conv=>lhs;unfold qC
    rfl
def sH(l:By):By:=l.takeWhile (λc=>c != 126)
def qJ:By->List By
 |[]=>[[]]
 |c::r=>if c=47 then[]::qJ r else match qJ r with
  |p::ps=>(c::p)::ps
  |[]=>[[c]]
def tV(l:By):By:=l.takeWhile (λc=>c != 47)
def rQ:List By->Option (List By)
 |[]=>some []
 |t::r=>match qC t with
  |none=>none
  |some k=>(rQ r).map (k :: ·)
def qX(l:By):Option (List By):=if Lib.validD l=true then(match qJ l with
 |[]::r=>rQ r
 |_=>none)else none
noncomputable def veq(a b:pL):Bool:=@decide (a=b) (Classical.propDecidable _)
theorem CS{a b:pL}(h:a=b):veq a b=true:=by unfold veq;grind
theorem BU{a b:pL}(h:a≠b):veq a b=false:=by unfold veq;grind
def sY(d:pL)(t:By):Option Nat:=match d with
 |.map es=>es.findIdx? (λp=>p.1.sameKey (.string t))
 |.slice es _=>match qG t with
  |none=>none
  |some i=>if i<es.length then some i else none
 |_=>none
def AW(d:pL):List pL:=match d with
 |.map es=>es.map G3
 |.slice es _=>es
 |_=>[]
def CN:pL->List By->Option (List Nat)
 |_,[]=>some []
 |d,t::r=>match sY d t with
  |none=>none
  |some i=>match(AW d)[i]? with
   |none=>none
   |some e=>(CN e r).map (i :: ·)
def BD:List Nat->pL->Option pL
 |[],d=>some d
 |i::r,d=>match(AW d)[i]? with
  |none=>none
  |some e=>BD r e
def Cc(n:Nat)(t:By):Except Nat Nat:=
 if t=[45]then .ok n else match qG t with
  |none=>.error 12
  |some i=>if n<i then .error 11 else .ok i
def rN{α:Type}(i:Nat)(c:α)(l:List α):List α:=l.take i++c::l.drop i
def rH{α:Type}(i:Nat)(l:List α):List α:=l.take i++l.drop (i+1)
def qI{α:Type}(k:Lit)(c:F2 α)(es:List (Lit×F2 α)):List (Lit×F2 α):=A2 (k,c) (es.filter λp=>!p.1.sameKey k)
def qY{α:Type}(k:Lit)(es:List (Lit×F2 α)):List (Lit×F2 α):=es.filter λp=>!p.1.sameKey k
def uN(F:List pL->List pL)(G:List (Lit×pL)->List (Lit×pL))(d:pL):pL:=match d with
 |.slice es y=>.slice (F es) y
 |.map es=>.map (G es)
 |d=>d
def Dr(i:Nat)(k:By)(x:pL):pL->pL:=uN (rN i x) (qI (.string k) x)
def EG(i:Nat)(k:By):pL->pL:=uN (rH i) (qY (.string k))
def Dp(i:Nat)(k:By)(x:pL):pL->pL:=uN (λes=>es.set i x) (qI (.string k) x)
def EE(i:Nat)(x:pL)(d:pL):pL:=match d with
 |.slice es y=>.slice (es.set i x) y
 |.map es=>.map (es.modify i λp=>(p.1,x))
 |d=>d
def AJ:List Nat->pL->pL->pL
 |[],x,_=>x
 |i::r,x,d=>match(AW d)[i]? with
  |some e=>EE i (AJ r x e) d
  |none=>d
def BA:List Int->Int
 |[]=>0
 |x::r=>max x (BA r)
def qD:Nat->pL->Int
 |0,_=>0
 |f+1,d=>match d with
  |.slice es _=>1+BA (es.map (qD f))
  |.map es=>1+BA (es.map λp=>qD f p.2)
  |_=>1
abbrev pW:=Nat×List By×pL
abbrev rA:=Option (List pW)
abbrev sL:=Option (pL×rA)
abbrev St:=Int×By×By
abbrev rD:=Nat×Nat×By
abbrev qH:=Nat×List By×List By×pL
def G0:By:=[97,100,100]
def Df:By:=[114,101,109,111,118,101]
def CK:By:=[114,101,112,108,97,99,101]
def F8:By:=[109,111,118,101]
def uO:By:=[99,111,112,121]
def F3:By:=[116,101,115,116]
def rS:By:=[111,112]
def A8:By:=[112,97,116,104]
def BS:By:=[102,114,111,109]
def AL:By:=[118,97,108,117,101]
def Ao(d:pL)(k:By):Option pL:=match d with
 |.map es=>if A4 (.map es:pL) (.string k)=true then some ((B1 es).atKey (.string k) .nil)else none
 |_=>none
def BO:Option pL->Option By
 |some (.lit (.string s))=>some s
 |_=>none
def AA(d:Option pL):Option (List By):=match BO d with
 |some s=>qX s
 |none=>none
def BJ(nm:By)(hv hf:Bool):Option Nat:=
 if nm=Df then some 1
 else if nm=G0 then(if hv then some 0 else none)
 else if nm=CK then(if hv then some 2 else none)
 else if nm=F3 then(if hv then some 5 else none)
 else if nm=F8 then(if hf then some 3 else none)
 else if nm=uO then(if hf then some 4 else none)
 else none
def Bf(d:pL):Option qH:=match AA (Ao d A8)with
 |none=>none
 |some p=>match BJ ((BO (Ao d rS)).getD []) (Ao d AL).isSome (AA (Ao d BS)).isSome with
  |none=>none
  |some k=>some (k,p,(AA (Ao d BS)).getD [],(Ao d AL).getD .nil)
def Ba:Nat->List pL->Except Nat (List qH)
 |_,[]=>.ok []
 |i,d::r=>match Bf d with
  |none=>.error i
  |some o=>match Ba (i+1) r with
   |.ok l=>.ok (o::l)
   |.error c=>.error c
def A7(d:pL):Except Nat (List qH):=match d with
 |.slice es _=>Ba 0 es
 |_=>.error 0
def tF(d:pL)(s:List By):List Nat:=(CN d s).getD []
def uE:By:=[]
def CA(d:pL)(s:List By)(t:By)(n x:pL):Except Nat (pL×List pW):=match n with
 |.map es=>if A4 (.map es:pL) (.string t)=true then .ok (AJ (tF d s) (Dp 0 t x (.map es)) d,[(2,s++[t],(B1 es).atKey (.string t) .nil)])
   else .ok (AJ (tF d s) (Dr 0 t x (.map es)) d,[(1,s++[t],.nil)])
 |.slice es y=>match Cc es.length t with
  |.error c=>.error c
  |.ok i=>.ok (AJ (tF d s) (Dr i uE x (.slice es y)) d,[(1,s++[B4 (i:Int)],.nil)])
 |_=>.error 11
def BB(p:List By):Option (List By×By):=match p.getLast? with
 |none=>none
 |some t=>some (p.dropLast,t)
def BV(d:pL)(p:List By)(x:pL):Except Nat (pL×List pW):=match BB p with
 |none=>.ok (x,[(2,[],d)])
 |some (s,t)=>match Ag d s with
  |.error c=>.error c
  |.ok n=>CA d s t n x
def B6(d:pL)(p:List By):Except Nat (pL×List pW):=match BB p with
 |none=>.error 11
 |some (s,t)=>match Ag d s with
  |.error c=>.error c
  |.ok n=>match qA n t with
   |.error c=>.error c
   |.ok e=>.ok (AJ (tF d s) (EG ((qG t).getD 0) t n) d,[(0,p,e)])
def Di(d:pL)(p:List By)(x:pL):Except Nat (pL×List pW):=match BB p with
 |none=>.ok (x,[(2,[],d)])
 |some (s,t)=>match Ag d s with
  |.error c=>.error c
  |.ok n=>match qA n t with
   |.error c=>.error c
   |.ok e=>.ok (AJ (tF d s) (Dp ((qG t).getD 0) t x n) d,[(2,p,e)])
def E3(p q:List By):Bool:=decide (q.length<p.length) && (p.take q.length==q)
def Jq(d:pL)(q p:List By):Except Nat (pL×List pW):=match Ag d q with
 |.error c=>.error c
 |.ok e=>if q=p then .ok (d,[])else if E3 p q then .error 13 else match B6 d q with
  |.error c=>.error c
  |.ok (d1,j1)=>match BV d1 p e with
   |.error c=>.error c
   |.ok (d2,j2)=>.ok (d2,j1++j2)
def Jr(d:pL)(q p:List By):Except Nat (pL×List pW):=match Ag d q with
 |.error c=>.error c
 |.ok e=>BV d p e
noncomputable def Jo(d:pL)(p:List By)(x:pL):Except Nat (pL×List pW):=match Ag d p with
 |.error c=>.error c
 |.ok e=>if veq e x=true then .ok (d,[])else .error 14
noncomputable def sP(d:pL)(o:qH):Except Nat (pL×List pW):=
 if o.1=0 then BV d o.2.1 o.2.2.2 else if o.1=1 then B6 d o.2.1 else if o.1=2 then Di d o.2.1 o.2.2.2
 else if o.1=3 then Jq d o.2.2.1 o.2.1 else if o.1=4 then Jr d o.2.2.1 o.2.1 else Jo d o.2.1 o.2.2.2
noncomputable def Fi(dp:Int)(d:pL):Nat:=if dp<qD top d then 7 else if 20000<(pP top d).length then 4 else 0
noncomputable def Cn(dp:Int):Nat->pL->List pW->List qH->Except (Nat×Nat) (pL×List pW)
 |_,d,j,[]=>.ok (d,j)
 |i,d,j,o::r=>match sP d o with
  |.error c=>.error (c,i)
  |.ok (d',j')=>if Fi dp d'=0 then Cn dp (i+1) d' (j++j') r else .error (Fi dp d',i)
def DJ(c:UInt8):By:=if c=126 then[126,48]else if c=47 then[126,49]else[c]
def Bw(t:By):By:=t.flatMap DJ
def AO(p:List By):By:=p.flatMap λt=>47::Bw t
def Bb(k:Nat):By:=if k=0 then G0 else if k=1 then Df else CK
def AH(o:pW):pL:=if o.1=1 then Ap [(.string rS,Av (Bb o.1)),(.string A8,Av (AO o.2.1))]
 else Ap [(.string rS,Av (Bb o.1)),(.string A8,Av (AO o.2.1)),(.string AL,o.2.2)]
def Dq(l:List pW):By:=pP top (Ak (l.map AH))
def Eh(d:pL):Bool:=match d with
 |.map _=>true
 |_=>false
def tJ(d:pL):Bool:=match d with
 |.lit (.int _ k)=>k==0
 |_=>false
def Ee:Nat->pL->pL
 |0,_=>.nil
 |f+1,p=>match p with
  |.map ps=>.map ((ps.filter λq=>!tJ q.2).map λq=>(q.1,Ee f q.2))
  |p=>p
def Aq(es:List (Lit×pL))(k:Lit):Option pL:=if A4 (.map es:pL) k=true then some ((B1 es).atKey k .nil)else none
def GL(k:Lit):By:=match k with
 |.string s=>s
 |_=>[]
def H7(m:Option pL->List By->pL->pL×List pW)(s:List By):List (Lit×pL)->List (Lit×pL)->pL×List pW
 |[],es=>(.map es,[])
 |(k,q)::r,es=>
  if tJ q then(match Aq es k with
   |none=>H7 m s r es
   |some o=>((H7 m s r (qY k es)).1,(0,s++[GL k],o)::(H7 m s r (qY k es)).2))
  else((H7 m s r (qI k (m (Aq es k) (s++[GL k]) q).1 es)).1,(m (Aq es k) (s++[GL k]) q).2++(H7 m s r (qI k (m (Aq es k) (s++[GL k]) q).1 es)).2)
def qQ:Nat->Option pL->List By->pL->pL×List pW
 |0,_,_,_=>(.nil,[])
 |f+1,v,s,p=>match v,p with
  |some (.map es),.map ps=>H7 (qQ f) s ps es
  |some o,p=>(Ee (f+1) p,[(2,s,o)])
  |none,p=>(Ee (f+1) p,[(1,s,.nil)])
def nC(xs bs:List (Lit×pL)):List By:=(bs.foldl (λ(l:List (Lit×pL)) q=>qI q.1 .nil l) xs).map λp=>GL p.1
noncomputable def uZ:List pL->List pL->Nat
 |[],_=>0
 |_::_,[]=>0
 |x::a,y::b=>if veq x y=true then 1+uZ a b else max (uZ a (y::b)) (uZ (x::a) b)
termination_by a b=>a.length+b.length
noncomputable def uF:Nat->List pL->List pL->Nat->Nat->List Nat×List Nat
 |0,_,_,_,_=>([],[])
 |_+1,[],[],_,_=>([],[])
 |n+1,_::a,[],k,j=>((k::(uF n a [] k j).1),(uF n a [] k j).2)
 |n+1,[],_::b,k,j=>((uF n [] b k (j+1)).1,j::(uF n [] b k (j+1)).2)
 |n+1,x::a,y::b,k,j=>if uZ a (y::b)=uZ (x::a) (y::b)then((k::(uF n a (y::b) k j).1),(uF n a (y::b) k j).2)
   else if uZ (x::a) b=uZ (x::a) (y::b)then((uF n (x::a) b k (j+1)).1,j::(uF n (x::a) b k (j+1)).2)
   else uF n a b (k+1) (j+1)
def lE(s:List By)(i:Nat):List By:=s++[B4 (i:Int)]
noncomputable def oG(s:List By)(a b:List pL):List pW:=
 ((uF (a.length+b.length) a b 0 0).1.map λ(i:Nat)=>((1,lE s i,.nil):pW))++(uF (a.length+b.length) a b 0 0).2.map λ(i:Nat)=>((0,lE s i,(b[i]?).getD .nil):pW)
def dF(m:List By->pL->pL->List pW)(s:List By)(xs bs:List (Lit×pL)):List By->List pW
 |[]=>[]
 |k::r=>(match Aq xs (.string k),Aq bs (.string k)with
  |_,none=>[(1,s++[k],.nil)]
  |none,some y=>[(0,s++[k],y)]
  |some x,some y=>m (s++[k]) x y)++dF m s xs bs r
noncomputable def mC(n:Int):Nat->List By->pL->pL->List pW
 |0,_,_,_=>[]
 |f+1,s,a,b=>match a,b with
  |.map xs,.map bs=>dF (mC n f) s xs bs (nC xs bs)
  |.slice xs x,.slice bs y=>if((xs.length:Int)+1)*((bs.length:Int)+1)<=n then oG s xs bs else if veq (.slice xs x) (.slice bs y)=true then[]else[(2,s,.slice bs y)]
  |a,b=>if veq a b=true then[]else[(2,s,b)]
def Wz(a:pL):List (Lit×pL):=match a with
 |.map es=>es
 |_=>[]
noncomputable def Uu(m:pL->pL->Option pL)(xs:List (Lit×pL)):List (Lit×pL)->List (Lit×pL)->Option (List (Lit×pL))
 |[],out=>some out
 |(k,y)::r,out=>match Aq xs k with
  |some x=>if veq x y=true then Uu m xs r out else if tJ y then none else(match m x y with
   |none=>none
   |some z=>Uu m xs r (qI k z out))
  |none=>if tJ y then none else(match m (.map []) y with
   |none=>none
   |some z=>Uu m xs r (qI k z out))
noncomputable def vQ:Nat->pL->pL->Option pL
 |0,_,_=>none
 |f+1,a,b=>match b with
  |.map bs=>(Uu (vQ f) (Wz a) bs (((Wz a).filter λp=>!A4 (.map bs:pL) p.1).map λp=>(p.1,BG 0))).map .map
  |b=>some b
noncomputable def tO(d e:Int)(v:pL×rA)(s:By):rD×(pL×rA):=match qB s (d+2) e with
 |(c,none)=>((c,0,[]),v)
 |(_,some p)=>match A7 p with
  |.error i=>((10,i,[]),v)
  |.ok l=>match Cn d 0 v.1 [] l with
   |.error (c,i)=>((c,i,[]),v)
   |.ok (x,j)=>((0,0,[]),(x,some j.reverse))
noncomputable def wF(v:pL×rA)(p:pL):rD×(pL×rA):=
 if 20000<(pP top (qQ top (some v.1) [] p).1).length then((4,0,[]),v)else((0,0,[]),((qQ top (some v.1) [] p).1,some (qQ top (some v.1) [] p).2.reverse))
noncomputable def wG(d e:Int)(v:pL×rA)(s:By):rD×(pL×rA):=match qB s d e with
 |(c,none)=>((c,0,[]),v)
 |(_,some p)=>wF v p
def uU(v:pL×rA):rD:=match v.2 with
 |none=>(3,0,[])
 |some j=>(0,0,Dq j)
noncomputable def wH(n:Int)(v p:pL):rD:=(0,0,Dq (mC n top [] v p))
noncomputable def wI(d e n:Int)(v:pL×rA)(s:By):rD:=match qB s d e with
 |(c,none)=>(c,0,[])
 |(_,some p)=>wH n v.1 p
noncomputable def wJ(v p:pL):rD:=match vQ top v p with
 |none=>(15,0,[])
 |some x=>(0,0,pP top x)
noncomputable def wK(d e:Int)(v:pL×rA)(s:By):rD:=match qB s d e with
 |(c,none)=>(c,0,[])
 |(_,some p)=>wJ v.1 p
noncomputable def tP(d e n:Int)(v:pL×rA)(o:St):rD×(pL×rA):=
 if o.1=5 then tO d e v o.2.1 else if o.1=6 then wG d e v o.2.1 else if o.1=7 then(uU v,v)
 else if o.1=8 then(wI d e n v o.2.1,v)else(wK d e v o.2.1,v)
def rU(n a b:Int):Bool:=decide (a<=n) && decide (n<=b)
def rT(d e n:Int):Bool:=rU d 1 20 && (rU e 0 400 && rU n 0 2000)
def vA(r:Nat×Option pL)(doc:sL):rD×sL:=
 match r.2 with
 |some v=>((r.1,0,[]),some (v,none))
 |none=>((r.1,0,[]),doc)
def tG(v:pL)(s:By):rD:=match qX s with
 |none=>(9,0,[])
 |some l=>match Ag v l with
  |.ok e=>(0,0,pP top e)
  |.error c=>(c,0,[])
noncomputable def tK(d e:Int)(v:pL)(s t:By):Nat:=match qX s with
 |none=>9
 |some l=>match qB t d e with
  |(c,none)=>c
  |(_,some x)=>match Ag v l with
   |.error c=>c
   |.ok y=>if veq y x=true then 0 else 14
noncomputable def tQ(d e:Int)(v:pL)(o:St):rD:=
 if o.1=2 then(0,0,pP top v)else if o.1=3 then tG v o.2.1 else if o.1=4 then(tK d e v o.2.1 o.2.2,0,[])else(1,0,[])
noncomputable def rF(d e n:Int)(doc:sL)(o:St):rD×sL:=
 if rT d e n then
  (if o.1<1\/9<o.1 then((1,0,[]),doc)
   else if o.1=1 then vA (qB o.2.1 d e) doc
   else match doc with
    |none=>((3,0,[]),doc)
    |some v=>if o.1<5 then(tQ d e v.1 o,doc)else((tP d e n v o).1,some (tP d e n v o).2))
 else((2,0,[]),doc)
noncomputable def sM(d e n:Int):sL->List St->List rD
 |_,[]=>[]
 |doc,o::r=>(rF d e n doc o).1::sM d e n (rF d e n doc o).2 r
noncomputable def sI(d e n:Int):sL->List St->sL
 |doc,[]=>doc
 |doc,o::r=>sI d e n (rF d e n doc o).2 r
theorem vL(d e n:Int):∀(l:List St) (doc:sL),(sM d e n doc l).length=l.length:=by
 intro l;induction l with
 |nil=>intro doc;rfl
 |cons o r ih=>intro doc;simp[sM,ih]
theorem wL(d e n:Int):∀(l:List St) (doc:sL) (o:St),sM d e n doc (l++[o])=sM d e n doc l++[(rF d e n (sI d e n doc l) o).1]:=by
 intro l;induction l with
 |nil=>intro doc o;rfl
 |cons x r ih=>intro doc o;simp[sM,sI,ih]
theorem vR(d e n:Int):∀(l:List St) (doc:sL) (o:St),sI d e n doc (l++[o])=(rF d e n (sI d e n doc l) o).2:=by
 intro l;induction l with
 |nil=>intro doc o;rfl
 |cons x r ih=>intro doc o;simp[sI,ih]
def Ay(a:rD):A5:=.agg #[InB a.1,InB a.2.1,.string ⟨a.2.2.toArray⟩]
def AC(c:Nat)(t:By):A5:=.agg #[InB c,InB 0,.string ⟨t.toArray⟩]
theorem IC(n a b:Int)(w:AS):CL AI 52 #[InB n,InB a,InB b] w λe w'=>e=.returned (.bool (rU n a b))/\w'=w:=by
 by_cases h1:a<=n
 .by_cases h2:n<=b
  .have e1:decide (a<=n)=true:=ε;have e2:decide (n<=b)=true:=ε;have HE:=Ab (show rU n a b=true by grind [rU]);clear h1 h2;go_enter func52,ntmps52;go_wp2;go_ret;exact⟨by rw[HE.u];rfl,rfl⟩
  .have e1:decide (a<=n)=true:=ε;have e2:decide (n<=b)=false:=ε;have HE:=Ab (show rU n a b=false by grind [rU]);clear h1 h2;go_enter func52,ntmps52;go_wp2;go_ret;exact⟨by rw[HE.u];rfl,rfl⟩
 .have e1:decide (a<=n)=false:=ε;have HE:=Ab (show rU n a b=false by grind [rU]);clear h1;go_enter func52,ntmps52;go_wp2;go_ret;exact⟨by rw[HE.u];rfl,rfl⟩
theorem PW(d e n:Int)(w:AS):CB 40 #[.agg #[.int .i64 d,.int .i64 e,.int .i64 n]] w (.bool (rT d e n)):=by
 have hb:Bl w (w.alloc (.cells #[.int .i64 d,.int .i64 e,.int .i64 n] 23)):=(Â _ _).alloc (Á _) _;go_enter func40,ntmps40;go_wp2_with fail;refine(IC d 1 20 _).mono ?_;rintro x w1⟨rfl,rfl⟩;cases h1:rU d 1 20 with
 |false=>
  have H1:=Ab h1;clear h1;simp only;go_wp2;go_ret;exact⟨by unfold rT;rw[H1.u];rfl,hb⟩
 |true=>
  have H1:=Ab h1;clear h1;simp only;go_wp2_with fail;refine(IC e 0 400 _).mono ?_;rintro x w1⟨rfl,rfl⟩;cases h2:rU e 0 400 with
  |false=>
   have H2:=Ab h2;clear h2;simp only;go_wp2;go_ret;exact⟨by unfold rT;rw[H1.u,H2.u];rfl,hb⟩
  |true=>
   have H2:=Ab h2;clear h2;simp only;go_wp2_with fail;refine(IC n 0 2000 _).mono ?_;rintro x w1⟨rfl,rfl⟩;go_wp2;go_ret;exact⟨by unfold rT;rw[H1.u,H2.u];simp,hb⟩
theorem BL(c:Nat)(w:AS):CB 41 #[InB c] w (AC c []):=by
 unfold AC;go_enter func41,ntmps41;go_wp2_with fail;refine Ì (v:=.agg #[InB c,InB 0,.string ⟨([]:By).toArray⟩]) (by simp[results,results41,go_sem]) rfl ⟨rfl,?_⟩;exact(Â _ w).alloc (Á _) _
def qE:List Nat->pN->Option pN
 |[],a=>some a
 |i::r,a=>match(AM a)[i]? with
  |some c=>qE r c
  |none=>none
def qT:List Nat->pN->pN->pN
 |[],n,_=>n
 |i::r,n,a=>match(AM a)[i]? with
  |some c=>sX a i (qT r n c)
  |none=>a
theorem C7{r:List Nat}{n:pN}(h:qE (i::r) a=some n):∃c,(AM a)[i]?=some c/\qE r c=some n:=by
 grind [qE]
theorem CM{r:List Nat}(n:pN)(h:(AM a)[i]?=some c):qT (i::r) n a=sX a i (qT r n c):=by
 rw[qT,h]
theorem Hk(h:(AM a)[i]?=some c):(∃k b l g al x,a=.agg [.lit (.int k b),.lit (.int l g),.slice al x]/\al[i]?=some c)\/(∃k b l g es key,a=.agg [.lit (.int k b),.lit (.int l g),.map es]/\es[i]?=some (key,c)):=by
 unfold AM at h;grind
theorem Xd(h:(AM a)[i]?=some c):∃rest,(pM (f+1) a).Perm (rest++pM f c)/\∀c',(pM (f+1) (sX a i c')).Perm (rest++pM f c'):=by
 rcases Hk h with⟨k,b,l,g,al,x,rfl,h7⟩|⟨k,b,l,g,es,key,rfl,h7⟩
 .obtain⟨l1,l2,rfl,hl⟩:=Ds (pM f) al i c h7;have e (y:List pN) (z:List pN):pM (f+1) (.agg [.lit (.int k b),.lit (.int l g),.slice y z])=b.toNat::((if g=0 then[]else[g.toNat])++y.flatMap (pM f)):=rfl;have p (c':pN):(b.toNat::((if g=0 then[]else[g.toNat])++(l1++c'::l2).flatMap (pM f))).Perm ((b.toNat::((if g=0 then[]else[g.toNat])++(l1.flatMap (pM f)++l2.flatMap (pM f))))++pM f c'):=by
   grind
  refine⟨_,by rw[e];exact p c,λc'=>?_⟩;have e2:sX (.agg [.lit (.int k b),.lit (.int l g),.slice (l1++c::l2) x]) i c'=.agg [.lit (.int k b),.lit (.int l g),.slice (l1++c'::l2) []]:=by
   show B2 [.lit (.int k b),.lit (.int l g),.slice ((l1++c::l2).set i c') []]=_;grind
  grind
 .obtain⟨l1,l2,rfl,hl⟩:=Ds (λp=>pM f p.2) es i (key,c) h7;have e (y:List (Lit×pN)):pM (f+1) (.agg [.lit (.int k b),.lit (.int l g),.map y])=b.toNat::g.toNat::y.flatMap (λp=>pM f p.2):=rfl;have p (c':pN):(b.toNat::g.toNat::(l1++(key,c')::l2).flatMap (λp=>pM f p.2)).Perm ((b.toNat::g.toNat::(l1.flatMap (λp=>pM f p.2)++l2.flatMap (λp=>pM f p.2)))++pM f c'):=by
   grind
  refine⟨_,by rw[e];exact p c,λc'=>?_⟩;have e2:sX (.agg [.lit (.int k b),.lit (.int l g),.map (l1++(key,c)::l2)]) i c'=.agg [.lit (.int k b),.lit (.int l g),.map (l1++(key,c')::l2)]:=by
   show B2 [.lit (.int k b),.lit (.int l g),.map ((l1++(key,c)::l2).modify i λp=>(p.1,c'))]=_;rw[<-hl,FL]
  grind
theorem Ir{f:Nat}:∀{p:List Nat}{a n:pN},qE p a=some n ->∃rest,(pM (f+p.length) a).Perm (rest++pM f n)/\∀n',(pM (f+p.length) (qT p n' a)).Perm (rest++pM f n')
 |[],a,n,h=>by
  cases h;exact⟨[],HB _,λn'=>HB _⟩
 |i::r,a,n,h=>by
  obtain⟨c,hc,h2⟩:=C7 h;obtain⟨rest,h3,h4⟩:=Ir (f:=f) h2;obtain⟨q0,h5,h6⟩:=Xd (f:=f+r.length) hc;refine⟨q0++rest,?_,λn'=>?_⟩
  .grind
  .rw[ē,CM n' hc];grind
theorem DO{n:pN}(h:qE p a=some n):∀k∈pM f n,k∈pM (f+p.length) a:=by
 obtain⟨rest,h1,_⟩:=Ir (f:=f) h;grind
theorem CE{n:pN}(h:qE p a=some n)(hn:(pM (f+p.length) a).Nodup):(pM f n).Nodup:=by
 obtain⟨rest,h1,_⟩:=Ir (f:=f) h;grind
theorem V7{n n':pN}(h:qE p a=some n)(hn:(pM (f+p.length) a).Nodup)(q0:(pM f n').Nodup)(hd:∀k∈pM f n',k∈pM (f+p.length) a->k∈pM f n):(pM (f+p.length) (qT p n' a)).Nodup:=by
 obtain⟨rest,h1,h2⟩:=Ir (f:=f) h;grind
theorem kR{n n':pN}(h:qE p a=some n):∀k∈pM (f+p.length) (qT p n' a),k∈pM (f+p.length) a\/k∈pM f n':=by
 obtain⟨rest,h1,h2⟩:=Ir (f:=f) h;grind
theorem Ad.at{f:Nat}{w:AS}:∀{p:List Nat}{v:A5}{a n:pN},Ad (f+p.length) w v a->qE p a=some n ->∃u,Ad f w u n
 |[],v,a,n,h,hs=>by
  injection hs with hs;grind
 |i::r,v,a,n,h,hs=>by
  obtain⟨c,hc,h2⟩:=C7 hs;obtain⟨b,g,x,rfl,hv,h⟩:=(show Ad ((f+r.length)+1) w v a from h)
  rcases h with⟨k,_,_,rfl,h⟩|⟨n,_,rfl,h,q0⟩|⟨s,_,rfl,h⟩|⟨al,sl,ps,rfl,h,ho,hs,ha⟩|⟨es,n,D,rfl,h,ho,hp⟩
  .rw[FM]at hc;simp at hc
  .rw[GK]at hc;simp at hc
  .rw[GJ]at hc;simp at hc
  .rw[Cs]at hc;obtain⟨u,hu⟩:=ha.right (ñ hc);exact Ad.at hu h2
  .rw[Cg,Þ]at hc;obtain⟨q,hq,rfl⟩:=à.1 hc;obtain⟨u,hu⟩:=hp.right (ñ hq);exact Ad.at hu h2
theorem Ad.put{f:Nat}{w w':AS}{n':pN}:∀{p:List Nat}{v:A5}{a n:pN},Ad (f+p.length) w v a->qE p a=some n->(pM (f+p.length) a).Nodup ->
  (∀k∈pM (f+p.length) a,k∉pM f n->w'.1[k]?=w.1[k]?)->(∀u,Ad f w u n->Ad f w' u n')->Ad (f+p.length) w' v (qT p n' a)
 |[],v,a,n,h,hs,_,_,hc=>by
  cases hs;exact hc v h
 |i::r,v,a,n,h,hs,hn,hk,hc=>by
  obtain⟨c,q0,h2⟩:=C7 hs;rw[CM n' q0];obtain⟨rest,h5,h6⟩:=Xd (f:=f+r.length) q0;have q5:=(č.1 (h5.nodup_iff.1 hn)).2.1;refine Ad.kid (f:=f+r.length) h q0 hn (λk q4 hk2=>hk k q4 λq6=>hk2 (DO h2 k q6)) λu hu=>?_;exact Ad.put hu h2 q5 (λk q4 hk2=>hk k (h5.mem_iff.2 (ý _ q4)) hk2) hc
theorem SY{k:Lit}(hd:es.Pairwise (λp q=>p.1≠q.1))(hk:∀p∈es,∃s,p.1=.string s)(h:A4 (.map es:pL) k=true):∃p∈es,p.1=k/\(B1 es).atKey k .nil=p.2:=by
 obtain⟨p,hp,hs⟩:=è.1 (show es.any (λp=>p.1.sameKey k)=true from h);have e:=ć hs;obtain⟨s,hs2⟩:=hk p hp;refine⟨p,hp,e,?_⟩;subst e;exact Ă .nil (by rw[hs2];trivial) hd ζ
theorem Hl{x:By}:∀{l:List By},x∈l->x.length<=(Ah l).length
 |[],h=>by cases h
 |y::r,h=>by
  have hR:∀{l:List By},x∈l->x.length<=(Bp l).length:=by
   intro l;induction l with
   |nil=>grind
   |cons z s ih=>
    intro h;simp only[Bp,É,Ñ];grind
  simp only[Ah,Ñ];grind
theorem Jj{dd xx:Int}{d e:pL}{t:By}(h:pU dd xx (f+1) lv d)(hc:qA d t=.ok e):pU dd xx f (lv+1) e/\(pP f e).length<=(pP (f+1) d).length:=by
 obtain⟨_,h⟩:=h;rcases h with⟨k,_,rfl⟩|⟨s,_,rfl⟩|⟨n,_,_,_,rfl⟩|⟨es,h,rfl⟩|⟨es,hp,hk,rfl⟩
 .have:(E2 11:Except Nat pL)=.ok e:=hc;cases this
 .have:(E2 11:Except Nat pL)=.ok e:=hc;cases this
 .have:(E2 11:Except Nat pL)=.ok e:=hc;cases this
 .unfold qA Ak at hc;simp only at hc;split at hc
  .cases hc
  .split at hc
   .rename_i x hx;cases hc;have hm:=ñ hx;refine⟨h _ hm,?_⟩;rw[BH];have:=Hl (Ğ (f:=pP f) hm);grind
   .cases hc
 .have q0:∀p∈es,∃s,p.1=.string s:=ε;unfold qA Ap at hc;simp only at hc;split at hc
  .rename_i hh;obtain⟨p,q4,_,he⟩:=SY (Ny hp q0) q0 hh;injection hc with hc;rw[he]at hc;subst hc;refine⟨(hk p q4).2,?_⟩;rw[GD hp q0];have:=Hl (Ğ (f:=sS f) q4);simp only[sS,É,Ñ]at this |-;omega
  .cases hc
theorem S5{dd xx:Int}:∀(l:List By) (f:Nat) (lv:Int) (d e:pL),pU dd xx f lv d->Ag d l=.ok e ->∃f' q0,f'<=f/\pU dd xx f' q0 e/\(pP f' e).length<=(pP f d).length
 |[],f,lv,d,e,h,hf=>by
  grind [Ag,pU,pP]
 |t::r,0,lv,d,e,h,hf=>h.elim
 |t::r,f+1,lv,d,e,h,hf=>by
  unfold Ag at hf;split at hf
  .rename_i e1 h1;obtain⟨a,b⟩:=Jj h h1;obtain⟨f',q0,c1,c2,c3⟩:=S5 r f _ _ _ a hf;grind
  .cases hf
theorem Ew{dd xx:Int}:∀(f g:Nat) (lv:Int) (d:pL),pU dd xx f lv d->f<=g->pP g d=pP f d
 |0,_,_,_,h,_=>h.elim
 |f+1,0,_,_,_,hg=>ζ
 |f+1,g+1,lv,d,h,hg=>by
  obtain⟨_,h⟩:=h;rcases h with⟨k,_,rfl⟩|⟨s,_,rfl⟩|⟨n,_,_,_,rfl⟩|⟨es,h,rfl⟩|⟨es,hp,hk,rfl⟩
  .rfl
  .rfl
  .rfl
  .rw[BH,BH,ä λe he=>Ew f g _ e (h e he) ζ]
  .have q0:∀p∈es,∃s,p.1=.string s:=λp q4=>ε;rw[GD hp q0,GD hp q0,ä λp q4=>show sS g p=sS f p by unfold sS;rw[Ew f g _ p.2 (hk p q4).2 ζ]]
theorem Rep.up1:∀{f:Nat}{F:Nat->Prop}{w:AS}{v:A5}{d:pL},Rep f F w v d->Rep (f+1) F w v d:=by
 intro f;induction f with
 |zero=>intro F w v d h;exact h.elim
 |succ f ih=>
  intro F w v d h;obtain⟨b,hv,hb,h⟩:=h;rcases h with h|h|h|⟨es,sl,ps,hd,h,ho,hs,ha⟩|⟨es,m,n,D,hd,h,hm,ho,hp⟩
  .exact⟨b,hv,hb,Å h⟩
  .exact⟨b,hv,hb,À (Å h)⟩
  .exact⟨b,hv,hb,ε⟩
  .exact⟨b,hv,hb,À (À (À (Å ⟨es,sl,ps,hd,h,ho,hs,ha.mono λ_ _ h=>ih h⟩)))⟩
  .exact⟨b,hv,hb,À (À (À (À ⟨es,m,n,D,hd,h,hm,ho,hp.mono λ_ _ h=>ih h⟩)))⟩
theorem Rep.up{w:AS}{d:pL}{g:Nat}(h:Rep f F w v d)(hg:f<=g):Rep g F w v d:=by
 induction g with
 |zero=>grind
 |succ g ih=>
  by_cases e:f=g+1
  .grind
  .exact (ih ζ).up1
theorem Ks:∀(n:Nat) (t k:By),t.length<=n->qC t=some k->k.length<=t.length
 |_,[],k,_,h=>by
  have:(some []:Option By)=some k:=h;grind
 |0,_::_,_,hn,_=>by simp at hn
 |n+1,c::r,k,hn,h=>by
  rw[Dy]at h;simp only[É]at hn |-;split at h
  .split at h
   .rename_i q;obtain⟨a,ha,rfl⟩:=à.1 h;have:=Ks n q a ε ha;grind
   .rename_i q;obtain⟨a,ha,rfl⟩:=à.1 h;have:=Ks n q a ε ha;grind
   .cases h
  .obtain⟨a,ha,rfl⟩:=à.1 h;have:=Ks n r a ζ ha;grind
theorem Mi:∀(ts ks:List By),rQ ts=some ks->ks.length=ts.length/\∀k∈ks,∃t∈ts,k.length<=t.length
 |[],ks,h=>by
  have:(some []:Option (List By))=some ks:=h;grind
 |t::r,ks,h=>by
  unfold rQ at h;split at h
  .cases h
  .rename_i k hk;obtain⟨a,ha,rfl⟩:=à.1 h;obtain⟨h1,h2⟩:=Mi r a ha;refine⟨by simp[h1],λx hx=>?_⟩;rcases Ë.1 hx with rfl|hx
   .exact⟨t,φ,Ks _ _ _ (Á _) hk⟩
   grind
theorem Wh:∀(l:By),(qJ l).length<=l.length+1/\∀t∈qJ l,t.length<=l.length
 |[]=>by simp[qJ]
 |c::r=>by
  obtain⟨h1,h2⟩:=Wh r;unfold qJ;grind
theorem Gx(h:qX l=some ks):ks.length<=l.length/\∀k∈ks,k.length<=l.length:=by
 unfold qX at h;split at h
 .split at h
  .rename_i r hp;obtain⟨h1,h2⟩:=Mi _ _ h;obtain⟨h3,h4⟩:=Wh l;grind
  .cases h
 .cases h
theorem Ip{α β:Type}{f g:α->β}{l:List α}(h:∀a∈l,f a=g a):l.map f=l.map g:=ä h
theorem KD{α β:Type}{f g:α->List β}{l:List α}(h:∀a∈l,f a=g a):l.flatMap f=l.flatMap g:=by
 induction l with
 |nil=>rfl
 |cons a r ih=>grind
theorem Ad.up1:∀{f:Nat}{w:AS}{v:A5}{a:pN},Ad f w v a->Ad (f+1) w v a/\pM (f+1) a=pM f a/\pT (f+1) a=pT f a
 |0,_,_,_,h=>h.elim
 |f+1,w,v,a,h=>by
  obtain⟨b,g,x,rfl,hv,h⟩:=h;rcases h with⟨k,h1,h2,rfl,h⟩|⟨n,h2,rfl,h,q4⟩|⟨s,h2,rfl,h⟩|⟨al,sl,ps,rfl,h,ho,hs,ha⟩|⟨es,n,D,rfl,h,ho,hp⟩
  .exact⟨⟨b,g,_,rfl,hv,Å ⟨k,h1,h2,rfl,h⟩⟩,rfl,rfl⟩
  .exact⟨⟨b,g,_,rfl,hv,À (Å ⟨n,h2,rfl,h,q4⟩)⟩,rfl,rfl⟩
  .exact⟨⟨b,g,_,rfl,hv,À (À (Å ⟨s,h2,rfl,h⟩))⟩,rfl,rfl⟩
  .have hk:∀c∈al,pM (f+1) c=pM f c/\pT (f+1) c=pT f c:=λc hc=>by
    obtain⟨u,hu⟩:=ha.right hc;exact(Ad.up1 hu).2
   refine⟨⟨b,g,_,rfl,hv,À (À (À (Å ⟨al,sl,ps,rfl,h,ho,hs,ha.mono λ_ _ h=>(Ad.up1 h).1⟩)))⟩,?_,?_⟩
   .rw[AU,AU,KD λc hc=>(hk c hc).1]
   .rw[Bn,Bn,Ip λc hc=>(hk c hc).2]
  .have hk:∀p∈es,pM (f+1) p.2=pM f p.2/\pT (f+1) p.2=pT f p.2:=λp q0=>by
    obtain⟨u,hu⟩:=hp.right q0;exact(Ad.up1 hu).2
   refine⟨⟨b,g,_,rfl,hv,À (À (À (À ⟨es,n,D,rfl,h,ho,hp.mono λ_ _ h=>(Ad.up1 h).1⟩)))⟩,?_,?_⟩
   .rw[BC,BC,KD λp q0=>(hk p q0).1]
   .rw[Bc,Bc,Ip (g:=λp=>(p.1,pT f p.2)) λp q0=>ε]
theorem Ad.up{g:Nat}{w:AS}(h:Ad f w v a)(hg:f<=g):Ad g w v a/\pM g a=pM f a/\pT g a=pT f a:=by
 induction g with
 |zero=>
  grind
 |succ g ih=>
  by_cases e:f=g+1
  .grind
  .obtain⟨h1,h2,h3⟩:=ih ζ;obtain⟨h4,h5,h6⟩:=h1.up1;grind
theorem Ad.down1{dd xx:Int}:∀{f:Nat}{lv:Int}{w:AS}{v:A5}{a:pN},Ad (f+1) w v a->pU dd xx f lv (pT (f+1) a)->Ad f w v a/\pM f a=pM (f+1) a/\pT f a=pT (f+1) a
 |0,_,_,_,_,_,h=>h.elim
 |f+1,lv,w,v,a,h,hg=>by
  obtain⟨b,g,x,rfl,hv,h⟩:=h;rcases h with⟨k,h1,h2,rfl,h⟩|⟨n,h2,rfl,h,q5⟩|⟨s,h2,rfl,h⟩|⟨al,sl,ps,rfl,h,ho,hs,ha⟩|⟨es,n,D,rfl,h,ho,hp⟩
  .exact⟨⟨b,g,_,rfl,hv,Å ⟨k,h1,h2,rfl,h⟩⟩,rfl,rfl⟩
  .exact⟨⟨b,g,_,rfl,hv,À (Å ⟨n,h2,rfl,h,q5⟩)⟩,rfl,rfl⟩
  .exact⟨⟨b,g,_,rfl,hv,À (À (Å ⟨s,h2,rfl,h⟩))⟩,rfl,rfl⟩
  .rw[Bn]at hg;obtain⟨_,hg⟩:=hg;rcases hg with⟨_,_,e⟩|⟨_,_,e⟩|⟨_,_,_,_,e⟩|⟨es,hg,e⟩|⟨_,_,_,e⟩
   .cases e
   .cases e
   .cases e
   .have e2:al.map (pT (f+1))=es:=by injection e
    subst e2;have hk:∀c∈al,∀u,Ad (f+1) w u c->Ad f w u c/\pM f c=pM (f+1) c/\pT f c=pT (f+1) c:=λc hc u hu=>Ad.down1 hu (hg _ (Ğ hc));have hk2:∀c∈al,pM f c=pM (f+1) c/\pT f c=pT (f+1) c:=λc hc=>by
     obtain⟨u,hu⟩:=ha.right hc;grind
    refine⟨⟨b,g,_,rfl,hv,À (À (À (Å ⟨al,sl,ps,rfl,h,ho,hs,Al.mem ε ha⟩)))⟩,?_,?_⟩
    .rw[AU,AU,KD λc hc=>(hk2 c hc).1]
    .rw[Bn,Bn,Ip λc hc=>(hk2 c hc).2]
   .cases e
  .rw[Bc]at hg;obtain⟨_,hg⟩:=hg;rcases hg with⟨_,_,e⟩|⟨_,_,e⟩|⟨_,_,_,_,e⟩|⟨_,_,e⟩|⟨q4,_,hg,e⟩
   .cases e
   .cases e
   .cases e
   .cases e
   .have e2:es.map (λp=>(p.1,pT (f+1) p.2))=q4:=by injection e
    subst e2;have hk:∀p∈es,∀u,Ad (f+1) w u p.2->Ad f w u p.2/\pM f p.2=pM (f+1) p.2/\pT f p.2=pT (f+1) p.2:=λp q0 u hu=>Ad.down1 hu (hg _ (Ğ (f:=λp=>(p.1,pT (f+1) p.2)) q0)).2;have hk2:∀p∈es,pM f p.2=pM (f+1) p.2/\pT f p.2=pT (f+1) p.2:=λp q0=>by
     obtain⟨u,hu⟩:=hp.right q0;grind
    refine⟨⟨b,g,_,rfl,hv,À (À (À (À ⟨es,n,D,rfl,h,ho,Pt.mem (λu p q0 hu=>(hk p q0 u hu).1) hp⟩)))⟩,?_,?_⟩
    .rw[BC,BC,KD λp q0=>(hk2 p q0).1]
    .rw[Bc,Bc,Ip (g:=λp=>(p.1,pT (f+1) p.2)) ε]
theorem Ad.fit{dd xx:Int}{g:Nat}{w:AS}(h:Ad g w v a)(hg:pU dd xx f lv (pT g a))(q4:f<=g):Ad f w v a/\pM f a=pM g a/\pT f a=pT g a:=by
 induction g with
 |zero=>grind
 |succ g ih=>
  by_cases e:f=g+1
  .grind
  .have q0:∀(m f:Nat) (lv:Int) (d:pL),pU dd xx f lv d->pU dd xx (f+m) lv d:=by
    intro m f;induction f with
    |zero=>intro _ _ h;exact h.elim
    |succ f ih=>
     grind [pU,pT,pM]
   have h1:=h.down1 (by have:=q0 (g-f) f lv _ hg;rw[show f+(g-f)=g from ζ]at this;exact this);grind
theorem Ad.uniq{f':Nat}{w:AS}{u':A5}(h:Ad f w u a)(h':Ad f' w' u' a):u=u':=by
 cases f with
 |zero=>exact h.elim
 |succ f=>
  cases f' with
  |zero=>exact h'.elim
  |succ f'=>
   obtain⟨b,g,x,rfl,rfl,_⟩:=h;obtain⟨b2,g2,x2,e,rfl,_⟩:=h';have e1:pS b g x=pS b2 g2 x2:=e;unfold pS at e1;grind
def er:Nat->pN->pN
 |0,a=>a
 |f+1,a=>match a with
  |.agg [.lit (.int k b),.lit (.int l g),x]=>(match x with
   |.slice al y=>.agg [.lit (.int k b),.lit (.int l 0),.slice (al.map (er f)) y]
   |.map es=>.agg [.lit (.int k b),.lit (.int l g),.map (es.map λp=>(p.1,er f p.2))]
   |z=>.agg [.lit (.int k b),.lit (.int l g),z])
  |y=>y
theorem vF(f b g:Nat)(al:List pN):er (f+1) (pS b g (.slice al []))=pS b 0 (.slice (al.map (er f)) []):=rfl
theorem vM(f b g:Nat)(es:List (Lit×pN)):er (f+1) (pS b g (.map es))=pS b g (.map (es.map λp=>(p.1,er f p.2))):=rfl
theorem Gm(f b g k:Nat):er (f+1) (pS b g (BG k))=pS b g (BG k):=rfl
theorem Xl(f b g:Nat)(n:Nm):er (f+1) (pS b g (Bm n))=pS b g (Bm n):=rfl
theorem Tc(f b g:Nat)(s:By):er (f+1) (pS b g (Av s))=pS b g (Av s):=rfl
theorem vN(a:pN):(∃k b l g al y,a=.agg [.lit (.int k b),.lit (.int l g),.slice al y])\/(∃k b l g es,a=.agg [.lit (.int k b),.lit (.int l g),.map es])\/((∀f,er f a=a)/\AM a=[]/\∀i c,sX a i c=a):=by
 by_cases h1:∃k b l g al y,a=.agg [.lit (.int k b),.lit (.int l g),.slice al y]
 .grind
 by_cases h2:∃k b l g es,a=.agg [.lit (.int k b),.lit (.int l g),.map es]
 .grind
 refine À (À ⟨λf=>?_,?_,λi c=>?_⟩)
 .cases f with
  |zero=>rfl
  |succ f=>
   unfold er;grind
 .unfold AM;grind
 .unfold sX;grind
theorem Ii:∀(f:Nat) (a:pN),pT f (er f a)=pT f a
 |0,_=>rfl
 |f+1,a=>by
  rcases vN a with⟨k,b,l,g,al,y,rfl⟩|⟨k,b,l,g,es,rfl⟩|⟨h,_,_⟩
  .show Ak ((al.map (er f)).map (pT f))=Ak (al.map (pT f));rw[Ý,Ip λc _=>(show(pT f ∘ er f) c=pT f c from Ii f c)]
  .show Ap ((es.map λp=>(p.1,er f p.2)).map λp=>(p.1,pT f p.2))=Ap (es.map λp=>(p.1,pT f p.2));rw[Ý,Ip (g:=λp=>(p.1,pT f p.2)) λp _=>(show((λp=>(p.1,pT f p.2)) ∘ λp:Lit×pN=>(p.1,er f p.2)) p=(p.1,pT f p.2) by show(p.1,pT f (er f p.2))=_;rw[Ii f p.2])]
  .rw[h]
theorem Td(f:Nat)(a:pN):AM (er (f+1) a)=(AM a).map (er f):=by
 rcases vN a with⟨k,b,l,g,al,y,rfl⟩|⟨k,b,l,g,es,rfl⟩|⟨h,h2,_⟩
 .rfl
 .show (es.map λp=>(p.1,er f p.2)).map G3=(es.map G3).map (er f);simp_all
 grind
theorem Mq:∀(p:List Nat) (f:Nat) (a:pN),qE p (er (f+p.length) a)=(qE p a).map (er f)
 |[],_,_=>rfl
 |i::r,f,a=>by
  show qE (i::r) (er ((f+r.length)+1) a)=_;rw[qE,qE,Td,Þ];cases(AM a)[i]? with
  |none=>rfl
  |some c=>exact Mq r f c
theorem I9{α β:Type}(q:α->β)(u:α->α)(u':β->β)(h:∀a,q (u a)=u' (q a)):∀(l:List α) (i:Nat),(l.modify i u).map q=(l.map q).modify i u'
 |[],i=>φ
 |a::r,0=>by simp[h]
 |a::r,i+1=>by simp[I9 q u u' h r i]
theorem Xm(f i:Nat)(a c:pN):er (f+1) (sX a i c)=sX (er (f+1) a) i (er f c):=by
 rcases vN a with⟨k,b,l,g,al,y,rfl⟩|⟨k,b,l,g,es,rfl⟩|⟨h,h2,h3⟩
 .show B2 [.lit (.int k b),.lit (.int l 0),.slice ((al.set i c).map (er f)) []]=B2 [.lit (.int k b),.lit (.int l 0),.slice ((al.map (er f)).set i (er f c)) []];simp_all
 .show B2 [.lit (.int k b),.lit (.int l g),.map ((es.modify i λp=>(p.1,c)).map λp=>(p.1,er f p.2))]=B2 [.lit (.int k b),.lit (.int l g),.map ((es.map λp=>(p.1,er f p.2)).modify i λp=>(p.1,er f c))];rw[I9 (λp:Lit×pN=>(p.1,er f p.2)) (λp=>(p.1,c)) (λp=>(p.1,er f c)) λp=>rfl]
 grind
theorem Cv:∀(p:List Nat) (f:Nat){a n:pN}(n':pN),qE p a=some n->er (f+p.length) (qT p n' a)=qT p (er f n') (er (f+p.length) a)
 |[],_,_,_,_,_=>rfl
 |i::r,f,a,n,n',h=>by
  obtain⟨c,hc,h2⟩:=C7 h;rw[CM n' hc];have q0:(AM (er ((f+r.length)+1) a))[i]?=some (er (f+r.length) c):=by grind [Td,Xm]
  show er ((f+r.length)+1) _=qT (i::r) _ (er ((f+r.length)+1) a);rw[CM _ q0,Xm,Cv r f n' h2]
theorem ZJ(h:(AM a)[i]?=some c)(hy:∀k b l g al y,a=.agg [.lit (.int k b),.lit (.int l g),.slice al y]->y=[]):sX a i c=a:=by
 rcases Hk h with⟨k,b,l,g,al,x,rfl,h7⟩|⟨k,b,l,g,es,key,rfl,h7⟩
 .obtain rfl:=hy _ _ _ _ _ _ rfl;show B2 [.lit (.int k b),.lit (.int l g),.slice (al.set i c) []]=_;have h8:=ß.1 h7;rw[show al.set i c=al by rw[<-h8.2];simp_all]
 .show B2 [.lit (.int k b),.lit (.int l g),.map (es.modify i λp=>(p.1,c))]=_;obtain⟨l1,l2,rfl,rfl⟩:=Ds (λ_=>([]:List Nat)) es i _ h7;rw[FL]
theorem WO(hc:(AM a)[i]?=some c)(x:pN):(AM (sX a i x))[i]?=some x:=by
 rcases Hk hc with⟨k,b,l,g,al,y,rfl,h7⟩|⟨k,b,l,g,es,key,rfl,h7⟩
 .show (al.set i _)[i]?=_;grind
 .show ((es.modify i λp=>(p.1,x)).map G3)[i]?=_;grind
theorem R5:∀{p:List Nat}{a n:pN}(n':pN),qE p a=some n->qE p (qT p n' a)=some n'
 |[],_,_,_,_=>rfl
 |i::r,a,n,n',h=>by
  obtain⟨c,hc,h2⟩:=C7 h;rw[CM n' hc];have hk:(AM (sX a i (qT r n' c)))[i]?=some (qT r n' c):=WO hc _;rw[qE,hk];exact R5 n' h2
theorem gL{x y:pN}(h:(AM a)[i]?=some c):sX (sX a i x) i y=sX a i y:=by
 rcases Hk h with⟨k,b,l,g,al,z,rfl,h7⟩|⟨k,b,l,g,es,key,rfl,h7⟩
 .show B2 [.lit (.int k b),.lit (.int l g),.slice ((al.set i x).set i y) []]=B2 [.lit (.int k b),.lit (.int l g),.slice (al.set i y) []];simp_all
 .show B2 [.lit (.int k b),.lit (.int l g),.map ((es.modify i λp=>(p.1,x)).modify i λp=>(p.1,y))]=B2 [.lit (.int k b),.lit (.int l g),.map (es.modify i λp=>(p.1,y))];obtain⟨l1,l2,rfl,rfl⟩:=Ds (λ_=>([]:List Nat)) es i _ h7;grind [FL,List.set_set]
theorem Sl:∀{p:List Nat}{a n:pN}(x y:pN),qE p a=some n->qT p y (qT p x a)=qT p y a
 |[],_,_,_,_,_=>rfl
 |i::r,a,n,x,y,h=>by
  obtain⟨c,hc,h2⟩:=C7 h;rw[CM x hc,CM y hc];have hk:(AM (sX a i (qT r x c)))[i]?=some (qT r x c):=WO hc _;rw[CM y hk,Sl x y h2,gL hc]
theorem Ad.spare{w:AS}(h:Ad f w u a):∀k b l g al y,a=.agg [.lit (.int k b),.lit (.int l g),.slice al y]->y=[]:=by
 cases f with
 |zero=>exact h.elim
 |succ f=>
  intro k b l g al y e;obtain⟨b2,g2,x,rfl,hv,h⟩:=h;unfold pS at e;injection e with e;injection e with _ e;injection e with _ e;injection e with e _;rcases h with⟨j,_,_,rfl,h⟩|⟨n,_,rfl,h,q4⟩|⟨s,_,rfl,h⟩|⟨q0,sl,ps,rfl,_⟩|⟨es,n,D,rfl,_⟩
  .cases e
  .cases e
  .cases e
  .grind
  .cases e
theorem Ad.put_self{w:AS}:∀{p:List Nat}{u:A5}{a n:pN},Ad (f+p.length) w u a->qE p a=some n->qT p n a=a
 |[],_,_,_,_,h=>by injection h with h;exact h.symm
 |i::r,u,a,n,ht,h=>by
  obtain⟨c,hc,h2⟩:=C7 h;have h':Ad ((f+r.length)+1) w u a:=ht;obtain⟨x,hx⟩:∃u,Ad (f+r.length) w u c:=Ad.at (f:=f+r.length) (p:=[i]) h' (show qE [i] a=some c by simp[qE,hc]);rw[CM n hc,hx.put_self h2];exact ZJ hc ht.spare
theorem Ad.er_arr{b g:Nat}{w:AS}{al:List pN}(h:Ad (f+1) w u a)(e:er (f+1) a=er (f+1) (pS b g (.slice al []))):∃g' q0,a=pS b g' (.slice q0 [])/\q0.map (er f)=al.map (er f):=by
 obtain⟨b2,g2,x,rfl,hv,h⟩:=h;rcases h with⟨j,_,_,rfl,h⟩|⟨n,_,rfl,h,q5⟩|⟨s,_,rfl,h⟩|⟨q4,sl,ps,rfl,_⟩|⟨es,n,D,rfl,_⟩
 .rw[Gm,vF]at e;unfold pS at e;injection e with e;injection e with _ e;injection e with _ e;injection e with e _;cases e
 .rw[Xl,vF]at e;unfold pS at e;injection e with e;injection e with _ e;injection e with _ e;injection e with e _;cases e
 .rw[Tc,vF]at e;unfold pS at e;injection e with e;injection e with _ e;injection e with _ e;injection e with e _;cases e
 .grind [pS,er,Gm]
 grind [pS,er,Gm]
theorem Ad.er_obj{b g:Nat}{w:AS}{es:List (Lit×pN)}(h:Ad (f+1) w u a)(e:er (f+1) a=er (f+1) (pS b g (.map es))):∃es',a=pS b g (.map es')/\es'.map (λp=>(p.1,er f p.2))=es.map (λp=>(p.1,er f p.2)):=by
 obtain⟨b2,g2,x,rfl,hv,h⟩:=h;rcases h with⟨j,_,_,rfl,h⟩|⟨n,_,rfl,h,q5⟩|⟨s,_,rfl,h⟩|⟨q0,sl,ps,rfl,_⟩|⟨q4,n,D,rfl,_⟩
 .grind [pS,er,Gm]
 .rw[Xl,vM]at e;unfold pS at e;injection e with e;injection e with _ e;injection e with _ e;injection e with e _;cases e
 .rw[Tc,vM]at e;unfold pS at e;injection e with e;injection e with _ e;injection e with _ e;injection e with e _;cases e
 .grind [pS,er,Gm]
 grind [pS,er,Gm]
theorem AP{w:AS}{e n:Nat}{xs:List A5}(h:w.ownsRow B e 1 v n xs)(hpos:0<n):∃g cap,v=SlB g n cap/\n<=cap/\cap<=D1/\g<w.1.size/\∀k (hk:k<xs.length),CeB w g k=some xs[k]:=by
 obtain⟨q0,h⟩:=h;rcases h with⟨_,h0⟩|⟨g,cap,cur,h1,_,h3,h4,h5,h6,h7⟩
 .omega
 .refine⟨g,cap,h1,h4,h5,ε,λk hk=>?_⟩;have q4:k<cur.size:=ζ;have e:CeB w g k=cur[k]?:=by simp[B3,h3]
  grind
section
variable{w:AS}{b b':Nat}
theorem Nv{k k':Int}{n:Nm}{s:By}{sl mp q0:A5}(h:VB w b k n s sl mp)(h':VB w b' k' n' s' sl' q0)(hk:k≠k'):
  CB 82 #[PtB b,.pointer (some ⟨b',0,none⟩)] w (.bool false):=by
 have c0:=h.c0;have d0:=h'.c0;have e0:(k==k')=false:=beq_eq_false_iff_ne.2 hk;have e1:(k != k')=true:=ε;clear h h' hk;go_enter func82,ntmps82;go_wp2_with fail;go_quiet(fail);go_wp2;go_ret;exact⟨rfl,⟨rfl,rfl,rfl,Á _,λ_ _=>rfl⟩⟩
theorem VS{k:Nat}(hk:k<3){n:Nm}{s:By}{sl mp q0:A5}(h:VB w b k n s sl mp)(h':VB w b' k n' s' sl' q0):
  CB 82 #[PtB b,.pointer (some ⟨b',0,none⟩)] w (.bool true):=by
 have c0:=h.c0;have d0:=h'.c0;clear h h';have e3:((k:Int)==3)=false:=ε;have e4:((k:Int)==4)=false:=ε;have e5:((k:Int)==5)=false:=ε;have e6:((k:Int)==6)=false:=ε;go_enter func82,ntmps82;go_wp2_with fail;go_quiet(fail);go_wp2;go_ret;exact⟨rfl,⟨rfl,rfl,rfl,Á _,λ_ _=>rfl⟩⟩
theorem YI{n:Nm}{s:By}{sl mp q0:A5}(h:VB w b 4 n s sl mp)(h':VB w b' 4 n' s' sl' q0):
  CB 82 #[PtB b,.pointer (some ⟨b',0,none⟩)] w (.bool (s==s')):=by
 have c0:=h.c0;have d0:=h'.c0;have c4:=h.c4;have d4:=h'.c4;clear h h';go_enter func82,ntmps82;go_wp2_with fail;go_quiet(fail);go_wp2_with fail;go_quiet(fail);go_wp2;go_ret;exact⟨θ,⟨rfl,rfl,rfl,Á _,λ_ _=>rfl⟩⟩
theorem YK{n:Nm}{s:By}{sl mp q6:A5}(h:VB w b 3 n s sl mp)(h':VB w b' 3 n' s' sl' q6):
  CB 82 #[PtB b,.pointer (some ⟨b',0,none⟩)] w (.bool (decide (n=n'))):=by
 have c0:=h.c0;have d0:=h'.c0;have c1:=h.c1;have d1:=h'.c1;have c2:=h.c2;have d2:=h'.c2;have c3:=h.c3;have d3:=h'.c3;clear h h';obtain⟨na,nb,nc⟩:=n;obtain⟨q0,q4,q5⟩:=n';simp only at c1 c2 c3 d1 d2 d3;by_cases h2:nb=q4
 .have f2:(nb==q4)=true:=beq_iff_eq.2 h2;by_cases h3:nc=q5
  .have f3:(nc==q5)=true:=beq_iff_eq.2 h3;subst h2;subst h3;cases na<;>cases q0
   all_goals (
    go_enter func82,ntmps82;go_wp2_with fail;go_quiet(fail);go_wp2_with fail;go_quiet(fail);go_wp2;go_ret;exact⟨φ,⟨rfl,rfl,rfl,Á _,λ_ _=>rfl⟩⟩)
  .have f3:(nc==q5)=false:=beq_eq_false_iff_ne.2 h3;subst h2;have H3:=Ab h3;clear h3;cases na<;>cases q0
   all_goals (
    go_enter func82,ntmps82;go_wp2_with fail;go_quiet(fail);go_wp2_with fail;go_quiet(fail);go_wp2;go_ret;exact⟨κ,⟨rfl,rfl,rfl,Á _,λ_ _=>rfl⟩⟩)
 .have f2:(nb==q4)=false:=beq_eq_false_iff_ne.2 h2;have H2:=Ab h2;clear h2;cases na<;>cases q0
  all_goals (
   go_enter func82,ntmps82;go_wp2_with fail;go_quiet(fail);go_wp2_with fail;go_quiet(fail);go_wp2;go_ret;exact⟨κ,⟨rfl,rfl,rfl,Á _,λ_ _=>rfl⟩⟩)
end
theorem EQ(c k:UInt8):(c==k)=decide (c.toNat=k.toNat):=by
 rw[ī,beq_iff_eq,decide_eq_true_eq];exact⟨λh=>by rw[h],λh=>ì.1 h⟩
