import Derived.Test.YtdpomdelmdofmaaGreatDoorPfx16
import Derived.Test.YtdpomdelmdofmaaGreatDoorTie
import Derived.Test.YtdpomdelmdofmaaGreatDoorCards
import Derived.Deep.Strs
import Derived.SizedLaws
import Derived.SevenTiedAt
import Derived.Shelf.LaysC
import Derived.Shelf.Strings.Split
import Derived.Shelf.Strings.SlTrimAscii
import Derived.Shelf.Strconv.AtoiAll
import Derived.Shelf.Unicode.ValidAny
open Go.Proofs.Tryz renaming prog->AI
open Array renaming getElem?_eq_some_iff->AS
open List.cons renaming injEq->AT
open Go.World renaming cell?->A1,cells?_some->DD
open List renaming take_of_length_le->A2,take_succ_eq_append_getElem->A4,eq_nil_of_length_eq_zero->A5,length_take->CL,range->Ft
open Go.Shelf renaming Ren->A3
open Go.RowKit renaming Below->A6
open Go.DataW renaming trod_int->Bs,trod_string->CD,Trod->D0
open Go.Value.slice renaming injEq->BY
open Go renaming maxLen->CH,World->C1,Value->C2,DataW->Dt,Calls->D1
open Go.RowKit.Below renaming refl->CR
open Go.Value renaming cells->Dp,okWide->D3
open Nat renaming le_of_eq->D2,le_refl->E0
open Go.Lib renaming cut->F1
set_option maxRecDepth 100000
set_option maxHeartbeats 8000000
namespace Go.Proofs.YtdpomdelmdofmaaGreatDoor
open Go.Proofs.Tryz
open Go.RowKit
variable{w:C1}{sb so cap:Nat}{l:List St}{d e n:Int}
theorem Scr.take(h:Scr w sb so l)(k:Nat):Scr w sb so (l.take k):=by
 intro i hi;have q0:i<l.length:=by rw[CL] at hi;omega
 have:=h i q0;simpa using this
theorem Scr.low{w':C1}{B:Nat}(h:Scr w sb so l)(hb:A6 B w w')(hs:sb<B):Scr w' sb so l:=by
 intro i hi;obtain⟨h1,h2,h3⟩:=h i hi;exact⟨(hb.cell (p:=⟨sb,_,none⟩) hs).trans h1,(hb.cell (p:=⟨sb,_,none⟩) hs).trans h2,(hb.cell (p:=⟨sb,_,none⟩) hs).trans h3⟩
def Ya(m:Nat)(a:List ZK)(w:C1)(x:Ending)(w':C1):Prop:=∃A cs,x=.returned (.slice (some ⟨A,0,none⟩) m m)/\w.heap.size<=A/\w'.heap[A]? = some (.cells cs 46 (0,0))/\EX cs m a/\A6 w.heap.size w w'
theorem NQ{k:Nat}(hs:Scr w sb so l)(q4:Plain l)(hk:k<=l.length)(q0:k<=cap)(hb:k*32<=281474976710656)(hsb:sb<w.heap.size)(hT:Af w):
  D1 AI 24 #[.agg #[.int .i64 d,.int .i64 e,.int .i64 n],.slice (some ⟨sb,so,none⟩) k cap] w fun x w'=>Ya k (ZX d e n none (l.take k)) w x w':=by
 by_cases h0:k=0
 ·subst h0;rw[List.take_zero];exact KH
 ·exact NR (hs.take k) (fun o ho=>q4 o (List.mem_of_mem_take ho)) (by rw[CL];omega) (by omega) q0 hb hsb hT
theorem EX.at{A n:Nat}{cs:Array C2}{a:List ZK}(h:EX cs n a)(hw:w.heap[A]? = some (.cells cs 46 (0,0)))(i:Nat)(hi:i<a.length):
  w.cell? ⟨A,i*3,none⟩=some (.int .i64 a[i].1)/\w.cell? ⟨A,i*3+1,none⟩=some (.int .i64 a[i].2.1)/\w.cell? ⟨A,i*3+2,none⟩=some (.string ⟨a[i].2.2.toArray⟩):=by
 have q0:∀j,w.cell? ⟨A,j,none⟩=cs[j]?:=fun j=>by simp[A1,hw]
 rw[q0,q0,q0];exact h.2 i hi
theorem OE{c:Int}{m:Nat}(hs:Scr w sb so l)(qn:Plain l)(hm:m=l.length)(qj:m<=cap)(hb:m*32<=281474976710656)(qr:cap<=CH)(hsb:sb<w.heap.size)(hT:Af w)(h0:-9223372036854775808<=c)(h1:c<=9223372036854775807):
  D1 AI 6 #[.agg #[.int .i64 d,.int .i64 e,.int .i64 n],.slice (some ⟨sb,so,none⟩) m cap,.int .i64 c] w fun x w'=>x=.returned (.bool true)/\A6 w.heap.size w w':=by
 have qm:=Ab qn;have HM:=Ab hm;have HS:=Ab hs;have HT:=Ab hT;have qf:=hT.ng;have z7:(m:Int)<=8796093022208:=by omega
 have z6:(cap:Int)<=9223372036854775807:=by unfold CH at qr;omega
 have hz:(w.alloc (.cells #[.int .i64 d,.int .i64 e,.int .i64 n] 23)).heap[w.heap.size]? = some (.cells #[.int .i64 d,.int .i64 e,.int .i64 n] 23 (0,0)):=C6 _ _ _ rfl;have qe:A6 w.heap.size w (w.alloc (.cells #[.int .i64 d,.int .i64 e,.int .i64 n] 23)):=(CR _ _).alloc (E0 _) _;clear hm hs hT qn
 go_enter func6,ntmps6
 go_wp2_with (fail);refine (IF _ ((Aa HT).below (qe.mono qf))).mono ?_
 rintro x w1 ⟨rfl,hb1⟩;have q9:=(hb1.block w.heap.size (by simp)).trans hz;have q6:A6 w.heap.size w w1:=qe.trans (hb1.mono qe.size);have qg:=Ab q6;have qi:w.heap.size<w1.heap.size:=(AS.1 q9).1;have z0:w1.cell? ⟨w.heap.size,0,none⟩=some (.int .i64 d):=by simp[A1,q9]
 have z1:w1.cell? ⟨w.heap.size,1,none⟩=some (.int .i64 e):=by simp[A1,q9]
 have z2:w1.cell? ⟨w.heap.size,2,none⟩=some (.int .i64 n):=by simp[A1,q9]
 clear hb1 q6 qe hz
 go_wp2_with (fail);refine (MF c (m+1) h0 h1 (by omega) (by omega) w1).mono ?_
 rintro x qz ⟨⟨k,hk,rfl⟩,rfl⟩
 go_wp2_with (fail);have q4:=NQ (d:=d) (e:=e) (n:=n) (k:=m) (cap:=cap) ((Aa HS).low (Aa qg) hsb) (Aa qm) (D2 (Aa HM)) qj hb (by omega) ((Aa HT).below ((Aa qg).mono qf))
 rw[A2 (D2 (Aa HM).symm)] at q4;refine q4.mono ?_;rintro x w2 ⟨A,cs,rfl,hA,q5,qd,hb2⟩;have y0:=(hb2.cell (p:=⟨w.heap.size,0,none⟩) qi).trans z0;have y1:=(hb2.cell (p:=⟨w.heap.size,1,none⟩) qi).trans z1;have y2:=(hb2.cell (p:=⟨w.heap.size,2,none⟩) qi).trans z2;have qk:=Ab ((Aa qg).trans (hb2.mono (by omega)));have hs2:w.heap.size<w2.heap.size:=by have:=hb2.size;omega
 have q8:=Ab q5;have qb:=Ab qd;have qq:A<w2.heap.size:=(AS.1 q5).1;have z8:(k:Int)<=(cap:Int):=by omega
 have qh:k<=cap:=by omega
 clear z0 z1 z2 q9 q5 qd hb2 q4;have q7:=Ab (fun (w0:C1) (h1:A6 w.heap.size w w0)=>NQ (d:=d) (e:=e) (n:=n) (k:=k) (cap:=cap) ((Aa HS).low h1 hsb) (Aa qm) (by have:=Aa HM;omega) qh (by omega) (by have:=h1.size;omega) ((Aa HT).below (h1.mono qf)))
 go_wp2_with (fail)
 go_region_with (go_at_call 24;refine (Aa q7 _ ?_).mono ?_;exact (Aa qk).drew;rintro x w3 ⟨B,cs',rfl,hB,hrow',hans',hb3⟩)
 all_goals (
  replace hb3:A6 w2.heap.size w2 w3:=⟨hb3.os,hb3.tape,hb3.output,hb3.size,hb3.block⟩
  replace hB:w2.heap.size<=B:=hB
  have q0:w3.heap[A]? = some (.cells cs 46 (0,0)):=(hb3.block A qq).trans (Aa q8);have qp:=Ab ((Aa qk).trans (hb3.mono (by omega)));have ha:=fun i (hi:i<(ZX d e n none l).length)=>(Aa qb).at q0 i hi;have qo:=fun i (hi:i<(ZX d e n none (l.take k)).length)=>hans'.at hrow' i hi;have qv:(ZX d e n none l).length=l.length:=cQ _ _ _ _ _;have qt:(ZX d e n none (l.take k)).length=k:=by rw[cQ,CL];have:=Aa HM;omega
  have qy:=Aa HM;have qu:Hid (∀i (hi:i<k),∃ (u p:Nat) (v:By),w3.cell? ⟨A,i*3,none⟩=some (.int .i64 u)/\w3.cell? ⟨A,i*3+1,none⟩=some (.int .i64 p)/\w3.cell? ⟨A,i*3+2,none⟩=some (.string ⟨v.toArray⟩) /\
    w3.cell? ⟨B,i*3,none⟩=some (.int .i64 u)/\w3.cell? ⟨B,i*3+1,none⟩=some (.int .i64 p)/\w3.cell? ⟨B,i*3+2,none⟩=some (.string ⟨v.toArray⟩)):=by
   intro i hi;have qx:i<(ZX d e n none l).length:=by omega
   have qw:i<(ZX d e n none (l.take k)).length:=by omega
   obtain⟨a1,a2,a3⟩:=ha i qx;obtain⟨b1,b2,b3⟩:=qo i qw;have he:(ZX d e n none (l.take k))[i]=(ZX d e n none l)[i]:=by simp[dJ]
   rw[he] at b1 b2 b3;exact⟨_,_,_,a1,a2,a3,b1,b2,b3⟩
  clear ha qo qv qt qy q0 hrow' hans' y0 y1 y2 q8 qb q7 hb3
  go_wp2_with (fail)
  go_loopw [11] (fun i wr=>∃j:Nat,j<=k/\i=.int .i64 j /\ ∃q,wr=w3.drewN q) (fun i _=>k-(intOf i).toNat)
  case atStart=>exact⟨0,by omega,rfl,0,rfl⟩
  case round=>
   obtain⟨j,hj,rfl,q,rfl⟩:=hrel;by_cases hlt:j<k
   ·obtain⟨u,p,v,a1,a2,a3,b1,b2,b3⟩:=Aa qu j hlt
    go_wp2_with (fail)
    go_quiet (fail)
    go_wp2_with (fail);exact⟨⟨j+1,by omega,by go_num,_,rfl⟩,by simp[intOf];omega⟩
   ·go_wp2_with (fail)
    go_ret;have hb3:=Aa qp
    exact⟨rfl,⟨hb3.os,hb3.tape,hb3.output,hb3.size,hb3.block⟩⟩)
theorem QG{c:Int}{pa:Option Addr}(qe:pa=none->cap=0)(q9:cap<=CH)(hT:Af w)(h0:-9223372036854775808<=c)(h1:c<=9223372036854775807):
  D1 AI 6 #[.agg #[.int .i64 d,.int .i64 e,.int .i64 n],.slice pa 0 cap,.int .i64 c] w fun x w'=>x=.returned (.bool true)/\A6 w.heap.size w w':=by
 have HT:=Ab hT;have qf:=hT.ng;have q6:(cap:Int)<=9223372036854775807:=by unfold CH at q9;omega
 have hz:(w.alloc (.cells #[.int .i64 d,.int .i64 e,.int .i64 n] 23)).heap[w.heap.size]? = some (.cells #[.int .i64 d,.int .i64 e,.int .i64 n] 23 (0,0)):=C6 _ _ _ rfl;have qb:A6 w.heap.size w (w.alloc (.cells #[.int .i64 d,.int .i64 e,.int .i64 n] 23)):=(CR _ _).alloc (E0 _) _;clear hT;have qi:∀ (pa:Option Addr) (cap:Nat),Hid (cap<=CH)->Hid ((cap:Int)<=9223372036854775807)->(pa=none/\cap=0 \/ ∃a,pa=some a)->D1 AI 6 #[.agg #[.int .i64 d,.int .i64 e,.int .i64 n],.slice pa 0 cap,.int .i64 c] w fun x w'=>x=.returned (.bool true)/\A6 w.heap.size w w':=by
  intro pa cap qn qk q0;clear q6 q9 qe;have q6:=Aa qk;rcases q0 with⟨rfl,rfl⟩|⟨a,rfl⟩;all_goals (
   go_enter func6,ntmps6
   go_wp2_with (fail);refine (IF _ ((Aa HT).below (qb.mono qf))).mono ?_
   rintro x w1 ⟨rfl,hb1⟩;have q5:=(hb1.block w.heap.size (by simp)).trans hz;have q4:A6 w.heap.size w w1:=qb.trans (hb1.mono qb.size);have qh:=Ab q4;have q8:w.heap.size<w1.heap.size:=(AS.1 q5).1;have z0:w1.cell? ⟨w.heap.size,0,none⟩=some (.int .i64 d):=by simp[A1,q5]
   have z1:w1.cell? ⟨w.heap.size,1,none⟩=some (.int .i64 e):=by simp[A1,q5]
   have z2:w1.cell? ⟨w.heap.size,2,none⟩=some (.int .i64 n):=by simp[A1,q5]
   clear hb1 q4 q5
   go_wp2_with (fail);refine (MF c 1 h0 h1 (by omega) (by omega) w1).mono ?_
   rintro x qm ⟨⟨k,hk,rfl⟩,rfl⟩;obtain rfl:k=0:=by omega
   go_wp2_with (fail);refine KH.mono ?_
   rintro x w2 ⟨A,cs,rfl,hA,q7,qd,hb2⟩;have y0:=(hb2.cell (p:=⟨w.heap.size,0,none⟩) q8).trans z0;have y1:=(hb2.cell (p:=⟨w.heap.size,1,none⟩) q8).trans z1;have y2:=(hb2.cell (p:=⟨w.heap.size,2,none⟩) q8).trans z2;have qj:=Ab ((Aa qh).trans (hb2.mono (by omega)));have hs2:w.heap.size<w2.heap.size:=by have:=hb2.size;omega
   clear z0 z1 z2 q7 qd hb2
   go_wp2_with (fail)
   go_region_with (go_at_call 24;refine KH.mono ?_;rintro x w3 ⟨B,cs',rfl,hB,hrow',hans',hb3⟩)
   all_goals (
    replace hb3:A6 w2.heap.size w2 w3:=⟨hb3.os,hb3.tape,hb3.output,hb3.size,hb3.block⟩
    have qg:=Ab ((Aa qj).trans (hb3.mono (by omega)));clear y0 y1 y2 hb3 hrow' hans'
    go_wp2_with (fail);refine wp_loop_rounds 1 ?_
    rw[rounds_succ]
    go_wp2_with (fail)
    go_ret;exact⟨rfl,Aa qg⟩))
 refine qi pa cap q9 q6 ?_;cases pa with
 | none=>exact Or.inl ⟨rfl,qe rfl⟩
 | some a=>exact Or.inr ⟨a,rfl⟩
end Go.Proofs.YtdpomdelmdofmaaGreatDoor

set_option maxRecDepth 100000
namespace Go.Proofs.YtdpomdelmdofmaaGreatDoor
open Go.Proofs.Tryz
open Go.ChangeShapes Go.WideShapes Go.ChangeAt Go.RowKit Go.Deep
theorem Ob{H:Type}{enc:TypeId×C2->H}{W:C1}{base b0:Nat}{r:Reach}{sp:Nat->Bool}{held:Bool}{v:C2}{d:Dt H}{p:List MemPlace}
  (q6:D3 AI W r b0 24 v) (h:D0 enc AI W base sp held 24 v d p):
  (∃pa cap,v=.slice pa 0 cap/\(pa=none->cap=0)/\cap<=CH) \/
  ∃ (sb so m cap:Nat) (l:List St) (elems spare:List (Dt H)),v=.slice (some ⟨sb,so,none⟩) m cap/\m=l.length/\m<=cap/\cap<=CH/\Scr W sb so l/\sb<W.heap.size/\d=.slice elems spare/\elems.length=m:=by
 obtain⟨a0,q0,q8,rfl⟩:=okWide_slice underlying24 q6;obtain⟨qe,hf⟩:=h;have ce:Tryz.prog.cellsOf 49=3:=by kernel_rfl
 have c3:Tryz.prog.cellsOf 3=1:=by kernel_rfl
 have c9:Tryz.prog.cellsOf 9=1:=by kernel_rfl
 rcases open_slice underlying24 hf with⟨q5,_⟩|⟨a,len,cap,m,n,D,Pl,q5,hb,hl,hm,qg,hx,qd⟩
 ·simp only[Dp,AT,BY,and_true] at q5
  grind
 simp only[Dp,AT,BY,and_true] at q5;obtain⟨rfl,rfl,rfl⟩:=q5;rcases Nat.eq_zero_or_pos q0 with rfl|hpos
 ·grind
 right
 have qf:q0<=m:=by grind
 have each:∀i,i<q0 -> ∃q:St,W.cell? (a.add (i*3))=some (.int .i64 q.1)/\W.cell? (a.add (i*3+1))=some (.string ⟨q.2.1.toArray⟩)/\W.cell? (a.add (i*3+2))=some (.string ⟨q.2.2.toArray⟩):=by
  intro i hi;obtain⟨cs',h1,h2⟩:=qd i (by omega);rw[ce] at h1;obtain⟨_,q7,q4⟩:=DD h1;obtain⟨y0,y1,y2,k,_,_,g0,g1,g2⟩:=trod_struct3 underlying49 h2
  match cs',q7 with
  | [v0,v1,v2],_=>
   simp[c3,c9] at g0 g1 g2;obtain⟨z,e0,_,_⟩:=Bs underlying3 g0;obtain⟨s1,e1,_,_⟩:=CD underlying9 g1;obtain⟨s2,e2,_,_⟩:=CD underlying9 g2;simp only[AT,and_true] at e0 e1 e2;subst e0;subst e1;subst e2;have k0:=q4 0 (by omega);have k1:=q4 1 (by omega);have k2:=q4 2 (by omega);rw[add_add] at k0 k1 k2;exact⟨(z,s1.data.toList,s2.data.toList),by grind,by simp_all,by simp_all⟩
 obtain⟨q,hq⟩:=choose_lt each;obtain⟨h0,_,_⟩:=hq 0 hpos;have hs:=World.cell?_spot h0;have hlt:=World.block_lt_of_cell? W _ h0;obtain⟨b,o,q9⟩:=a;simp[Addr.add] at hs hlt;subst hs;refine⟨b,o,q0,q8,(Ft q0).map fun i=>q i,_,_,rfl,by simp,hl,hm,fun i hi=>?_,hlt,(Prod.mk.inj hx).1,by simp⟩;have qb:i<q0:=by grind
 obtain⟨k0,k1,k2⟩:=hq i qb;rw[add_plain] at k0 k1 k2
 grind
theorem Oc{H:Type}{enc:TypeId×C2->H}{W:C1}{base b0:Nat}{r:Reach}{sp:Nat->Bool}{held:Bool}{v:C2}{d:Dt H}{p:List MemPlace}
  (q0:D3 AI W r b0 23 v) (h:D0 enc AI W base sp held 23 v d p):
  ∃a b c:Int,v=.agg #[.int .i64 a,.int .i64 b,.int .i64 c]:=by
 have ce:Tryz.prog.cellsOf 23=3:=by kernel_rfl
 have c3:Tryz.prog.cellsOf 3=1:=by kernel_rfl
 obtain⟨cs,rfl,hsz⟩:=okWide_struct underlying23 q0;obtain⟨q4,hf⟩:=h;obtain⟨y0,y1,y2,k,_,_,g0,g1,g2⟩:=trod_struct3 underlying23 hf;rw[ce] at hsz;obtain⟨l⟩:=cs
 match l,hsz with
 | [v0,v1,v2],_=>
  simp[c3,Dp] at g0 g1 g2;obtain⟨z0,e0,_,_⟩:=Bs underlying3 g0;obtain⟨z1,e1,_,_⟩:=Bs underlying3 g1;obtain⟨z2,e2,_,_⟩:=Bs underlying3 g2
  grind
end Go.Proofs.YtdpomdelmdofmaaGreatDoor

set_option maxRecDepth 100000
namespace Go.Proofs.YtdpomdelmdofmaaGreatDoor
open Go.Proofs.Tryz
open Go.ChangeShapes Go.WideShapes Go.ChangeAt Go.RowKit Go.Deep
variable{H:Type}
theorem UZ{d:Dt H}{l:List (Dt H)}(h:d∈l):Rows.uptoBulk d<=Rows.uptoBulkAll l:=by
 induction l with
 | nil=>cases h
 | cons x r ih=>
  grind [Rows.uptoBulkAll]
theorem UX(d:Dt H):1<=Rows.uptoBulk d:=by
 cases d with
 | lit l=>cases l<;>simp[Rows.uptoBulk]
 | nil=>simp[Rows.uptoBulk]
 | ptr d=>simp[Rows.uptoBulk]
 | slice elems spare=>simp[Rows.uptoBulk]
 | agg parts=>simp[Rows.uptoBulk]
 | iface t d=>simp[Rows.uptoBulk]
 | map entries=>simp[Rows.uptoBulk]
 | held h=>simp[Rows.uptoBulk]
theorem U0(l:List (Dt H)):l.length<=Rows.uptoBulkAll l:=by
 induction l with
 | nil=>grind
 | cons x r ih=>have:=UX x;grind [Rows.uptoBulkAll,List.length_cons]
theorem UY(a c:Dt H)(s:List UInt8):s.length<=Rows.uptoBulk (.agg [a,.lit (.string s),c]:Dt H):=by
 grind [Rows.uptoBulk,Rows.uptoBulkAll]
theorem Mw{enc:TypeId×C2->H}{W:C1}{base:Nat}{sp:Nat->Bool}{held:Bool}{sb so m cap:Nat}{l:List St}{elems spare:List (Dt H)}{p:List MemPlace}(h:D0 enc AI W base sp held 24 (.slice (some ⟨sb,so,none⟩) m cap) (.slice elems spare) p)(hs:Scr W sb so l)(hm:m=l.length):∀o∈l,o.2.1.length<=Rows.uptoBulkAll elems:=by
 obtain⟨q8,hf⟩:=h;have ce:Tryz.prog.cellsOf 49=3:=by kernel_rfl
 have c3:Tryz.prog.cellsOf 3=1:=by kernel_rfl
 have c9:Tryz.prog.cellsOf 9=1:=by kernel_rfl
 rcases open_slice underlying24 hf with⟨q4,_⟩|⟨a,len,q9,m',n,D,Pl,q4,hb,hl,qf,qg,hx,q7⟩
 ·grind
 simp only[Dp,AT,BY,and_true] at q4;obtain⟨ha,rfl,rfl⟩:=q4;obtain rfl:(⟨sb,so,none⟩:Addr)=a:=Option.some.inj ha;have qb:elems=(Ft m).map D:=by
  grind
 have qe:m<=m':=by grind
 intro o ho;obtain⟨i,hi,qh⟩:=List.mem_iff_getElem.1 ho;have qd:i<m:=by omega
 obtain⟨cs',h1,h2⟩:=q7 i (by omega);rw[ce] at h1;obtain⟨_,q5,q0⟩:=DD h1;obtain⟨y0,y1,y2,k,hy,_,g0,g1,g2⟩:=trod_struct3 underlying49 h2
 match cs',q5 with
 | [v0,v1,v2],_=>
  simp[c3,c9] at g0 g1 g2;obtain⟨s1,e1,x1,_⟩:=CD underlying9 g1;simp only[AT,and_true] at e1;subst e1;have k1:=q0 1 (by omega);rw[add_add,add_plain] at k1;obtain⟨_,q1,_⟩:=hs i (by omega);have k2:W.cell? ⟨sb,so+i*3+1,none⟩=some (.string s1):=by grind
  rw[q1] at k2;have e2:s1.data.toList=o.2.1:=by
   grind
  have hD:D i=.agg [y0.1,.lit (.string o.2.1),y2.1]:=by
   grind
  have q6:D i∈elems:=by grind
  exact Nat.le_trans (by rw[hD];exact UY _ _ _) (UZ q6)
end Go.Proofs.YtdpomdelmdofmaaGreatDoor

namespace Go.Proofs
open Go.Shelf
def Tryz.lays160_ren:A3:=⟨fun|160=>195|232=>235|231=>234|227=>236|234=>238|233=>237|236=>240|235=>239|228=>281|271=>283|151=>282|197=>230|120=>307|152=>306|260=>276|137=>314|119=>315|224=>279|225=>278|217=>277|266=>304|n=>n,fun|9=>9|4=>4|3=>3|5=>5|117=>295|116=>294|0=>0|124=>298|21=>21|105=>289|46=>201|119=>207|139=>210|138=>209|n=>n,fun|3=>1|4=>2|n=>n⟩
theorem Tryz.lays160:Go.Proofs.Lays.n160 AI Tryz.lays160_ren:={
 mixed:=by kernel_rfl
 f119:=Tryz.func315.trans (congrArg some (by kernel_rfl))
 f120:=Tryz.func307.trans (congrArg some (by kernel_rfl))
 f137:=Tryz.func314.trans (congrArg some (by kernel_rfl))
 f151:=Tryz.func282.trans (congrArg some (by kernel_rfl))
 f152:=Tryz.func306.trans (congrArg some (by kernel_rfl))
 f160:=Tryz.func195.trans (congrArg some (by kernel_rfl))
 f197:=Tryz.func230.trans (congrArg some (by kernel_rfl))
 f217:=Tryz.func277.trans (congrArg some (by kernel_rfl))
 f224:=Tryz.func279.trans (congrArg some (by kernel_rfl))
 f225:=Tryz.func278.trans (congrArg some (by kernel_rfl))
 f227:=Tryz.func236.trans (congrArg some (by kernel_rfl))
 f228:=Tryz.func281.trans (congrArg some (by kernel_rfl))
 f231:=Tryz.func234.trans (congrArg some (by kernel_rfl))
 f232:=Tryz.func235.trans (congrArg some (by kernel_rfl))
 f233:=Tryz.func237.trans (congrArg some (by kernel_rfl))
 f234:=Tryz.func238.trans (congrArg some (by kernel_rfl))
 f235:=Tryz.func239.trans (congrArg some (by kernel_rfl))
 f236:=Tryz.func240.trans (congrArg some (by kernel_rfl))
 f260:=Tryz.func276.trans (congrArg some (by kernel_rfl))
 f266:=Tryz.func304.trans (congrArg some (by kernel_rfl))
 f271:=Tryz.func283.trans (congrArg some (by kernel_rfl))
 t0:=underlying0
 a0:=Tryz.isAgg0
 z0:=Tryz.sizeOf0
 v0:=Tryz.zeroValue0
 t3:=underlying3
 a3:=Tryz.isAgg3
 z3:=Tryz.sizeOf3
 v3:=Tryz.zeroValue3
 t4:=underlying4
 a4:=Tryz.isAgg4
 z4:=Tryz.sizeOf4
 v4:=Tryz.zeroValue4
 t5:=underlying5
 a5:=Tryz.isAgg5
 z5:=Tryz.sizeOf5
 v5:=Tryz.zeroValue5
 t9:=underlying9
 a9:=Tryz.isAgg9
 z9:=Tryz.sizeOf9
 v9:=Tryz.zeroValue9
 t21:=underlying21
 a21:=Tryz.isAgg21
 z21:=Tryz.sizeOf21
 v21:=Tryz.zeroValue21
 t46:=underlying201
 a46:=Tryz.isAgg201
 z46:=Tryz.sizeOf201
 v46:=Tryz.zeroValue201
 t105:=underlying289
 a105:=Tryz.isAgg289
 z105:=Tryz.sizeOf289
 v105:=Tryz.zeroValue289
 t116:=underlying294
 a116:=Tryz.isAgg294
 z116:=Tryz.sizeOf294
 t117:=underlying295
 a117:=Tryz.isAgg295
 z117:=Tryz.sizeOf295
 v117:=Tryz.zeroValue295
 t119:=underlying207
 a119:=Tryz.isAgg207
 z119:=Tryz.sizeOf207
 t124:=underlying298
 a124:=Tryz.isAgg298
 z124:=Tryz.sizeOf298
 v124:=Tryz.zeroValue298
 t138:=underlying209
 a138:=Tryz.isAgg209
 z138:=Tryz.sizeOf209
 v138:=Tryz.zeroValue209
 t139:=underlying210
 a139:=Tryz.isAgg210
 z139:=Tryz.sizeOf210
 v139:=Tryz.zeroValue210
 g3:=by kernel_rfl
 g4:=by kernel_rfl }
def Tryz.laysC172_ren:A3:=⟨fun|172=>196|244=>241|245=>242|247=>284|279=>285|280=>286|281=>287|282=>288|287=>308|316=>297|171=>94|205=>309|321=>316|322=>317|243=>131|246=>173|283=>212|284=>213|285=>214|286=>215|129=>257|317=>256|318=>258|319=>259|320=>260|337=>293|338=>294|n=>n,fun|9=>9|3=>3|75=>162|76=>163|4=>4|5=>5|167=>325|37=>117|0=>0|85=>326|2=>2|168=>328|53=>252|175=>345|46=>201|210=>348|127=>166|145=>360|143=>358|21=>21|171=>274|173=>277|212=>312|51=>313|20=>20|213=>314|232=>352|233=>353|80=>40|n=>n,fun|15=>8|16=>9|17=>5|18=>10|19=>11|n=>n⟩
theorem Tryz.laysC172:Go.Proofs.LaysC.n172 AI Tryz.laysC172_ren:={
 mixed:=by kernel_rfl
 f129:=Tryz.func257.trans (congrArg some (by kernel_rfl))
 f171:=Tryz.func94.trans (congrArg some (by kernel_rfl))
 f172:=Tryz.func196.trans (congrArg some (by kernel_rfl))
 f205:=Tryz.func309.trans (congrArg some (by kernel_rfl))
 f243:=Tryz.func131.trans (congrArg some (by kernel_rfl))
 f244:=Tryz.func241.trans (congrArg some (by kernel_rfl))
 f245:=Tryz.func242.trans (congrArg some (by kernel_rfl))
 f246:=Tryz.func173.trans (congrArg some (by kernel_rfl))
 f247:=Tryz.func284.trans (congrArg some (by kernel_rfl))
 f279:=Tryz.func285.trans (congrArg some (by kernel_rfl))
 f280:=Tryz.func286.trans (congrArg some (by kernel_rfl))
 f281:=Tryz.func287.trans (congrArg some (by kernel_rfl))
 f282:=Tryz.func288.trans (congrArg some (by kernel_rfl))
 f283:=Tryz.func212.trans (congrArg some (by kernel_rfl))
 f284:=Tryz.func213.trans (congrArg some (by kernel_rfl))
 f285:=Tryz.func214.trans (congrArg some (by kernel_rfl))
 f286:=Tryz.func215.trans (congrArg some (by kernel_rfl))
 f287:=Tryz.func308.trans (congrArg some (by kernel_rfl))
 f316:=Tryz.func297.trans (congrArg some (by kernel_rfl))
 f317:=Tryz.func256.trans (congrArg some (by kernel_rfl))
 f318:=Tryz.func258.trans (congrArg some (by kernel_rfl))
 f319:=Tryz.func259.trans (congrArg some (by kernel_rfl))
 f320:=Tryz.func260.trans (congrArg some (by kernel_rfl))
 f321:=Tryz.func316.trans (congrArg some (by kernel_rfl))
 f322:=Tryz.func317.trans (congrArg some (by kernel_rfl))
 f337:=Tryz.func293.trans (congrArg some (by kernel_rfl))
 f338:=Tryz.func294.trans (congrArg some (by kernel_rfl))
 t0:=underlying0
 a0:=Tryz.isAgg0
 z0:=Tryz.sizeOf0
 v0:=Tryz.zeroValue0
 t2:=underlying2
 a2:=Tryz.isAgg2
 z2:=Tryz.sizeOf2
 v2:=Tryz.zeroValue2
 t3:=underlying3
 a3:=Tryz.isAgg3
 z3:=Tryz.sizeOf3
 v3:=Tryz.zeroValue3
 t4:=underlying4
 a4:=Tryz.isAgg4
 z4:=Tryz.sizeOf4
 v4:=Tryz.zeroValue4
 t5:=underlying5
 a5:=Tryz.isAgg5
 z5:=Tryz.sizeOf5
 v5:=Tryz.zeroValue5
 t9:=underlying9
 a9:=Tryz.isAgg9
 z9:=Tryz.sizeOf9
 v9:=Tryz.zeroValue9
 t20:=underlying20
 a20:=Tryz.isAgg20
 z20:=Tryz.sizeOf20
 v20:=Tryz.zeroValue20
 t21:=underlying21
 a21:=Tryz.isAgg21
 z21:=Tryz.sizeOf21
 v21:=Tryz.zeroValue21
 t37:=underlying117
 a37:=Tryz.isAgg117
 z37:=Tryz.sizeOf117
 v37:=Tryz.zeroValue117
 t46:=underlying201
 a46:=Tryz.isAgg201
 z46:=Tryz.sizeOf201
 v46:=Tryz.zeroValue201
 t51:=underlying313
 a51:=Tryz.isAgg313
 z51:=Tryz.sizeOf313
 v51:=Tryz.zeroValue313
 t53:=underlying252
 a53:=Tryz.isAgg252
 z53:=Tryz.sizeOf252
 v53:=Tryz.zeroValue252
 t75:=underlying162
 a75:=Tryz.isAgg162
 z75:=Tryz.sizeOf162
 v75:=Tryz.zeroValue162
 t76:=underlying163
 a76:=Tryz.isAgg163
 z76:=Tryz.sizeOf163
 v76:=Tryz.zeroValue163
 t85:=underlying326
 a85:=Tryz.isAgg326
 z85:=Tryz.sizeOf326
 v85:=Tryz.zeroValue326
 t127:=underlying166
 a127:=Tryz.isAgg166
 z127:=Tryz.sizeOf166
 v127:=Tryz.zeroValue166
 t143:=underlying358
 a143:=Tryz.isAgg358
 z143:=Tryz.sizeOf358
 v143:=Tryz.zeroValue358
 t145:=underlying360
 a145:=Tryz.isAgg360
 z145:=Tryz.sizeOf360
 v145:=Tryz.zeroValue360
 t167:=underlying325
 a167:=Tryz.isAgg325
 z167:=Tryz.sizeOf325
 v167:=Tryz.zeroValue325
 t168:=underlying328
 a168:=Tryz.isAgg328
 z168:=Tryz.sizeOf328
 v168:=Tryz.zeroValue328
 t171:=underlying274
 a171:=Tryz.isAgg274
 z171:=Tryz.sizeOf274
 v171:=Tryz.zeroValue274
 t173:=underlying277
 a173:=Tryz.isAgg277
 z173:=Tryz.sizeOf277
 v173:=Tryz.zeroValue277
 t175:=underlying345
 a175:=Tryz.isAgg345
 z175:=Tryz.sizeOf345
 v175:=Tryz.zeroValue345
 t210:=underlying348
 a210:=Tryz.isAgg348
 z210:=Tryz.sizeOf348
 v210:=Tryz.zeroValue348
 t212:=underlying312
 a212:=Tryz.isAgg312
 z212:=Tryz.sizeOf312
 v212:=Tryz.zeroValue312
 t213:=underlying314
 a213:=Tryz.isAgg314
 z213:=Tryz.sizeOf314
 t232:=underlying352
 a232:=Tryz.isAgg352
 z232:=Tryz.sizeOf352
 v232:=Tryz.zeroValue352
 t233:=underlying353
 a233:=Tryz.isAgg353
 z233:=Tryz.sizeOf353
 v233:=Tryz.zeroValue353
 g15:=by kernel_rfl
 g16:=by kernel_rfl
 g17:=by kernel_rfl
 g18:=by kernel_rfl
 g19:=by kernel_rfl
 t80:=underlying40
 a80:=Tryz.isAgg40
 z80:=Tryz.sizeOf40
 v80:=Tryz.zeroValue40
 i0:=by kernel_rfl
 i2:=by kernel_rfl
 i3:=by kernel_rfl
 i4:=by kernel_rfl
 i5:=by kernel_rfl
 i9:=by kernel_rfl
 i20:=by kernel_rfl
 i21:=by kernel_rfl
 i37:=by kernel_rfl
 i46:=by kernel_rfl
 i51:=by kernel_rfl
 i53:=by kernel_rfl
 i75:=by kernel_rfl
 i76:=by kernel_rfl
 i80:=by kernel_rfl
 i85:=by kernel_rfl
 i127:=by kernel_rfl
 i143:=by kernel_rfl
 i145:=by kernel_rfl
 i167:=by kernel_rfl
 i168:=by kernel_rfl
 i171:=by kernel_rfl
 i173:=by kernel_rfl
 i175:=by kernel_rfl
 i210:=by kernel_rfl
 i212:=by kernel_rfl
 i232:=by kernel_rfl
 i233:=by kernel_rfl
 m15:=by kernel_rfl
 m16:=by kernel_rfl
 m17:=by kernel_rfl
 m18:=by kernel_rfl
 m19:=by kernel_rfl
 c0:=by kernel_rfl
 c2:=by kernel_rfl
 c3:=by kernel_rfl
 c4:=by kernel_rfl
 c5:=by kernel_rfl
 c9:=by kernel_rfl
 c20:=by kernel_rfl
 c21:=by kernel_rfl
 c37:=by kernel_rfl
 c46:=by kernel_rfl
 c51:=by kernel_rfl
 c53:=by kernel_rfl
 c75:=by kernel_rfl
 c76:=by kernel_rfl
 c80:=by kernel_rfl
 c85:=by kernel_rfl
 c127:=by kernel_rfl
 c143:=by kernel_rfl
 c145:=by kernel_rfl
 c167:=by kernel_rfl
 c168:=by kernel_rfl
 c171:=by kernel_rfl
 c173:=by kernel_rfl
 c175:=by kernel_rfl
 c210:=by kernel_rfl
 c212:=by kernel_rfl
 c213:=by kernel_rfl
 c232:=by kernel_rfl
 c233:=by kernel_rfl }
def Tryz.lays145_ren:A3:=⟨fun|145=>145|220=>193|219=>232|217=>277|225=>278|224=>279|267=>280|266=>304|314=>305|n=>n,fun|9=>9|4=>4|59=>212|3=>3|5=>5|46=>201|146=>342|51=>313|n=>n,fun|1=>6|n=>n⟩
theorem Tryz.lays145:Go.Proofs.Lays.n145 AI Tryz.lays145_ren:={
 mixed:=by kernel_rfl
 f145:=Tryz.func145.trans (congrArg some (by kernel_rfl))
 f217:=Tryz.func277.trans (congrArg some (by kernel_rfl))
 f219:=Tryz.func232.trans (congrArg some (by kernel_rfl))
 f220:=Tryz.func193.trans (congrArg some (by kernel_rfl))
 f224:=Tryz.func279.trans (congrArg some (by kernel_rfl))
 f225:=Tryz.func278.trans (congrArg some (by kernel_rfl))
 f266:=Tryz.func304.trans (congrArg some (by kernel_rfl))
 f267:=Tryz.func280.trans (congrArg some (by kernel_rfl))
 f314:=Tryz.func305.trans (congrArg some (by kernel_rfl))
 t3:=underlying3
 a3:=Tryz.isAgg3
 z3:=Tryz.sizeOf3
 v3:=Tryz.zeroValue3
 t4:=underlying4
 a4:=Tryz.isAgg4
 z4:=Tryz.sizeOf4
 v4:=Tryz.zeroValue4
 t5:=underlying5
 a5:=Tryz.isAgg5
 z5:=Tryz.sizeOf5
 v5:=Tryz.zeroValue5
 t9:=underlying9
 a9:=Tryz.isAgg9
 z9:=Tryz.sizeOf9
 v9:=Tryz.zeroValue9
 t46:=underlying201
 a46:=Tryz.isAgg201
 z46:=Tryz.sizeOf201
 v46:=Tryz.zeroValue201
 t51:=underlying313
 a51:=Tryz.isAgg313
 z51:=Tryz.sizeOf313
 v51:=Tryz.zeroValue313
 t59:=underlying212
 a59:=Tryz.isAgg212
 z59:=Tryz.sizeOf212
 v59:=Tryz.zeroValue212
 t146:=underlying342
 a146:=Tryz.isAgg342
 z146:=Tryz.sizeOf342
 v146:=Tryz.zeroValue342
 g1:=by kernel_rfl }
open Go.RowKit Go.Lib in
theorem Tryz.strings_Cut(s q0:ByteArray)(m:Int)(w:C1)(hs:s.size<4294967281)(hm:w.cell? ⟨6,0,none⟩=some (.int .i64 m)):
  D1 AI 145 #[.string s,.string q0] w fun e w'=>e=.returned (.tuple #[.string ⟨(F1 s.data.toList q0.data.toList).1.toArray⟩,.string ⟨(F1 s.data.toList q0.data.toList).2.1.toArray⟩,.bool (F1 s.data.toList q0.data.toList).2.2]) /\ ∃n,w'=w.drewN n:=Any.strings_Cut Tryz.lays145 s q0 m w hs hm
def Tryz.lays221_ren:A3:=⟨fun|221=>144|268=>190|138=>191|143=>192|195=>229|197=>230|218=>231|219=>232|260=>276|217=>277|225=>278|224=>279|267=>280|266=>304|314=>305|n=>n,fun|9=>9|3=>3|31=>59|4=>4|0=>0|105=>289|21=>21|5=>5|46=>201|119=>207|139=>210|138=>209|146=>342|51=>313|n=>n,fun|1=>6|3=>1|4=>2|n=>n⟩
def Tryz.lays146_ren:A3:=⟨fun|146=>109|221=>144|268=>190|138=>191|143=>192|195=>229|197=>230|218=>231|219=>232|260=>276|217=>277|225=>278|224=>279|267=>280|266=>304|314=>305|n=>n,fun|9=>9|31=>59|3=>3|4=>4|0=>0|105=>289|21=>21|5=>5|46=>201|119=>207|139=>210|138=>209|146=>342|51=>313|n=>n,fun|1=>6|3=>1|4=>2|n=>n⟩
theorem Tryz.lays146:Go.Proofs.Lays.n146 AI Tryz.lays146_ren:={
 mixed:=by kernel_rfl
 f138:=Tryz.func191.trans (congrArg some (by kernel_rfl))
 f143:=Tryz.func192.trans (congrArg some (by kernel_rfl))
 f146:=Tryz.func109.trans (congrArg some (by kernel_rfl))
 f195:=Tryz.func229.trans (congrArg some (by kernel_rfl))
 f197:=Tryz.func230.trans (congrArg some (by kernel_rfl))
 f217:=Tryz.func277.trans (congrArg some (by kernel_rfl))
 f218:=Tryz.func231.trans (congrArg some (by kernel_rfl))
 f219:=Tryz.func232.trans (congrArg some (by kernel_rfl))
 f221:=Tryz.func144.trans (congrArg some (by kernel_rfl))
 f224:=Tryz.func279.trans (congrArg some (by kernel_rfl))
 f225:=Tryz.func278.trans (congrArg some (by kernel_rfl))
 f260:=Tryz.func276.trans (congrArg some (by kernel_rfl))
 f266:=Tryz.func304.trans (congrArg some (by kernel_rfl))
 f267:=Tryz.func280.trans (congrArg some (by kernel_rfl))
 f268:=Tryz.func190.trans (congrArg some (by kernel_rfl))
 f314:=Tryz.func305.trans (congrArg some (by kernel_rfl))
 t0:=underlying0
 a0:=Tryz.isAgg0
 z0:=Tryz.sizeOf0
 v0:=Tryz.zeroValue0
 t3:=underlying3
 a3:=Tryz.isAgg3
 z3:=Tryz.sizeOf3
 v3:=Tryz.zeroValue3
 t4:=underlying4
 a4:=Tryz.isAgg4
 z4:=Tryz.sizeOf4
 v4:=Tryz.zeroValue4
 t5:=underlying5
 a5:=Tryz.isAgg5
 z5:=Tryz.sizeOf5
 v5:=Tryz.zeroValue5
 t9:=underlying9
 a9:=Tryz.isAgg9
 z9:=Tryz.sizeOf9
 v9:=Tryz.zeroValue9
 t21:=underlying21
 a21:=Tryz.isAgg21
 z21:=Tryz.sizeOf21
 v21:=Tryz.zeroValue21
 t31:=underlying59
 a31:=Tryz.isAgg59
 z31:=Tryz.sizeOf59
 v31:=Tryz.zeroValue59
 t46:=underlying201
 a46:=Tryz.isAgg201
 z46:=Tryz.sizeOf201
 v46:=Tryz.zeroValue201
 t51:=underlying313
 a51:=Tryz.isAgg313
 z51:=Tryz.sizeOf313
 v51:=Tryz.zeroValue313
 t105:=underlying289
 a105:=Tryz.isAgg289
 z105:=Tryz.sizeOf289
 v105:=Tryz.zeroValue289
 t119:=underlying207
 a119:=Tryz.isAgg207
 z119:=Tryz.sizeOf207
 t138:=underlying209
 a138:=Tryz.isAgg209
 z138:=Tryz.sizeOf209
 v138:=Tryz.zeroValue209
 t139:=underlying210
 a139:=Tryz.isAgg210
 z139:=Tryz.sizeOf210
 v139:=Tryz.zeroValue210
 t146:=underlying342
 a146:=Tryz.isAgg342
 z146:=Tryz.sizeOf342
 v146:=Tryz.zeroValue342
 g1:=by kernel_rfl
 g3:=by kernel_rfl
 g4:=by kernel_rfl }
def Tryz.lays196_ren:A3:=⟨fun|196=>108|259=>143|n=>n,fun|9=>9|4=>4|3=>3|5=>5|12=>12|119=>207|0=>0|46=>201|139=>210|138=>209|53=>252|n=>n,fun|3=>1|4=>2|n=>n⟩
theorem Tryz.lays196:Go.Proofs.Lays.n196 AI Tryz.lays196_ren:={
 mixed:=by kernel_rfl
 f196:=Tryz.func108.trans (congrArg some (by kernel_rfl))
 f259:=Tryz.func143.trans (congrArg some (by kernel_rfl))
 t0:=underlying0
 a0:=Tryz.isAgg0
 z0:=Tryz.sizeOf0
 v0:=Tryz.zeroValue0
 t3:=underlying3
 a3:=Tryz.isAgg3
 z3:=Tryz.sizeOf3
 v3:=Tryz.zeroValue3
 t4:=underlying4
 a4:=Tryz.isAgg4
 z4:=Tryz.sizeOf4
 v4:=Tryz.zeroValue4
 t5:=underlying5
 a5:=Tryz.isAgg5
 z5:=Tryz.sizeOf5
 v5:=Tryz.zeroValue5
 t9:=underlying9
 a9:=Tryz.isAgg9
 z9:=Tryz.sizeOf9
 v9:=Tryz.zeroValue9
 t12:=underlying12
 a12:=Tryz.isAgg12
 z12:=Tryz.sizeOf12
 v12:=Tryz.zeroValue12
 t46:=underlying201
 a46:=Tryz.isAgg201
 z46:=Tryz.sizeOf201
 v46:=Tryz.zeroValue201
 t53:=underlying252
 a53:=Tryz.isAgg252
 z53:=Tryz.sizeOf252
 v53:=Tryz.zeroValue252
 t119:=underlying207
 a119:=Tryz.isAgg207
 z119:=Tryz.sizeOf207
 t138:=underlying209
 a138:=Tryz.isAgg209
 z138:=Tryz.sizeOf209
 v138:=Tryz.zeroValue209
 t139:=underlying210
 a139:=Tryz.isAgg210
 z139:=Tryz.sizeOf210
 v139:=Tryz.zeroValue210
 g3:=by kernel_rfl
 g4:=by kernel_rfl }
end Go.Proofs

set_option maxRecDepth 100000
set_option maxHeartbeats 8000000
namespace Go.Proofs.YtdpomdelmdofmaaGreatDoor
open Go.Proofs.Tryz
open Go.RowKit
variable{w:C1}{v:C2}{B:Nat}
def Fz(f:Nat):Prop:=∀ (F F':Nat->Prop) (w:C1) (v v':C2) (a b:To),Rep f F w v a->Rep f F' w v' b->D1 AI 82 #[v,v'] w fun e w'=>e=.returned (.bool (veq a b))/\A6 w.heap.size w w'
theorem Rep.bel{f:Nat}{F:Nat->Prop}{w':C1}{d:To}(h:Rep f F w v d)(hb:A6 w.heap.size w w'):Rep f F w' v d:=h.move fun k h1 h2=>⟨hb.block k h2,h1⟩
theorem Hb{e n:Nat}{xs:List C2}(h:w.ownsRow B e 1 v n xs)(h0:n=0):∃a c,v=.slice a 0 c:=by
 rcases h.2 with⟨e,_⟩|⟨g,cap,cur,e,_⟩
 ·exact⟨none,0,e⟩
 ·exact⟨_,cap,by rw[e,h0]⟩
theorem Cr{e n:Nat}{xs:List C2}(h:w.ownsRow B e 1 v n xs):∃a c,v=.slice a n c:=by
 rcases h.2 with⟨e,h0⟩|⟨g,cap,cur,e,_⟩
 ·exact⟨none,0,by rw[e,h0]⟩
 ·exact⟨_,cap,e⟩
theorem WG{f:Nat}(hS:Fz f){F F':Nat->Prop}{B':Nat}{sl sl':C2}{ps q0:List C2}{es es':List To}(ho:w.ownsRow B 80 1 sl ps.length ps)(q5:w.ownsRow B' 80 1 sl' q0.length q0)(ha:Al (Rep f F w) ps es)(q8:Al (Rep f F' w) q0 es')(qt:ps.length<=CH)(qd:q0.length<=CH):
  D1 AI 112 #[sl,sl',.func (.func 82) #[] #[]] w fun e w'=>e=.returned (.bool (veq (Ap es) (Ap es')))/\A6 w.heap.size w w':=by
 have hl:=ha.length;have q9:=q8.length;obtain⟨N,hN⟩:∃N,N=ps.length:=⟨_,rfl⟩
 obtain⟨N',q6⟩:∃N',N'=q0.length:=⟨_,rfl⟩
 have qv:(N:Int)<=9223372036854775807:=by unfold CH at qt;omega
 have qu:(N':Int)<=9223372036854775807:=by unfold CH at qd;omega
 by_cases qb:N=N'
 ·by_cases h0:N=0
  ·obtain⟨a,c,rfl⟩:=Hb ho (by omega);obtain⟨a',c',rfl⟩:=Hb q5 (by omega);have e1:es=[]:=A5 (by omega);have e2:es'=[]:=A5 (by omega);have HV:=Ab (FC (show Ap es=Ap es' by rw[e1,e2]));rw[<- hN,h0] at ho;rw[<- q6,<- qb,h0] at q5;clear ho q5 ha q8 hl q9 e1 e2 hS hN q6 qb
   go_enter func112,ntmps112
   go_wp2_with (fail);refine wp_loop_rounds 1 ?_
   rw[rounds_succ]
   go_wp2_with (fail)
   go_ret;exact⟨by rw[Aa HV];rfl,CR _ _⟩
  ·obtain⟨g1,p1,rfl,a1,b1,l1,qh⟩:=Bh ho (by omega);obtain⟨g2,p2,rfl,a2,b2,l2,qk⟩:=Bh q5 (by omega);have qq:=Ab qh;have qp:=Ab qk;have HA:=Ab ha;have qo:=Ab q8;have HS:=Ab hS;have HN:=Ab hN;have qm:=Ab q6;have HL:=Ab hl;have qf:=Ab q9;rw[<- hN] at a1 |-;rw[<- q6] at a2 |-;subst qb;clear ho q5 ha q8 hl q9 hS hN q6 qh qk h0
   go_enter func112,ntmps112
   go_wp2_with (fail)
   go_loopw [17] (fun i wr=>∃k:Nat,k<=N/\i=.int .i64 k/\es.take k=es'.take k/\A6 w.heap.size w wr) (fun i _=>N-(intOf i).toNat)
   case atStart=>exact⟨0,by omega,rfl,by simp,CR _ _⟩
   case round=>
    obtain⟨k,hk,rfl,qg,hb⟩:=hrel;have qn:=Ab qg;have HB:=Ab hb;clear qg;by_cases hlt:k<N
    ·have h1:k<ps.length:=by have:=Aa HN;omega
     have h2:k<q0.length:=by have:=Aa qm;omega
     have h3:k<es.length:=by have:=Aa HL;omega
     have h4:k<es'.length:=by have:=Aa qf;omega
     have q1:=(hb.cell (p:=⟨g1,k,none⟩) l1).trans (Aa qq k h1);have q2:=(hb.cell (p:=⟨g2,k,none⟩) l2).trans (Aa qp k h2);have q4:=Ab (Aa HS F F' wr ps[k] q0[k] es[k] es'[k] (((Aa HA).get k h1 h3).bel hb) (((Aa qo).get k h2 h4).bel hb));have qi:es.take (k+1)=es'.take (k+1)<->es[k]=es'[k]:=by
      rw[A4 h3,A4 h4,Aa qn];exact⟨fun h=>List.singleton_inj.1 (List.append_cancel_left h),fun h=>by rw[h]⟩
     have qr:=Ab qi;generalize ps[k]=pk at *;generalize q0[k]=pk' at *;clear qi hb
     go_wp2_with (fail);refine (Aa q4).mono ?_
     rintro e w2 ⟨rfl,hb2⟩;have qj:=Ab ((Aa HB).trans (hb2.mono (Aa HB).size));clear hb2 q4;by_cases q7:es[k]=es'[k]
     ·rw[FC q7];have qe:=Ab ((Aa qr).2 q7);clear q7
      go_wp2_with (fail);exact⟨⟨k+1,by omega,by go_num,Aa qe,Aa qj⟩,by simp only[intOf];omega⟩
     ·rw[D4 q7];have HV:=Ab (D4 (a:=Ap es) (b:=Ap es') (fun h=>by
       have h5:es=es':=by unfold Ap at h;injection h
       exact q7 (by subst h5;rfl)))
      clear q7
      go_wp2_with (fail)
      go_ret;exact⟨by rw[Aa HV];rfl,Aa qj⟩
    ·have HV:=Ab (FC (show Ap es=Ap es' by
      have h5:=Aa qn;rw[A2 (by have:=Aa HN;have:=Aa HL;omega),A2 (by have:=Aa qm;have:=Aa qf;omega)] at h5;rw[h5]))
     go_wp2_with (fail)
     go_ret;exact⟨by rw[Aa HV];rfl,hb⟩
 ·obtain⟨a,c,rfl⟩:=Cr ho;obtain⟨a',c',rfl⟩:=Cr q5;have HV:=Ab (D4 (a:=Ap es) (b:=Ap es') (fun h=>by
   have h5:es=es':=by unfold Ap at h;injection h
   rw[h5] at hl;omega))
  have e0:((N:Int)==(N':Int))=false:=by rw[beq_eq_false_iff_ne];omega
  have e1:((N:Int) != (N':Int))=true:=by rw[bne_iff_ne];omega
  rw[<- hN,<- q6];clear ho q5 ha q8 hl q9 hS hN q6 qb
  go_enter func112,ntmps112
  go_wp2_with (fail)
  go_ret;exact⟨by rw[Aa HV];rfl,CR _ _⟩
end Go.Proofs.YtdpomdelmdofmaaGreatDoor
