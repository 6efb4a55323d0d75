import Derived.Lib.DecodeN
import Derived.Lib.RuneBytes
import Derived.Lib.ItoaNum
import Derived.Lib.TrimByte
import GoSem.ClaimWide
import Derived.Test.YtdpomdelmdofmaaGreatDoorProg
import Derived.WalkKit
import Derived.WalkSpells
import Derived.WalkLawsBesides
import Derived.BigQuiet
import Derived.Deep.QuietTactic
import Derived.Shelf.Unicode.DecodeSlow
import Derived.Shelf.Strconv.Itoa3
import Derived.Test.YtdpomdelmdofmaaGreatDoorRows
import Derived.ProofKit
import Derived.OpenShut
import Derived.LaidMore
import Derived.Lay
import Derived.Carry
import Derived.Stop.Joined
import Derived.LaidLaws
import Derived.Shelf.Vars
import Derived.Deep.DeepHandedRow
import Derived.JoinedOf
open Option.some renaming inj->AI
open Go renaming Value->AS,World->A4,TypeId->C2,DataW->D0,MemPlace->D3,laidMetH->E0
open Array renaming getElem?_toList->AT
open Go.DataW renaming trod->A1,TrodAll->A3,trod_int->Bs,trod_string->CH,trod_struct->CL,trod_array->F2,trod_bool->G1,Whole->HC
open Go.World renaming setCell->A2,var?_cell->A5,cell?->CD
open List renaming getElem?_range->A6,getElem?_map->CR,mem_append_right->Dt,mem_append_left->DD,drop_drop->G3,range->HD
open Go.MakeChecks renaming laidMetH_plain->BY
open Go.OpenSpec renaming ofChange->C1
open List.cons renaming injEq->Dp
open Prod.mk renaming injEq->D1,inj->G0
open Go.RowKit.Below renaming heap_setCell->D2,heap_alloc->Ft
open Go.Value renaming int->F1,okWide->HB
open Go.Proofs.Tryz renaming prog->F5
open Option renaming map_some->G2
open Nat renaming le_trans->HA
set_option maxRecDepth 100000
namespace Go.Proofs.YtdpomdelmdofmaaGreatDoor
open Go.Proofs.Tryz Go.RowKit Go.ChangeShapes Go.WideShapes Go.ChangeAt
variable{X p R base e:Nat}{a w w' W:A4}{t:ByteArray}{c:UInt8}{tw held:Bool}{dp fr:Int}{H:Type}{P:Program}{spare:Nat->Bool}{f0 f1:Field}
abbrev By:=List UInt8
def bP(c:UInt8):Bool:=c==32 || c==9 || c==10 || c==13
def aN(c:UInt8):Bool:=decide (48<=c.toNat) && decide (c.toNat<=57)
def Zt(l:By):Nat:=match l with|[]=>0|c::_=>c.toNat
def Zn(l:By)(c:UInt8):Bool:=match l with|[]=>false|d::_=>d==c
def Zu:By->By
 | []=>[]
 | c::r=>if bP c then Zu r else c::r
def dg:By->By
 | []=>[]
 | c::r=>if aN c then c::dg r else []
def ZH:By->By
 | []=>[]
 | c::r=>if aN c then ZH r else c::r
def BP(l:By):Option (By×By):=
 if Zn l 46 then (if dg l.tail=[] then none else some (dg l.tail,ZH l.tail)) else some ([],l)
def CW:By->Int->Int
 | [],n=>n
 | c::r,n=>CW r (min (10*n+((c.toNat:Int)-48)) 1000000)
def BJ(l:By):Option (Int×By):=
 if Zn l 101 || Zn l 69 then
  (if Zn l.tail 45 then (if dg l.tail.tail=[] then none else some (- CW (dg l.tail.tail) 0,ZH l.tail.tail))
   else if Zn l.tail 43 then (if dg l.tail.tail=[] then none else some (CW (dg l.tail.tail) 0,ZH l.tail.tail))
   else (if dg l.tail=[] then none else some (CW (dg l.tail) 0,ZH l.tail)))
 else some (0,l)
abbrev Nm:=Bool×By×Int
def Cv(ng:Bool)(ds:By)(e:Int):Nm:=
 let d:=Lib.trimLeftB ds 48
 let w:=Lib.trimRightB d 48
 if w=[] then (false,[],0) else (ng,w,e+d.length-w.length)
def BN(ng:Bool)(l:By):Option (Nm×By):=
 if dg l=[] || (Zn l 48 && decide (1<(dg l).length)) then none
 else match BP (ZH l) with
  | none=>none
  | some (f,r)=>match BJ r with
   | none=>none
   | some (e,r')=>some (Cv ng (dg l++f) (e-f.length),r')
def Zw(l:By):Option (Nm×By):=if Zn l 45 then BN true l.tail else BN false l
def EU(c:Nat):Option Nat:=
 if 48<=c/\c<=57 then some (c-48) else if 97<=c/\c<=102 then some (c-97+10) else if 65<=c/\c<=70 then some (c-65+10) else none
def Cx:Nat->Nat->By->Option (Nat×By)
 | 0,n,l=>some (n,l)
 | k+1,n,l=>match EU (Zt l) with
  | none=>none
  | some d=>Cx k (n*16+d) l.tail
def DG(l:By):Option (Nat×By):=
 match Cx 4 0 l with
 | none=>none
 | some (a,r)=>
  if a<55296\/57344<=a then some (a,r)
  else if 56320<=a then none
  else if Zn r 92 then (if Zn r.tail 117 then
   (match Cx 4 0 r.tail.tail with
    | none=>none
    | some (b,r')=>if b<56320\/57344<=b then none else some (65536+(a-55296)*1024+(b-56320),r'))
   else none) else none
def FX:List (UInt8×Nat):=[(34,34),(92,92),(47,47),(98,8),(102,12),(110,10),(114,13),(116,9)]
def D8(l:By):List (UInt8×Nat)->Option (Nat×By)
 | []=>none
 | (c,n)::r=>if Zn l c then some (n,l.tail) else D8 l r
def aW(l:By):Option (Nat×By):=if Zn l 117 then DG l.tail else D8 l FX
def ZU(l:By):Nat×Nat:=if l.length=0 then (65533,0) else Utf8.decode ⟨l.toArray⟩ 0
def Z5(l:By):Option (Nat×By):=
 if Zn l 92 then aW l.tail
 else if (ZU l).1<32\/((ZU l).1=65533/\(ZU l).2<2) then none else some ((ZU l).1,l.drop (ZU l).2)
def Db:Nat->By->Option (By×By)
 | 0,_=>none
 | f+1,l=>if Zn l 34 then some ([],l.tail) else match Z5 l with
  | none=>none
  | some (c,r)=>match Db f r with
   | none=>none
   | some (s,r')=>some (Lib.encodeRune c++s,r')
def aE(l:By):Option (By×By):=if Zn l 34 then Db (l.length+1) l.tail else none
theorem Ab{p:Prop}(h:p):Hid p:=h
theorem Aa{p:Prop}(h:Hid p):p:=h
theorem SC(w:A4)(a b:Nat):(w.drewN a).drewN b=w.drewN (a+b):=by simp_all
structure Ae(X:Nat)(w w':A4):Prop where
 os:w'.os=w.os
 tape:w'.tape=w.tape
 output:w'.output=w.output
 size:w.heap.size<=w'.heap.size
 block:∀k,k<w.heap.size->k≠X->w'.heap[k]? = w.heap[k]?
theorem Ae.refl(X:Nat)(w:A4):Ae X w w:=⟨rfl,rfl,rfl,Nat.le_refl _,fun _ _ _=>rfl⟩
theorem Ae.trans{b c:A4}(h:Ae X a b)(k:Ae X b c):Ae X a c:=
 ⟨k.os.trans h.os,k.tape.trans h.tape,k.output.trans h.output,HA h.size k.size,fun i hi hx=>(k.block i (Nat.lt_of_lt_of_le hi h.size) hx).trans (h.block i hi hx)⟩
theorem Ae.drewN(h:Ae X a w)(n:Nat):Ae X a (w.drewN n):=⟨h.os,h.tape,h.output,h.size,h.block⟩
theorem Ae.drew(h:Ae X a w):Ae X a w.drew:=⟨h.os,h.tape,h.output,h.size,h.block⟩
theorem Ae.alloc(h:Ae X a w)(o:Obj):Ae X a (w.alloc o):=
 h.trans ⟨rfl,rfl,rfl,by simp,fun k hk _=>Ft _ _ _ hk⟩
theorem Ae.setCell(h:Ae X a w){p:Addr}(hp:p.block=X)(u:AS):Ae X a (w.setCell p u):=
 h.trans ⟨rfl,rfl,rfl,by simp_all,fun k _ hx=>D2 _ _ _ _ (by omega)⟩
theorem Ae.setCell_new(h:Ae X a w){p:Addr}(hp:a.heap.size<=p.block)(u:AS):Ae X a (w.setCell p u):=
 ⟨h.os,h.tape,h.output,by simpa[A2] using h.size,fun k hk hx=>(D2 _ _ _ _ (by omega)).trans (h.block k hk hx)⟩
theorem Ae.of_below(h:Below w.heap.size w w'):Ae X w w':=⟨h.os,h.tape,h.output,h.size,fun k hk _=>h.block k hk⟩
theorem Ae.below{B:Nat}(h:Ae X w w')(hB:B<=X)(hs:B<=w.heap.size):Below B w w':=
 ⟨h.os,h.tape,h.output,h.size,fun k hk=>h.block k (by omega) (by omega)⟩
theorem Ae.cell(h:Ae X w w'){p:Addr}(hp:p.block<w.heap.size)(hx:p.block≠X):w'.cell? p=w.cell? p:=World.cell?_of_block (w:=w) (h.block p.block hp hx)
def RP(w:A4)(R:Nat)(t:ByteArray)(p:Nat)(tw:Bool)(dp fr:Int):Prop:=
 w.heap[R]? = some (.cells #[.string t,.int .i64 p,.bool tw,.int .i64 dp,.int .i64 fr] 155 (0,0))
section
variable{w:A4}{R:Nat}{t:ByteArray}{p:Nat}{tw:Bool}{dp fr:Int}
theorem RP.lt(h:RP w R t p tw dp fr):R<w.heap.size:=(Array.getElem?_eq_some_iff.1 h).1
theorem RP.c0(h:RP w R t p tw dp fr):w.cell? ⟨R,0,none⟩=some (.string t):=by simp[CD,show w.heap[R]? = _ from h]
theorem RP.c1(h:RP w R t p tw dp fr):w.cell? ⟨R,1,none⟩=some (.int .i64 p):=by simp[CD,show w.heap[R]? = _ from h]
theorem RP.c2(h:RP w R t p tw dp fr):w.cell? ⟨R,2,none⟩=some (.bool tw):=by simp[CD,show w.heap[R]? = _ from h]
theorem RP.c3(h:RP w R t p tw dp fr):w.cell? ⟨R,3,none⟩=some (.int .i64 dp):=by simp[CD,show w.heap[R]? = _ from h]
theorem RP.c4(h:RP w R t p tw dp fr):w.cell? ⟨R,4,none⟩=some (.int .i64 fr):=by simp[CD,show w.heap[R]? = _ from h]
theorem RP.fz(h:RP w R t p tw dp fr)(o:Nat):w.frozen? ⟨R,o,none⟩=false:=by simp[World.frozen?,show w.heap[R]? = _ from h]
theorem RP.drewN(h:RP w R t p tw dp fr)(n:Nat):RP (w.drewN n) R t p tw dp fr:=h
theorem RP.drew(h:RP w R t p tw dp fr):RP w.drew R t p tw dp fr:=h
theorem RP.alloc(h:RP w R t p tw dp fr)(o:Obj):RP (w.alloc o) R t p tw dp fr:=(Ft _ _ _ h.lt).trans h
theorem RP.set1(h:RP w R t p tw dp fr)(q:Nat):RP (w.setCell ⟨R,1,none⟩ (.int .i64 q)) R t q tw dp fr:=by
 grind [RP,A2]
theorem RP.set2(h:RP w R t p tw dp fr)(q:Bool):RP (w.setCell ⟨R,2,none⟩ (.bool q)) R t p q dp fr:=by
 grind [RP,A2]
theorem RP.set3(h:RP w R t p tw dp fr)(q:Int):RP (w.setCell ⟨R,3,none⟩ (.int .i64 q)) R t p tw q fr:=by
 grind [RP,A2]
theorem RP.set4(h:RP w R t p tw dp fr)(q:Int):RP (w.setCell ⟨R,4,none⟩ (.int .i64 q)) R t p tw dp q:=by
 simp only[RP,A2,Array.getElem?_modify]
 grind [RP,A2]
theorem RP.kept(h:RP w R t p tw dp fr)(hk:Ae X w w')(hx:R≠X):RP w' R t p tw dp fr:=(hk.block R h.lt hx).trans h
end
theorem Ls(t:ByteArray)(p:Nat)(h:p<t.size):t.data.toList.drop p=t[p]::t.data.toList.drop (p+1):=by
 rw[List.drop_eq_getElem_cons (by simp_all)];rfl
structure At(t:ByteArray)(p:Nat)(l:By):Prop where
 small:t.size<=2000
 le:p<=t.size
 eq:t.data.toList.drop p=l
theorem At.len{l:By}(h:At t p l):l.length=t.size-p:=by rw[<- h.eq];simp
theorem At.lt{l:By}(h:At t p (c::l)):p<t.size:=by
 have:=h.len;grind
theorem At.byte{l:By}(h:At t p (c::l)):t[p]'h.lt=c:=by
 have h1:=h.eq;rw[Ls t p h.lt] at h1;grind
theorem At.next{l:By}(h:At t p (c::l)):At t (p+1) l:=
 ⟨h.small,h.lt,by have h1:=h.eq;rw[Ls t p h.lt] at h1;grind⟩
theorem At.nil(h:At t p []):p=t.size:=by have h1:=h.len;have h2:=h.le;grind
theorem At.add{l:By}(h:At t p l)(n:Nat)(hn:n<=l.length):At t (p+n) (l.drop n):=
 ⟨h.small,by have:=h.len;have:=h.le;omega,by rw[<- h.eq,G3]⟩
section
variable{t:ByteArray}{p:Nat}
end
def RD(w:A4)(R:Nat)(t:ByteArray)(l:By)(tw:Bool)(dp fr:Int):Prop:=∃p,At t p l/\RP w R t p tw dp fr
theorem RD.lt{l:By}(h:RD w R t l tw dp fr):R<w.heap.size:=by obtain⟨p,_,h⟩:=h;exact h.lt
theorem RD.drewN{l:By}(h:RD w R t l tw dp fr)(n:Nat):RD (w.drewN n) R t l tw dp fr:=h
theorem RD.alloc{l:By}(h:RD w R t l tw dp fr)(o:Obj):RD (w.alloc o) R t l tw dp fr:=by obtain⟨p,a,h⟩:=h;exact⟨p,a,h.alloc o⟩
theorem RD.kept{l:By}(h:RD w R t l tw dp fr)(hk:Ae X w w')(hx:R≠X):RD w' R t l tw dp fr:=by obtain⟨p,a,h⟩:=h;exact⟨p,a,h.kept hk hx⟩
def left(w:A4)(R:Nat):Nat:=
 match w.heap[R]? with
 | some (.cells cs _ _)=>(match cs.toList with|(.string t)::(.int _ p)::_=>t.size-p.toNat|_=>0)
 | _=>0
theorem RD.left{l:By}(h:RD w R t l tw dp fr):left w R=l.length:=by
 obtain⟨p,a,h⟩:=h;simp[Go.Proofs.YtdpomdelmdofmaaGreatDoor.left,show w.heap[R]? = _ from h,a.len]
abbrev NG:Nat:=12
def Ci:Array AS:=#[.int .u8 34,.int .i32 34,.int .u8 92,.int .i32 92,.int .u8 47,.int .i32 47,.int .u8 98,.int .i32 8,.int .u8 102,.int .i32 12,.int .u8 110,.int .i32 10,.int .u8 114,.int .i32 13,.int .u8 116,.int .i32 9]
def Cq:Array AS:=#[.string ⟨#[110,117,108,108]⟩,.string ⟨#[116,114,117,101]⟩,.string ⟨#[102,97,108,115,101]⟩]
def EE:Array AS:=#[.string ⟨#[126,48]⟩,.int .u8 126,.string ⟨#[126,49]⟩,.int .u8 47]
def Er(w:A4):Prop:=∃t fr,w.heap[4]? = some (.cells EE t fr)
def Cu:Array AS:=#[.string ⟨#[97,100,100]⟩,.bool true,.bool false,.string ⟨#[114,101,109,111,118,101]⟩,.bool false,.bool false,.string ⟨#[114,101,112,108,97,99,101]⟩,.bool true,.bool false,
 .string ⟨#[109,111,118,101]⟩,.bool false,.bool true,.string ⟨#[99,111,112,121]⟩,.bool false,.bool true,.string ⟨#[116,101,115,116]⟩,.bool true,.bool false]
def GS(w:A4):Prop:=∃t fr,w.heap[3]? = some (.cells Cu t fr)
def Rng(w:A4):Prop:=∃ev,w.cell? ⟨9,0,none⟩=some ev/\(ev=.nilIface \/ ∃te pe,ev=.iface te pe)
def Mx(w:A4):Prop:=∃m,w.cell? ⟨6,0,none⟩=some (.int .i64 m)
structure Af(w:A4):Prop where
 ng:NG<=w.heap.size
 esc:∃t fr,w.heap[7]? = some (.cells Ci t fr)
 words:∃t fr,w.heap[0]? = some (.cells Cq t fr)
 utf8:Lib.Utf8Tabs 1 2 w
 pow:∃t fr,w.heap[5]? = some (.cells (Lib.pow10Tab.map fun z=>F1 .u64 z).toArray t fr)
 pesc:Er w
 rng:Rng w
 mx:Mx w
 otab:GS w
theorem Af.below(h:Af w)(hb:Below NG w w'):Af w':=by
 have hc:∀g o,g<NG->w'.cell? ⟨g,o,none⟩=w.cell? ⟨g,o,none⟩:=fun g o hg=>hb.cell (p:=⟨g,o,none⟩) hg;refine⟨HA h.ng hb.size,?_,?_,⟨fun c q0=>by rw[hc _ _ (by decide)];exact h.utf8.1 c q0,fun i hi=>⟨by rw[hc _ _ (by decide)];exact (h.utf8.2 i hi).1,by rw[hc _ _ (by decide)];exact (h.utf8.2 i hi).2⟩⟩,?_,?_,?_,?_,?_⟩
 ·obtain⟨t,fr,e⟩:=h.esc;exact⟨t,fr,(hb.block _ (by decide)).trans e⟩
 ·obtain⟨t,fr,e⟩:=h.words;exact⟨t,fr,(hb.block _ (by decide)).trans e⟩
 ·obtain⟨t,fr,e⟩:=h.pow;exact⟨t,fr,(hb.block _ (by decide)).trans e⟩
 ·obtain⟨t,fr,e⟩:=h.pesc;exact⟨t,fr,(hb.block _ (by decide)).trans e⟩
 ·obtain⟨ev,h1,h2⟩:=h.rng;exact⟨ev,by grind,h2⟩
 ·obtain⟨m,h1⟩:=h.mx;exact⟨m,by grind⟩
 ·obtain⟨t,fr,e⟩:=h.otab;exact⟨t,fr,(hb.block _ (by decide)).trans e⟩
theorem Af.kept(h:Af w)(hk:Ae X w w')(hX:NG<=X):Af w':=h.below (hk.below hX h.ng)
def DA{H:Type}:D0 H->List AS
 | .lit (.int k z)=>[.int k z]
 | .lit (.string s)=>[.string ⟨s.toArray⟩]
 | _=>[]
def Ey{H:Type}:D0 H->List AS
 | .agg [a,b]=>DA a++DA b
 | _=>[]
theorem SX{α β:Type}(F:β->List α)(c:Nat):∀ (ds:List β) (l:List α),l.length=ds.length*c->(∀r x,ds[r]? = some x->(l.drop (r*c)).take c=F x)->l=ds.flatMap F
 | [],l,h,_=>by simp_all
 | d::ds,l,h,hx=>by
  have h0:=hx 0 d rfl;simp only[Nat.zero_mul,List.drop_zero] at h0;have hr:=SX F c ds (l.drop c) (by rw[List.length_drop,h,List.length_cons,Nat.succ_mul];omega) (fun r x hr=>by
   have:=hx (r+1) x hr;rw[G3]
   grind)
  rw[List.flatMap_cons,<- h0,<- hr,List.take_append_drop]
theorem OC{enc:C2×AS->H}{q0:Nat}{t n:Nat}{cs:List AS}{ds:List (D0 H)}{q:List D3}(ht:P.underlying t=some (.array n e))(hc:P.cellsOf t=n*P.cellsOf e)(F:D0 H->List AS)(hF:∀m l d p,A1 enc P w base spare held m e l=some (d,p)->l=F d)(h:A1 enc P w base spare held q0 t cs=some (.agg ds,q)):cs=ds.flatMap F:=by
 obtain⟨xs,m,_,ex,hl,hn,q4⟩:=F2 ht h;have ed:ds=xs.map (·.1):=by grind
 subst ed;refine SX F (P.cellsOf e) _ cs (by grind) fun r x hr=>?_
 grind
theorem Lq{enc:C2×AS->H}{k:IntKind}(he:P.underlying e=some (.int k)):
  ∀m l d p,A1 enc P w base spare held m e l=some (d,p)->l=DA d:=by
 intro m l d p h;obtain⟨z,rfl,ex,_⟩:=Bs he h;rw[(G0 ex).1];rfl
theorem Mo{enc:C2×AS->H}(he:P.underlying e=some .string):
  ∀m l d p,A1 enc P w base spare held m e l=some (d,p)->l=DA d:=by
 intro m l d p h;obtain⟨s,rfl,ex,_⟩:=CH he h;rw[(G0 ex).1];rfl
theorem K9{enc:C2×AS->H}{k0 k1:IntKind}(he:P.underlying e=some (.struct #[f0,f1]))(ce:P.cellsOf e=2)(o0:f0.offset=0)(o1:f1.offset=1)(u0:P.underlying f0.type=some (.int k0))(u1:P.underlying f1.type=some (.int k1))(c0:P.cellsOf f0.type=1)(c1:P.cellsOf f1.type=1):
  ∀m l d p,A1 enc P w base spare held m e l=some (d,p)->l=Ey d:=by
 intro m l d p h;obtain⟨xs,m',_,ex,hl,hn,q0⟩:=CL he h;rw[ce] at hl
 match l,hl,xs,hn with
 | [v0,v1],_,[y0,y1],_=>
  have g0:=q0 0 f0 rfl;have g1:=q0 1 f1 rfl;simp[o0,o1,c0,c1] at g0 g1;obtain⟨z0,e0,x0,_⟩:=Bs u0 g0;obtain⟨z1,e1,x1,_⟩:=Bs u1 g1;simp only[D1] at ex;simp only[Dp,and_true] at e0 e1;simp[ex.1,e0,e1,x0,x1,Ey,DA]
theorem PC{enc:C2×AS->H}{k1:IntKind}(he:P.underlying e=some (.struct #[f0,f1]))(ce:P.cellsOf e=2)(o0:f0.offset=0)(o1:f1.offset=1)(u0:P.underlying f0.type=some .string)(u1:P.underlying f1.type=some (.int k1))(c0:P.cellsOf f0.type=1)(c1:P.cellsOf f1.type=1):
  ∀m l d p,A1 enc P w base spare held m e l=some (d,p)->l=Ey d:=by
 intro m l d p h;obtain⟨xs,m',_,ex,hl,hn,q0⟩:=CL he h;rw[ce] at hl
 match l,hl,xs,hn with
 | [v0,v1],_,[y0,y1],_=>
  have g0:=q0 0 f0 rfl;have g1:=q0 1 f1 rfl;simp[o0,o1,c0,c1] at g0 g1;obtain⟨z0,e0,x0,_⟩:=CH u0 g0;obtain⟨z1,e1,x1,_⟩:=Bs u1 g1;simp only[D1] at ex;simp only[Dp,and_true] at e0 e1;simp[ex.1,e0,e1,x0,x1,Ey,DA]
theorem Ep{n:String}{g:Nat}{cs:Array AS}{l:List AS}(hg:P.globalNamed n=some g)(h:w.var? P n=some cs)(hl:cs.toList=l):∃t fr,w.heap[g]? = some (.cells l.toArray t fr):=by
 subst hl;simp only[World.var?,hg,Option.bind_some] at h;split at h
 ·simp_all
 ·cases h
theorem own:ownKnob Tryz.prog.godebug=none:=by kernel_rfl
theorem Wu:laidOutB F5=true:=by kernel_rfl
theorem Um:(match Rows.laid_unicode_utf8_acceptRanges (H:=Unit) with | .agg ds=>ds.flatMap Ey|_=>[])=(HD 32).map (fun j=>F1 .u8 (((if j % 2=0 then Lib.accLo (j / 2) else Lib.accHi (j / 2)):Nat):Int)):=by kernel_rfl
theorem PZ:(match Rows.laid_unicode_utf8_first with | .agg ds=>ds.flatMap DA|_=>[])=(HD 256).map (fun c=>F1 .u8 ((Lib.firstT c:Nat):Int)):=by kernel_rfl
theorem Uj:(match Rows.laid_internal_strconv_uint64pow10 (H:=Unit) with | .agg ds=>ds.flatMap DA|_=>[])=Lib.pow10Tab.map fun z=>F1 .u64 z:=by kernel_rfl
theorem PX:(match Rows.laid_amend_text_words (H:=Unit) with | .agg ds=>ds.flatMap DA|_=>[])=Cq.toList:=by kernel_rfl
theorem Ul:(match Rows.laid_amend_text_escapes (H:=Unit) with | .agg ds=>ds.flatMap Ey|_=>[])=Ci.toList:=by kernel_rfl
theorem RX:(match Rows.laid_amend_pointer_escapes (H:=Unit) with | .agg ds=>ds.flatMap Ey|_=>[])=EE.toList:=by kernel_rfl
theorem Dd{enc:C2×AS->H}{q0:Nat}{t n:Nat}{cs:List AS}{d:D0 H}{q:List D3}(ht:P.underlying t=some (.array n e))(hc:P.cellsOf t=n*P.cellsOf e)(F:D0 H->List AS)(hF:∀m l d p,A1 enc P w base spare held m e l=some (d,p)->l=F d)(h:A1 enc P w base spare held q0 t cs=some (d,q)):cs=(match d with | .agg ds=>ds.flatMap F|_=>[]):=by
 obtain⟨xs,_,_,ex,_⟩:=F2 ht h;obtain rfl:=(G0 ex).1;exact OC ht hc F hF h
def LZ{H:Type}:D0 H->List AS
 | .agg [.lit (.string s),.lit (.bool a),.lit (.bool b)]=>[.string ⟨s.toArray⟩,.bool a,.bool b]
 | _=>[]
theorem Ry{enc:C2×AS->H}{f2:Field}(he:P.underlying e=some (.struct #[f0,f1,f2]))(ce:P.cellsOf e=3)(o0:f0.offset=0)(o1:f1.offset=1)(o2:f2.offset=2)(u0:P.underlying f0.type=some .string)(u1:P.underlying f1.type=some .bool)(u2:P.underlying f2.type=some .bool)(c0:P.cellsOf f0.type=1)(c1:P.cellsOf f1.type=1)(c2:P.cellsOf f2.type=1):
  ∀m l d p,A1 enc P w base spare held m e l=some (d,p)->l=LZ d:=by
 intro m l d p h;obtain⟨xs,m',_,ex,hl,hn,q0⟩:=CL he h;rw[ce] at hl
 match l,hl,xs,hn with
 | [v0,v1,v2],_,[y0,y1,y2],_=>
  have g0:=q0 0 f0 rfl;have g1:=q0 1 f1 rfl;have g2:=q0 2 f2 rfl;simp[o0,o1,o2,c0,c1,c2] at g0 g1 g2;obtain⟨z0,e0,x0,_⟩:=CH u0 g0;obtain⟨z1,e1,x1⟩:=G1 u1 g1;obtain⟨z2,e2,x2⟩:=G1 u2 g2;simp only[D1] at ex;simp only[Dp,and_true] at e0 e1 e2;simp[ex.1,e0,e1,e2,x0,x1,x2,LZ]
theorem RW:(match Rows.laid_amend_patch_operations (H:=Unit) with | .agg ds=>ds.flatMap LZ|_=>[])=Cu.toList:=by kernel_rfl
theorem Uk(h:E0 F5 Rows.prefixRow.laid W):GS W:=by
 rw[BY _ _ _ (by kernel_rfl)] at h;obtain⟨ps,hv,_,_⟩:=h;obtain⟨_,_,_,_,_,_,_,_,_,_,hv,_⟩:=hv;obtain⟨_,_,_,_,_,_,_,_,_,_,hv,_⟩:=hv;obtain⟨_,_,_,_,_,_,_,_,_,_,hv,_⟩:=hv;obtain⟨_,_,_,_,_,_,_,_,_,_,hv,_⟩:=hv;obtain⟨_,_,_,_,_,_,_,_,_,_,hv,_⟩:=hv;obtain⟨_,_,_,_,_,_,_,_,_,_,hv,_⟩:=hv;obtain⟨_,_,_,_,_,_,_,_,_,_,hv,_⟩:=hv;obtain⟨_,_,_,_,_,_,_,_,_,_,hv,_⟩:=hv;obtain⟨_,_,_,_,_,_,_,_,_,_,hv,_⟩:=hv;obtain⟨g8,t8,c8,_,_,_,q0,q4,q6,q5,hv,_⟩:=hv;obtain rfl:=AI ((show Tryz.prog.globalNamed "amend/patch.operations" = some 3 by kernel_rfl).symm.trans q0);obtain rfl:=AI ((show (Tryz.prog.globals[3]?).map (·.type)=some 220 by kernel_rfl).symm.trans q4)
 have e8:=(Dd underlying220 (by kernel_rfl) LZ (Ry underlying219 (by kernel_rfl) rfl rfl rfl underlying9 underlying4 underlying4 (by kernel_rfl) (by kernel_rfl) (by kernel_rfl)) q5).trans RW;obtain⟨t,fr,e⟩:=Ep q0 q6 e8;exact⟨t,fr,by omega⟩
theorem PY(h:E0 F5 Rows.prefixRow.laid W)(qg:W.ShapedOpen F5):Af W:=by
 have q4:=Uk h;rw[BY _ _ _ (by kernel_rfl)] at h;obtain⟨ps,hv,_,_⟩:=h;obtain⟨_,_,_,_,_,_,_,_,_,_,hv,_⟩:=hv;obtain⟨g6,_,c6,_,_,_,qb,_,qr,_,hv,_⟩:=hv;obtain⟨g1,t1,c1,_,_,_,q7,z7,qq,qk,hv,_⟩:=hv;obtain⟨g4,t4,c4,_,_,_,q0,qz,q6,qx,hv,_⟩:=hv;obtain⟨g5,t5,c5,_,_,_,q5,qt,qo,qp,hv,_⟩:=hv;obtain⟨_,_,_,_,_,_,_,_,_,_,hv,_⟩:=hv;obtain⟨g7,t7,c7,_,_,_,qe,qn,z6,qh,hv,_⟩:=hv;obtain⟨g0,t0,c0,_,_,_,qd,qy,qj,qi,hv,_⟩:=hv;obtain⟨g2,t2,c2,_,_,_,q9,qv,qf,z1,hv,_⟩:=hv;obtain⟨_,_,_,_,_,_,_,_,_,_,hv,_⟩:=hv;obtain⟨g3,t3,c3,_,_,_,q8,qu,qw,qm,_,_⟩:=hv;obtain rfl:=AI ((show Tryz.prog.globalNamed "math/bits.deBruijn64tab" = some 11 by kernel_rfl).symm.trans qb);obtain rfl:=AI ((show Tryz.prog.globalNamed "internal/strconv.uint64pow10" = some 5 by kernel_rfl).symm.trans q7);obtain rfl:=AI ((show Tryz.prog.globalNamed "unicode/utf8.acceptRanges" = some 2 by kernel_rfl).symm.trans q0);obtain rfl:=AI ((show Tryz.prog.globalNamed "amend/text.words" = some 0 by kernel_rfl).symm.trans qd);obtain rfl:=AI ((show Tryz.prog.globalNamed "amend/text.escapes" = some 7 by kernel_rfl).symm.trans q9);obtain rfl:=AI ((show Tryz.prog.globalNamed "unicode/utf8.first" = some 1 by kernel_rfl).symm.trans q8);obtain rfl:=AI ((show Tryz.prog.globalNamed "strconv.ErrRange" = some 9 by kernel_rfl).symm.trans q5);obtain rfl:=AI ((show Tryz.prog.globalNamed "amend/pointer.escapes" = some 4 by kernel_rfl).symm.trans qe);obtain rfl:=AI ((show (Tryz.prog.globals[9]?).map (·.type)=some 162 by kernel_rfl).symm.trans qt)
 obtain rfl:=AI ((show (Tryz.prog.globals[4]?).map (·.type)=some 256 by kernel_rfl).symm.trans qn)
 obtain rfl:=AI ((show (Tryz.prog.globals[5]?).map (·.type)=some 312 by kernel_rfl).symm.trans z7)
 obtain rfl:=AI ((show (Tryz.prog.globals[2]?).map (·.type)=some 210 by kernel_rfl).symm.trans qz)
 obtain rfl:=AI ((show (Tryz.prog.globals[0]?).map (·.type)=some 165 by kernel_rfl).symm.trans qy)
 obtain rfl:=AI ((show (Tryz.prog.globals[7]?).map (·.type)=some 335 by kernel_rfl).symm.trans qv)
 obtain rfl:=AI ((show (Tryz.prog.globals[1]?).map (·.type)=some 207 by kernel_rfl).symm.trans qu)
 have e1:=(Dd underlying312 (by kernel_rfl) DA (Lq underlying252) qk).trans Uj;have e4:=(Dd underlying210 (by kernel_rfl) Ey (K9 underlying209 (by kernel_rfl) rfl rfl underlying5 underlying5 (by kernel_rfl) (by kernel_rfl)) qx).trans Um;have e0:=(Dd underlying165 (by kernel_rfl) DA (Mo underlying9) qi).trans PX;have e2:=(Dd underlying335 (by kernel_rfl) Ey (K9 underlying334 (by kernel_rfl) rfl rfl underlying5 underlying21 (by kernel_rfl) (by kernel_rfl)) z1).trans Ul;have e3:=(Dd underlying207 (by kernel_rfl) DA (Lq underlying5) qm).trans PZ;have e7:=(Dd underlying256 (by kernel_rfl) Ey (PC underlying255 (by kernel_rfl) rfl rfl underlying9 underlying5 (by kernel_rfl) (by kernel_rfl)) qh).trans RX;obtain⟨_,te,pe,e5,_⟩:=iface_of_trod underlying162 qp;refine⟨?_,?_,?_,⟨fun c hc=>?_,fun i hi=>⟨?_,?_⟩⟩,?_,?_,?_,?_,q4⟩
 ·obtain⟨t,fr,e⟩:=Ep qb qr rfl
  grind
 ·obtain⟨t,fr,e⟩:=Ep q9 qf e2
  simp_all
 ·obtain⟨t,fr,e⟩:=Ep qd qj e0
  simp_all
 ·rw[A5 q8 qw,<- AT,e3,CR,A6 hc];rfl
 ·rw[A5 q0 q6,<- AT,e4,CR,A6 (by omega),G2,if_pos (by omega),show 2*i / 2=i by omega]
 ·rw[A5 q0 q6,<- AT,e4,CR,A6 (by omega),G2,if_neg (by omega),show (2*i+1) / 2=i by omega]
 ·exact Ep q7 qq e1
 ·obtain⟨t,fr,e⟩:=Ep qe z6 e7;exact⟨t,fr,by omega⟩
 ·refine⟨.iface te pe,?_,Or.inr ⟨te,pe,rfl⟩⟩;rw[A5 q5 qo,<- AT,e5];rfl
 ·exact cell_of_shapedOpen_int (k:=.i64) (t:=3) (zero:=#[.int .i64 0]) qg (by grind) (by kernel_rfl) rfl (by kernel_rfl) (by kernel_rfl) underlying3
section
variable{H:Type}{enc:C2×AS->H}{P:Program}
theorem LA(hl:laidOutB P=true){W W':A4}(hb:Below W.heap.size W W'){sp:Nat->Bool}:∀ {ts:List C2} {vs:List AS} {ds:List (D0 H)} {ps:List D3},(∀t∈ts,P.readableRec t=true/\t<P.types.size) ->
  A3 enc P W 0 (fun _=>true) true ts vs ds ps->(∀x∈ps,x.block<W.heap.size)->(∀x∈ps,sp x.block=true)->A3 enc P W' 0 sp true ts vs ds ps
 | [],_,_,_,_,h,_,_=>by
  obtain⟨rfl,rfl,rfl⟩:=trodAll_nil h;rfl
 | t::ts,_,_,_,hr,h,hlt,hs=>by
  obtain⟨v,q6,d,q5,a,b,rfl,rfl,rfl,h1,h2⟩:=trodAll_cons h;obtain⟨q4,q0⟩:=hr t List.mem_cons_self;exact trodAll_cons_mk (WideElems.Trod_stays hl q4 q0 h1 (fun x hx=>hb.same (hlt x (DD _ hx))) (fun x hx=>hs x (DD _ hx)))
   (LA hl hb (fun t ht=>hr t (List.mem_cons_of_mem _ ht)) h2 (fun x hx=>hlt x (Dt _ hx)) (fun x hx=>hs x (Dt _ hx)))
theorem LM{f:Func}{s:ChangeSpec}{apart fresh q4 q7:Bool}{W':A4}{args:Array AS}{v:AS}{ds gs:List (D0 H)}{q0:List D3}(hl:laidOutB P=true)(hr:∀t∈f.params.toList,P.readableRec t=true/\t<P.types.size)(qf:s.vars=[])(hW:HC enc P f.params.toList s.vars apart W args.toList ds gs q0)(hb:Below W.heap.size W W')(q5:∀ (b:Nat) (sp:Nat->Bool) (hd:Bool),A3 enc P W' b sp hd f.resultTypes.toList (v.resultList f.resultTypes.size) (s.fn H (ds++gs)).results [])(q6:(s.fn H (ds++gs)).args=ds)(q8:(s.fn H (ds++gs)).vars=[])(qi:∀ (j:Nat) (t:C2) (r:AS),f.resultTypes[j]? = some t->(v.resultList f.resultTypes.size)[j]? = some r->HB P W' .any 0 t r):
  s.post enc P f apart fresh q4 q7 W args v W':=by
 have hlt:∀p∈q0,p.block<W.heap.size:=fun p hp=>by simpa using hW.lt p hp
 have hold:∀p∈q0,(fun b=>decide (b<W.heap.size)) p.block=true:=by grind
 have qh:=hW;obtain⟨p,q,qg,hV,qe,hz,hn⟩:=qh;have hA:A3 enc P W 0 (fun _=>true) true f.params.toList args.toList ds p:=qg;rw[qf] at hV;obtain⟨rfl,rfl⟩:=trodVars_none hV;rw[List.append_nil] at qe;subst qe;have q9:∀sp:Nat->Bool,(∀p∈q0,sp p.block=true)->A3 enc P W' 0 sp true f.params.toList args.toList (s.fn H (ds++[])).args q0:=fun sp hs=>by
  rw[q6];exact LA hl hb hr hA hlt hs
 have qb:∀sp:Nat->Bool,DataW.TrodVars enc P W' sp s.vars (s.fn H (ds++[])).vars []:=fun sp=>by rw[qf,q8];exact rfl
 refine⟨ds,[],q0,[],q0,[],hW,q5 _ _ _,q9 _ hold,qb _,hb.frame _,fun _=>?_⟩;refine⟨qi,_,_,([]++q0)++[],⟨[]++q0,[],trodAll_append (q9 _ (fun _ _=>rfl)) (q5 _ _ _),qb _,rfl,?_,?_⟩,?_⟩
 ·intro b off hp;have qd:MemPlace.cell b off∈q0:=by grind
  rw[hb.frozen (p:=⟨b,off,none⟩) (hlt _ qd)];exact hz b off qd
 ·grind
 grind
end
theorem YG{enc:C2×AS->H}{C:Checked}{os:Os}{f:FuncId}{fn:Func}{s:ChangeSpec}{q7:List PathCond}{apart fresh q4 q6:Bool}{laid:List (String×D0 Unit)}(own:ownKnob C.prog.godebug=none)(q5:os.Started)(q8:C.prog.inits.idxOf? f=none)(q9:C.prog.funcs[f]? = some fn)(qb:∃ (w:A4) (tape:Tape) (i:Input),w.os=os/\(w.forCall tape i).Shaped C.prog/\i.vars=[]/\Input.okWide C.prog (w.forCall tape i) .any w.heap.size f i /\
   ((s.pre enc C.prog fn q7 apart (w.forCall tape i).memory i.args/\E0 C.prog laid (w.forCall tape i).memory)/\sizedMet enc C.prog fn (C1 s) apart (w.forCall tape i).memory i.args)/\({}:Assume).holds C.prog (lone (Frame.enter C.prog f i.args .normal) [] (w.forCall tape i)))(go:∀ (W:A4) (base:Nat) (args:Array AS) (ds gs:List (D0 H)) (q0:List D3),(∀ (j:Nat) t v,fn.params[j]? = some t->args[j]? = some v->HB C.prog W .any base t v) ->
   HC enc C.prog fn.params.toList s.vars apart W args.toList ds gs q0->(DataW.weightsEach C.prog (fn.params.toList++s.plain.varTypes C.prog) (ds++gs)).all (· <= reachBytes)=true->E0 C.prog laid W->W.ShapedOpen C.prog ->
   Calls C.prog f args W fun e W'=>∃v,e=.returned v/\s.post enc C.prog fn apart fresh q4 q6 W args v W'):
  ReturnsInHanded {} C os f .any (fun w args=>(s.pre enc C.prog fn q7 apart w args/\E0 C.prog laid w)/\sizedMet enc C.prog fn (C1 s) apart w args) (s.post enc C.prog fn apart fresh q4 q6):=
 returnsInHanded_of_row (s:=C1 s) (F:=fun _ _ _=>0) own q5 q8 q9 qb fun W base args ds gs q0 h1 h2 _ _ h5 h6 h7 _=>go W base args ds gs q0 h1 h2 h5 h6 h7
end Go.Proofs.YtdpomdelmdofmaaGreatDoor
