import Derived.Lib.DecodeN
import Derived.Lib.RuneBytes
import Derived.Lib.ItoaNum
import Derived.Lib.TrimByte
import GoSem.ClaimWide
import Derived.Test.YtdpomdelmdofmaaGreatDoorProg
import Derived.WalkKit
import Derived.WalkSpells
import Derived.WalkLawsBesides
import Derived.BigQuiet
import Derived.Deep.QuietTactic
import Derived.Shelf.Unicode.DecodeSlow
import Derived.Shelf.Strconv.Itoa3
import Derived.Test.YtdpomdelmdofmaaGreatDoorRows
import Derived.ProofKit
import Derived.OpenShut
import Derived.LaidMore
import Derived.Lay
import Derived.Carry
import Derived.Stop.Joined
import Derived.LaidLaws
import Derived.Shelf.Vars
import Derived.Deep.DeepHandedRow
import Derived.JoinedOf
open Option.some renaming inj->AI
open Go renaming World->AS,Value->AT,Program->CH,TypeId->Dp,DataW->D1,MemPlace->E0,laidMetH->Ft
open Array renaming getElem?_toList->A1
open Go.DataW renaming trod->A2,TrodAll->A4,trod_int->Bs,trod_string->CL,trod_struct->CR,trod_array->F2,trod_bool->G0,Whole->HB
open Go.World renaming setCell->A3,var?_cell->A5,cell?->CD
open List renaming getElem?_range->A6,getElem?_map->C1,mem_append_right->DD,mem_append_left->D0,drop_drop->G2,range->HC
open Go.MakeChecks renaming laidMetH_plain->BY
open Go.OpenSpec renaming ofChange->C2
open List.cons renaming injEq->Dt
open Prod.mk renaming injEq->D2,inj->F7
open Go.RowKit.Below renaming heap_setCell->D3,heap_alloc->FD
open Go.Value renaming int->F1,okWide->HA
open Go.Proofs.Tryz renaming prog->F5
open Option renaming map_some->G1
open Nat renaming le_trans->G3
set_option maxRecDepth 100000
namespace Go.Proofs.YtdpomdelmdofmaaGreatDoor
open Go.Proofs.Tryz Go.RowKit Go.ChangeShapes Go.WideShapes Go.ChangeAt
variable{X base e:Nat}{a w' W:AS}{c:UInt8}{spare:Nat->Bool}{held:Bool}{f0 f1:Field}
abbrev By:=List UInt8
def jC(c:UInt8):Bool:=c==32 || c==9 || c==10 || c==13
def fK(c:UInt8):Bool:=decide (48<=c.toNat) && decide (c.toNat<=57)
def eS(l:By):Nat:=match l with|[]=>0|c::_=>c.toNat
def eA(l:By)(c:UInt8):Bool:=match l with|[]=>false|d::_=>d==c
def eF:By->By
 | []=>[]
 | c::r=>if jC c then eF r else c::r
def dg:By->By
 | []=>[]
 | c::r=>if fK c then c::dg r else []
def fQ:By->By
 | []=>[]
 | c::r=>if fK c then fQ r else c::r
def Dq(l:By):Option (By×By):=
 if eA l 46 then (if dg l.tail=[] then none else some (dg l.tail,fQ l.tail)) else some ([],l)
def B5:By->Int->Int
 | [],n=>n
 | c::r,n=>B5 r (min (10*n+((c.toNat:Int)-48)) 1000000)
def Cb(l:By):Option (Int×By):=
 if eA l 101 || eA l 69 then
  (if eA l.tail 45 then (if dg l.tail.tail=[] then none else some (- B5 (dg l.tail.tail) 0,fQ l.tail.tail))
   else if eA l.tail 43 then (if dg l.tail.tail=[] then none else some (B5 (dg l.tail.tail) 0,fQ l.tail.tail))
   else (if dg l.tail=[] then none else some (B5 (dg l.tail) 0,fQ l.tail)))
 else some (0,l)
abbrev Nm:=Bool×By×Int
def C0(ng:Bool)(ds:By)(e:Int):Nm:=
 let d:=Lib.trimLeftB ds 48
 let w:=Lib.trimRightB d 48
 if w=[] then (false,[],0) else (ng,w,e+d.length-w.length)
def CC(ng:Bool)(l:By):Option (Nm×By):=
 if dg l=[] || (eA l 48 && decide (1<(dg l).length)) then none
 else match Dq (fQ l) with
  | none=>none
  | some (f,r)=>match Cb r with
   | none=>none
   | some (e,r')=>some (C0 ng (dg l++f) (e-f.length),r')
def gO(l:By):Option (Nm×By):=if eA l 45 then CC true l.tail else CC false l
def Eu(c:Nat):Option Nat:=
 if 48<=c/\c<=57 then some (c-48) else if 97<=c/\c<=102 then some (c-97+10) else if 65<=c/\c<=70 then some (c-65+10) else none
def Ce:Nat->Nat->By->Option (Nat×By)
 | 0,n,l=>some (n,l)
 | k+1,n,l=>match Eu (eS l) with
  | none=>none
  | some d=>Ce k (n*16+d) l.tail
def B8(l:By):Option (Nat×By):=
 match Ce 4 0 l with
 | none=>none
 | some (a,r)=>
  if a<55296\/57344<=a then some (a,r)
  else if 56320<=a then none
  else if eA r 92 then (if eA r.tail 117 then
   (match Ce 4 0 r.tail.tail with
    | none=>none
    | some (b,r')=>if b<56320\/57344<=b then none else some (65536+(a-55296)*1024+(b-56320),r'))
   else none) else none
def F0:List (UInt8×Nat):=[(34,34),(92,92),(47,47),(98,8),(102,12),(110,10),(114,13),(116,9)]
def Ev(l:By):List (UInt8×Nat)->Option (Nat×By)
 | []=>none
 | (c,n)::r=>if eA l c then some (n,l.tail) else Ev l r
def gZ(l:By):Option (Nat×By):=if eA l 117 then B8 l.tail else Ev l F0
def fG(l:By):Nat×Nat:=if l.length=0 then (65533,0) else Utf8.decode ⟨l.toArray⟩ 0
def fS(l:By):Option (Nat×By):=
 if eA l 92 then gZ l.tail
 else if (fG l).1<32\/((fG l).1=65533/\(fG l).2<2) then none else some ((fG l).1,l.drop (fG l).2)
def C5:Nat->By->Option (By×By)
 | 0,_=>none
 | f+1,l=>if eA l 34 then some ([],l.tail) else match fS l with
  | none=>none
  | some (c,r)=>match C5 f r with
   | none=>none
   | some (s,r')=>some (Lib.encodeRune c++s,r')
def gG(l:By):Option (By×By):=if eA l 34 then C5 (l.length+1) l.tail else none
theorem Ab{p:Prop}(h:p):Hid p:=h
theorem Aa{p:Prop}(h:Hid p):p:=h
theorem UP(w:AS)(a b:Nat):(w.drewN a).drewN b=w.drewN (a+b):=by simp_all
structure Ae(X:Nat)(w w':AS):Prop where
 os:w'.os=w.os
 tape:w'.tape=w.tape
 output:w'.output=w.output
 size:w.heap.size<=w'.heap.size
 block:∀k,k<w.heap.size->k≠X->w'.heap[k]? = w.heap[k]?
theorem Ae.refl(X:Nat)(w:AS):Ae X w w:=⟨rfl,rfl,rfl,Nat.le_refl _,fun _ _ _=>rfl⟩
theorem Ae.trans{b c:AS}(h:Ae X a b)(k:Ae X b c):Ae X a c:=
 ⟨k.os.trans h.os,k.tape.trans h.tape,k.output.trans h.output,G3 h.size k.size,fun i hi hx=>(k.block i (Nat.lt_of_lt_of_le hi h.size) hx).trans (h.block i hi hx)⟩
theorem Ae.drewN{w:AS}(h:Ae X a w)(n:Nat):Ae X a (w.drewN n):=⟨h.os,h.tape,h.output,h.size,h.block⟩
theorem Ae.drew{w:AS}(h:Ae X a w):Ae X a w.drew:=⟨h.os,h.tape,h.output,h.size,h.block⟩
theorem Ae.alloc{w:AS}(h:Ae X a w)(o:Obj):Ae X a (w.alloc o):=
 h.trans ⟨rfl,rfl,rfl,by simp,fun k hk _=>FD _ _ _ hk⟩
theorem Ae.setCell{w:AS}(h:Ae X a w){p:Addr}(hp:p.block=X)(u:AT):Ae X a (w.setCell p u):=
 h.trans ⟨rfl,rfl,rfl,by simp_all,fun k _ hx=>D3 _ _ _ _ (by omega)⟩
theorem Ae.setCell_new{w:AS}(h:Ae X a w){p:Addr}(hp:a.heap.size<=p.block)(u:AT):Ae X a (w.setCell p u):=
 ⟨h.os,h.tape,h.output,by simpa[A3] using h.size,fun k hk hx=>(D3 _ _ _ _ (by omega)).trans (h.block k hk hx)⟩
theorem Ae.of_below{w:AS}(h:Below w.heap.size w w'):Ae X w w':=⟨h.os,h.tape,h.output,h.size,fun k hk _=>h.block k hk⟩
theorem Ae.below{B:Nat}{w:AS}(h:Ae X w w')(hB:B<=X)(hs:B<=w.heap.size):Below B w w':=
 ⟨h.os,h.tape,h.output,h.size,fun k hk=>h.block k (by omega) (by omega)⟩
theorem Ae.cell{w:AS}(h:Ae X w w'){p:Addr}(hp:p.block<w.heap.size)(hx:p.block≠X):w'.cell? p=w.cell? p:=World.cell?_of_block (w:=w) (h.block p.block hp hx)
def RP(w:AS)(R:Nat)(t:ByteArray)(p:Nat)(tw:Bool)(dp fr:Int):Prop:=
 w.heap[R]? = some (.cells #[.string t,.int .i64 p,.bool tw,.int .i64 dp,.int .i64 fr] 155 (0,0))
section
variable{w:AS}{R:Nat}{t:ByteArray}{p:Nat}{tw:Bool}{dp fr:Int}
theorem RP.lt(h:RP w R t p tw dp fr):R<w.heap.size:=(Array.getElem?_eq_some_iff.1 h).1
theorem RP.c0(h:RP w R t p tw dp fr):w.cell? ⟨R,0,none⟩=some (.string t):=by simp[CD,show w.heap[R]? = _ from h]
theorem RP.c1(h:RP w R t p tw dp fr):w.cell? ⟨R,1,none⟩=some (.int .i64 p):=by simp[CD,show w.heap[R]? = _ from h]
theorem RP.c2(h:RP w R t p tw dp fr):w.cell? ⟨R,2,none⟩=some (.bool tw):=by simp[CD,show w.heap[R]? = _ from h]
theorem RP.c3(h:RP w R t p tw dp fr):w.cell? ⟨R,3,none⟩=some (.int .i64 dp):=by simp[CD,show w.heap[R]? = _ from h]
theorem RP.c4(h:RP w R t p tw dp fr):w.cell? ⟨R,4,none⟩=some (.int .i64 fr):=by simp[CD,show w.heap[R]? = _ from h]
theorem RP.fz(h:RP w R t p tw dp fr)(o:Nat):w.frozen? ⟨R,o,none⟩=false:=by simp[World.frozen?,show w.heap[R]? = _ from h]
theorem RP.drewN(h:RP w R t p tw dp fr)(n:Nat):RP (w.drewN n) R t p tw dp fr:=h
theorem RP.drew(h:RP w R t p tw dp fr):RP w.drew R t p tw dp fr:=h
theorem RP.alloc(h:RP w R t p tw dp fr)(o:Obj):RP (w.alloc o) R t p tw dp fr:=(FD _ _ _ h.lt).trans h
theorem RP.set1(h:RP w R t p tw dp fr)(q:Nat):RP (w.setCell ⟨R,1,none⟩ (.int .i64 q)) R t q tw dp fr:=by
 grind [RP,A3]
theorem RP.set2(h:RP w R t p tw dp fr)(q:Bool):RP (w.setCell ⟨R,2,none⟩ (.bool q)) R t p q dp fr:=by
 grind [RP,A3]
theorem RP.set3(h:RP w R t p tw dp fr)(q:Int):RP (w.setCell ⟨R,3,none⟩ (.int .i64 q)) R t p tw q fr:=by
 grind [RP,A3]
theorem RP.set4(h:RP w R t p tw dp fr)(q:Int):RP (w.setCell ⟨R,4,none⟩ (.int .i64 q)) R t p tw dp q:=by
 simp only[RP,A3,Array.getElem?_modify]
 grind [RP,A3]
theorem RP.kept(h:RP w R t p tw dp fr)(hk:Ae X w w')(hx:R≠X):RP w' R t p tw dp fr:=(hk.block R h.lt hx).trans h
end
theorem MT(t:ByteArray)(p:Nat)(h:p<t.size):t.data.toList.drop p=t[p]::t.data.toList.drop (p+1):=by
 rw[List.drop_eq_getElem_cons (by simp_all)];rfl
structure At(t:ByteArray)(p:Nat)(l:By):Prop where
 small:t.size<=2000
 le:p<=t.size
 eq:t.data.toList.drop p=l
theorem At.len{t:ByteArray}{p:Nat}{l:By}(h:At t p l):l.length=t.size-p:=by rw[<- h.eq];simp
theorem At.lt{t:ByteArray}{p:Nat}{l:By}(h:At t p (c::l)):p<t.size:=by
 have:=h.len;grind
theorem At.byte{t:ByteArray}{p:Nat}{l:By}(h:At t p (c::l)):t[p]'h.lt=c:=by
 have h1:=h.eq;rw[MT t p h.lt] at h1;grind
theorem At.next{t:ByteArray}{p:Nat}{l:By}(h:At t p (c::l)):At t (p+1) l:=
 ⟨h.small,h.lt,by have h1:=h.eq;rw[MT t p h.lt] at h1;grind⟩
theorem At.nil{t:ByteArray}{p:Nat}(h:At t p []):p=t.size:=by have h1:=h.len;have h2:=h.le;grind
theorem At.add{t:ByteArray}{p:Nat}{l:By}(h:At t p l)(n:Nat)(hn:n<=l.length):At t (p+n) (l.drop n):=
 ⟨h.small,by have:=h.len;have:=h.le;omega,by rw[<- h.eq,G2]⟩
section
variable{t:ByteArray}{p:Nat}
end
def RD(w:AS)(R:Nat)(t:ByteArray)(l:By)(tw:Bool)(dp fr:Int):Prop:=∃p,At t p l/\RP w R t p tw dp fr
theorem RD.lt{w:AS}{R:Nat}{t:ByteArray}{l:By}{tw:Bool}{dp fr:Int}(h:RD w R t l tw dp fr):R<w.heap.size:=by obtain⟨p,_,h⟩:=h;exact h.lt
theorem RD.drewN{w:AS}{R:Nat}{t:ByteArray}{l:By}{tw:Bool}{dp fr:Int}(h:RD w R t l tw dp fr)(n:Nat):RD (w.drewN n) R t l tw dp fr:=h
theorem RD.alloc{w:AS}{R:Nat}{t:ByteArray}{l:By}{tw:Bool}{dp fr:Int}(h:RD w R t l tw dp fr)(o:Obj):RD (w.alloc o) R t l tw dp fr:=by obtain⟨p,a,h⟩:=h;exact⟨p,a,h.alloc o⟩
theorem RD.kept{w:AS}{R:Nat}{t:ByteArray}{l:By}{tw:Bool}{dp fr:Int}(h:RD w R t l tw dp fr)(hk:Ae X w w')(hx:R≠X):RD w' R t l tw dp fr:=by obtain⟨p,a,h⟩:=h;exact⟨p,a,h.kept hk hx⟩
def left(w:AS)(R:Nat):Nat:=
 match w.heap[R]? with
 | some (.cells cs _ _)=>(match cs.toList with|(.string t)::(.int _ p)::_=>t.size-p.toNat|_=>0)
 | _=>0
theorem RD.left{w:AS}{R:Nat}{t:ByteArray}{l:By}{tw:Bool}{dp fr:Int}(h:RD w R t l tw dp fr):left w R=l.length:=by
 obtain⟨p,a,h⟩:=h;simp[Go.Proofs.YtdpomdelmdofmaaGreatDoor.left,show w.heap[R]? = _ from h,a.len]
abbrev NG:Nat:=12
def Cp:Array AT:=#[.int .u8 34,.int .i32 34,.int .u8 92,.int .i32 92,.int .u8 47,.int .i32 47,.int .u8 98,.int .i32 8,.int .u8 102,.int .i32 12,.int .u8 110,.int .i32 10,.int .u8 114,.int .i32 13,.int .u8 116,.int .i32 9]
def Cv:Array AT:=#[.string ⟨#[110,117,108,108]⟩,.string ⟨#[116,114,117,101]⟩,.string ⟨#[102,97,108,115,101]⟩]
def E5:Array AT:=#[.string ⟨#[126,48]⟩,.int .u8 126,.string ⟨#[126,49]⟩,.int .u8 47]
def ET(w:AS):Prop:=∃t fr,w.heap[4]? = some (.cells E5 t fr)
def CB:Array AT:=#[.string ⟨#[97,100,100]⟩,.bool true,.bool false,.string ⟨#[114,101,109,111,118,101]⟩,.bool false,.bool false,.string ⟨#[114,101,112,108,97,99,101]⟩,.bool true,.bool false,
 .string ⟨#[109,111,118,101]⟩,.bool false,.bool true,.string ⟨#[99,111,112,121]⟩,.bool false,.bool true,.string ⟨#[116,101,115,116]⟩,.bool true,.bool false]
def H9(w:AS):Prop:=∃t fr,w.heap[3]? = some (.cells CB t fr)
def Rng(w:AS):Prop:=∃ev,w.cell? ⟨9,0,none⟩=some ev/\(ev=.nilIface \/ ∃te pe,ev=.iface te pe)
def Mx(w:AS):Prop:=∃m,w.cell? ⟨6,0,none⟩=some (.int .i64 m)
structure Ai(w:AS):Prop where
 ng:NG<=w.heap.size
 esc:∃t fr,w.heap[7]? = some (.cells Cp t fr)
 words:∃t fr,w.heap[0]? = some (.cells Cv t fr)
 utf8:Lib.Utf8Tabs 1 2 w
 pow:∃t fr,w.heap[5]? = some (.cells (Lib.pow10Tab.map fun z=>F1 .u64 z).toArray t fr)
 pesc:ET w
 rng:Rng w
 mx:Mx w
 otab:H9 w
theorem Ai.below{w:AS}(h:Ai w)(hb:Below NG w w'):Ai w':=by
 have hc:∀g o,g<NG->w'.cell? ⟨g,o,none⟩=w.cell? ⟨g,o,none⟩:=fun g o hg=>hb.cell (p:=⟨g,o,none⟩) hg;refine⟨G3 h.ng hb.size,?_,?_,⟨fun c q0=>by rw[hc _ _ (by decide)];exact h.utf8.1 c q0,fun i hi=>⟨by rw[hc _ _ (by decide)];exact (h.utf8.2 i hi).1,by rw[hc _ _ (by decide)];exact (h.utf8.2 i hi).2⟩⟩,?_,?_,?_,?_,?_⟩
 ·obtain⟨t,fr,e⟩:=h.esc;exact⟨t,fr,(hb.block _ (by decide)).trans e⟩
 ·obtain⟨t,fr,e⟩:=h.words;exact⟨t,fr,(hb.block _ (by decide)).trans e⟩
 ·obtain⟨t,fr,e⟩:=h.pow;exact⟨t,fr,(hb.block _ (by decide)).trans e⟩
 ·obtain⟨t,fr,e⟩:=h.pesc;exact⟨t,fr,(hb.block _ (by decide)).trans e⟩
 ·obtain⟨ev,h1,h2⟩:=h.rng;exact⟨ev,by grind,h2⟩
 ·obtain⟨m,h1⟩:=h.mx;exact⟨m,by grind⟩
 ·obtain⟨t,fr,e⟩:=h.otab;exact⟨t,fr,(hb.block _ (by decide)).trans e⟩
theorem Ai.kept{w:AS}(h:Ai w)(hk:Ae X w w')(hX:NG<=X):Ai w':=h.below (hk.below hX h.ng)
def DV{H:Type}:D1 H->List AT
 | .lit (.int k z)=>[.int k z]
 | .lit (.string s)=>[.string ⟨s.toArray⟩]
 | _=>[]
def EY{H:Type}:D1 H->List AT
 | .agg [a,b]=>DV a++DV b
 | _=>[]
theorem Vc{α β:Type}(F:β->List α)(c:Nat):∀ (ds:List β) (l:List α),l.length=ds.length*c->(∀r x,ds[r]? = some x->(l.drop (r*c)).take c=F x)->l=ds.flatMap F
 | [],l,h,_=>by simp_all
 | d::ds,l,h,hx=>by
  have h0:=hx 0 d rfl;simp only[Nat.zero_mul,List.drop_zero] at h0;have hr:=Vc F c ds (l.drop c) (by rw[List.length_drop,h,List.length_cons,Nat.succ_mul];omega) (fun r x hr=>by
   have:=hx (r+1) x hr;rw[G2]
   grind)
  rw[List.flatMap_cons,<- h0,<- hr,List.take_append_drop]
theorem P8{H:Type}{enc:Dp×AT->H}{P:CH}{w:AS}{q0:Nat}{t n:Nat}{cs:List AT}{ds:List (D1 H)}{q:List E0}(ht:P.underlying t=some (.array n e))(hc:P.cellsOf t=n*P.cellsOf e)(F:D1 H->List AT)(hF:∀m l d p,A2 enc P w base spare held m e l=some (d,p)->l=F d)(h:A2 enc P w base spare held q0 t cs=some (.agg ds,q)):cs=ds.flatMap F:=by
 obtain⟨xs,m,_,ex,hl,hn,q4⟩:=F2 ht h;have ed:ds=xs.map (·.1):=by grind
 subst ed;refine Vc F (P.cellsOf e) _ cs (by grind) fun r x hr=>?_
 grind
theorem MK{H:Type}{enc:Dp×AT->H}{P:CH}{w:AS}{k:IntKind}(he:P.underlying e=some (.int k)):
  ∀m l d p,A2 enc P w base spare held m e l=some (d,p)->l=DV d:=by
 intro m l d p h;obtain⟨z,rfl,ex,_⟩:=Bs he h;rw[(F7 ex).1];rfl
theorem NU{H:Type}{enc:Dp×AT->H}{P:CH}{w:AS}(he:P.underlying e=some .string):
  ∀m l d p,A2 enc P w base spare held m e l=some (d,p)->l=DV d:=by
 intro m l d p h;obtain⟨s,rfl,ex,_⟩:=CL he h;rw[(F7 ex).1];rfl
theorem Mo{H:Type}{enc:Dp×AT->H}{P:CH}{w:AS}{k0 k1:IntKind}(he:P.underlying e=some (.struct #[f0,f1]))(ce:P.cellsOf e=2)(o0:f0.offset=0)(o1:f1.offset=1)(u0:P.underlying f0.type=some (.int k0))(u1:P.underlying f1.type=some (.int k1))(c0:P.cellsOf f0.type=1)(c1:P.cellsOf f1.type=1):
  ∀m l d p,A2 enc P w base spare held m e l=some (d,p)->l=EY d:=by
 intro m l d p h;obtain⟨xs,m',_,ex,hl,hn,q0⟩:=CR he h;rw[ce] at hl
 match l,hl,xs,hn with
 | [v0,v1],_,[y0,y1],_=>
  have g0:=q0 0 f0 rfl;have g1:=q0 1 f1 rfl;simp[o0,o1,c0,c1] at g0 g1;obtain⟨z0,e0,x0,_⟩:=Bs u0 g0;obtain⟨z1,e1,x1,_⟩:=Bs u1 g1;simp only[D2] at ex;simp only[Dt,and_true] at e0 e1;simp[ex.1,e0,e1,x0,x1,EY,DV]
theorem Rq{H:Type}{enc:Dp×AT->H}{P:CH}{w:AS}{k1:IntKind}(he:P.underlying e=some (.struct #[f0,f1]))(ce:P.cellsOf e=2)(o0:f0.offset=0)(o1:f1.offset=1)(u0:P.underlying f0.type=some .string)(u1:P.underlying f1.type=some (.int k1))(c0:P.cellsOf f0.type=1)(c1:P.cellsOf f1.type=1):
  ∀m l d p,A2 enc P w base spare held m e l=some (d,p)->l=EY d:=by
 intro m l d p h;obtain⟨xs,m',_,ex,hl,hn,q0⟩:=CR he h;rw[ce] at hl
 match l,hl,xs,hn with
 | [v0,v1],_,[y0,y1],_=>
  have g0:=q0 0 f0 rfl;have g1:=q0 1 f1 rfl;simp[o0,o1,c0,c1] at g0 g1;obtain⟨z0,e0,x0,_⟩:=CL u0 g0;obtain⟨z1,e1,x1,_⟩:=Bs u1 g1;simp only[D2] at ex;simp only[Dt,and_true] at e0 e1;simp[ex.1,e0,e1,x0,x1,EY,DV]
theorem EQ{P:CH}{w:AS}{n:String}{g:Nat}{cs:Array AT}{l:List AT}(hg:P.globalNamed n=some g)(h:w.var? P n=some cs)(hl:cs.toList=l):∃t fr,w.heap[g]? = some (.cells l.toArray t fr):=by
 subst hl;simp only[World.var?,hg,Option.bind_some] at h;split at h
 ·simp_all
 ·cases h
theorem own:ownKnob Tryz.prog.godebug=none:=by kernel_rfl
theorem YU:laidOutB F5=true:=by kernel_rfl
theorem WD:(match Rows.laid_unicode_utf8_acceptRanges (H:=Unit) with | .agg ds=>ds.flatMap EY|_=>[])=(HC 32).map (fun j=>F1 .u8 (((if j % 2=0 then Lib.accLo (j / 2) else Lib.accHi (j / 2)):Nat):Int)):=by kernel_rfl
theorem RO:(match Rows.laid_unicode_utf8_first with | .agg ds=>ds.flatMap DV|_=>[])=(HC 256).map (fun c=>F1 .u8 ((Lib.firstT c:Nat):Int)):=by kernel_rfl
theorem WA:(match Rows.laid_internal_strconv_uint64pow10 (H:=Unit) with | .agg ds=>ds.flatMap DV|_=>[])=Lib.pow10Tab.map fun z=>F1 .u64 z:=by kernel_rfl
theorem RM:(match Rows.laid_amend_text_words (H:=Unit) with | .agg ds=>ds.flatMap DV|_=>[])=Cv.toList:=by kernel_rfl
theorem WC:(match Rows.laid_amend_text_escapes (H:=Unit) with | .agg ds=>ds.flatMap EY|_=>[])=Cp.toList:=by kernel_rfl
theorem Ue:(match Rows.laid_amend_pointer_escapes (H:=Unit) with | .agg ds=>ds.flatMap EY|_=>[])=E5.toList:=by kernel_rfl
theorem Dv{H:Type}{enc:Dp×AT->H}{P:CH}{w:AS}{q0:Nat}{t n:Nat}{cs:List AT}{d:D1 H}{q:List E0}(ht:P.underlying t=some (.array n e))(hc:P.cellsOf t=n*P.cellsOf e)(F:D1 H->List AT)(hF:∀m l d p,A2 enc P w base spare held m e l=some (d,p)->l=F d)(h:A2 enc P w base spare held q0 t cs=some (d,q)):cs=(match d with | .agg ds=>ds.flatMap F|_=>[]):=by
 obtain⟨xs,_,_,ex,_⟩:=F2 ht h;obtain rfl:=(F7 ex).1;exact P8 ht hc F hF h
def NA{H:Type}:D1 H->List AT
 | .agg [.lit (.string s),.lit (.bool a),.lit (.bool b)]=>[.string ⟨s.toArray⟩,.bool a,.bool b]
 | _=>[]
theorem TM{H:Type}{enc:Dp×AT->H}{P:CH}{w:AS}{f2:Field}(he:P.underlying e=some (.struct #[f0,f1,f2]))(ce:P.cellsOf e=3)(o0:f0.offset=0)(o1:f1.offset=1)(o2:f2.offset=2)(u0:P.underlying f0.type=some .string)(u1:P.underlying f1.type=some .bool)(u2:P.underlying f2.type=some .bool)(c0:P.cellsOf f0.type=1)(c1:P.cellsOf f1.type=1)(c2:P.cellsOf f2.type=1):
  ∀m l d p,A2 enc P w base spare held m e l=some (d,p)->l=NA d:=by
 intro m l d p h;obtain⟨xs,m',_,ex,hl,hn,q0⟩:=CR he h;rw[ce] at hl
 match l,hl,xs,hn with
 | [v0,v1,v2],_,[y0,y1,y2],_=>
  have g0:=q0 0 f0 rfl;have g1:=q0 1 f1 rfl;have g2:=q0 2 f2 rfl;simp[o0,o1,o2,c0,c1,c2] at g0 g1 g2;obtain⟨z0,e0,x0,_⟩:=CL u0 g0;obtain⟨z1,e1,x1⟩:=G0 u1 g1;obtain⟨z2,e2,x2⟩:=G0 u2 g2;simp only[D2] at ex;simp only[Dt,and_true] at e0 e1 e2;simp[ex.1,e0,e1,e2,x0,x1,x2,NA]
theorem Ud:(match Rows.laid_amend_patch_operations (H:=Unit) with | .agg ds=>ds.flatMap NA|_=>[])=CB.toList:=by kernel_rfl
theorem WB(h:Ft F5 Rows.prefixRow.laid W):H9 W:=by
 rw[BY _ _ _ (by kernel_rfl)] at h;obtain⟨ps,hv,_,_⟩:=h;obtain⟨_,_,_,_,_,_,_,_,_,_,hv,_⟩:=hv;obtain⟨_,_,_,_,_,_,_,_,_,_,hv,_⟩:=hv;obtain⟨_,_,_,_,_,_,_,_,_,_,hv,_⟩:=hv;obtain⟨_,_,_,_,_,_,_,_,_,_,hv,_⟩:=hv;obtain⟨_,_,_,_,_,_,_,_,_,_,hv,_⟩:=hv;obtain⟨_,_,_,_,_,_,_,_,_,_,hv,_⟩:=hv;obtain⟨_,_,_,_,_,_,_,_,_,_,hv,_⟩:=hv;obtain⟨_,_,_,_,_,_,_,_,_,_,hv,_⟩:=hv;obtain⟨_,_,_,_,_,_,_,_,_,_,hv,_⟩:=hv;obtain⟨g8,t8,c8,_,_,_,q0,q5,q6,q4,hv,_⟩:=hv;obtain rfl:=AI ((show Tryz.prog.globalNamed "amend/patch.operations" = some 3 by kernel_rfl).symm.trans q0);obtain rfl:=AI ((show (Tryz.prog.globals[3]?).map (·.type)=some 220 by kernel_rfl).symm.trans q5)
 have e8:=(Dv underlying220 (by kernel_rfl) NA (TM underlying219 (by kernel_rfl) rfl rfl rfl underlying9 underlying4 underlying4 (by kernel_rfl) (by kernel_rfl) (by kernel_rfl)) q4).trans Ud;obtain⟨t,fr,e⟩:=EQ q0 q6 e8;exact⟨t,fr,by omega⟩
theorem RN(h:Ft F5 Rows.prefixRow.laid W)(qf:W.ShapedOpen F5):Ai W:=by
 have q4:=WB h;rw[BY _ _ _ (by kernel_rfl)] at h;obtain⟨ps,hv,_,_⟩:=h;obtain⟨_,_,_,_,_,_,_,_,_,_,hv,_⟩:=hv;obtain⟨g6,_,c6,_,_,_,qb,_,z6,_,hv,_⟩:=hv;obtain⟨g1,t1,c1,_,_,_,q6,qp,qx,qh,hv,_⟩:=hv;obtain⟨g4,t4,c4,_,_,_,q0,qt,qe,qk,hv,_⟩:=hv;obtain⟨g5,t5,c5,_,_,_,q9,qu,z1,qm,hv,_⟩:=hv;obtain⟨_,_,_,_,_,_,_,_,_,_,hv,_⟩:=hv;obtain⟨g7,t7,c7,_,_,_,qd,qv,z7,qn,hv,_⟩:=hv;obtain⟨g0,t0,c0,_,_,_,q5,qo,qw,qg,hv,_⟩:=hv;obtain⟨g2,t2,c2,_,_,_,q7,qq,qy,qi,hv,_⟩:=hv;obtain⟨_,_,_,_,_,_,_,_,_,_,hv,_⟩:=hv;obtain⟨g3,t3,c3,_,_,_,q8,qr,qz,qj,_,_⟩:=hv;obtain rfl:=AI ((show Tryz.prog.globalNamed "math/bits.deBruijn64tab" = some 11 by kernel_rfl).symm.trans qb);obtain rfl:=AI ((show Tryz.prog.globalNamed "internal/strconv.uint64pow10" = some 5 by kernel_rfl).symm.trans q6);obtain rfl:=AI ((show Tryz.prog.globalNamed "unicode/utf8.acceptRanges" = some 2 by kernel_rfl).symm.trans q0);obtain rfl:=AI ((show Tryz.prog.globalNamed "amend/text.words" = some 0 by kernel_rfl).symm.trans q5);obtain rfl:=AI ((show Tryz.prog.globalNamed "amend/text.escapes" = some 7 by kernel_rfl).symm.trans q7);obtain rfl:=AI ((show Tryz.prog.globalNamed "unicode/utf8.first" = some 1 by kernel_rfl).symm.trans q8);obtain rfl:=AI ((show Tryz.prog.globalNamed "strconv.ErrRange" = some 9 by kernel_rfl).symm.trans q9);obtain rfl:=AI ((show Tryz.prog.globalNamed "amend/pointer.escapes" = some 4 by kernel_rfl).symm.trans qd);obtain rfl:=AI ((show (Tryz.prog.globals[9]?).map (·.type)=some 162 by kernel_rfl).symm.trans qu)
 obtain rfl:=AI ((show (Tryz.prog.globals[4]?).map (·.type)=some 256 by kernel_rfl).symm.trans qv)
 obtain rfl:=AI ((show (Tryz.prog.globals[5]?).map (·.type)=some 312 by kernel_rfl).symm.trans qp)
 obtain rfl:=AI ((show (Tryz.prog.globals[2]?).map (·.type)=some 210 by kernel_rfl).symm.trans qt)
 obtain rfl:=AI ((show (Tryz.prog.globals[0]?).map (·.type)=some 165 by kernel_rfl).symm.trans qo)
 obtain rfl:=AI ((show (Tryz.prog.globals[7]?).map (·.type)=some 335 by kernel_rfl).symm.trans qq)
 obtain rfl:=AI ((show (Tryz.prog.globals[1]?).map (·.type)=some 207 by kernel_rfl).symm.trans qr)
 have e1:=(Dv underlying312 (by kernel_rfl) DV (MK underlying252) qh).trans WA;have e4:=(Dv underlying210 (by kernel_rfl) EY (Mo underlying209 (by kernel_rfl) rfl rfl underlying5 underlying5 (by kernel_rfl) (by kernel_rfl)) qk).trans WD;have e0:=(Dv underlying165 (by kernel_rfl) DV (NU underlying9) qg).trans RM;have e2:=(Dv underlying335 (by kernel_rfl) EY (Mo underlying334 (by kernel_rfl) rfl rfl underlying5 underlying21 (by kernel_rfl) (by kernel_rfl)) qi).trans WC;have e3:=(Dv underlying207 (by kernel_rfl) DV (MK underlying5) qj).trans RO;have e7:=(Dv underlying256 (by kernel_rfl) EY (Rq underlying255 (by kernel_rfl) rfl rfl underlying9 underlying5 (by kernel_rfl) (by kernel_rfl)) qn).trans Ue;obtain⟨_,te,pe,e5,_⟩:=iface_of_trod underlying162 qm;refine⟨?_,?_,?_,⟨fun c hc=>?_,fun i hi=>⟨?_,?_⟩⟩,?_,?_,?_,?_,q4⟩
 ·obtain⟨t,fr,e⟩:=EQ qb z6 rfl
  grind
 ·obtain⟨t,fr,e⟩:=EQ q7 qy e2
  simp_all
 ·obtain⟨t,fr,e⟩:=EQ q5 qw e0
  simp_all
 ·rw[A5 q8 qz,<- A1,e3,C1,A6 hc];rfl
 ·rw[A5 q0 qe,<- A1,e4,C1,A6 (by omega),G1,if_pos (by omega),show 2*i / 2=i by omega]
 ·rw[A5 q0 qe,<- A1,e4,C1,A6 (by omega),G1,if_neg (by omega),show (2*i+1) / 2=i by omega]
 ·exact EQ q6 qx e1
 ·obtain⟨t,fr,e⟩:=EQ qd z7 e7;exact⟨t,fr,by omega⟩
 ·refine⟨.iface te pe,?_,Or.inr ⟨te,pe,rfl⟩⟩;rw[A5 q9 z1,<- A1,e5];rfl
 ·exact cell_of_shapedOpen_int (k:=.i64) (t:=3) (zero:=#[.int .i64 0]) qf (by grind) (by kernel_rfl) rfl (by kernel_rfl) (by kernel_rfl) underlying3
section
variable{H:Type}{enc:Dp×AT->H}{P:CH}
theorem M9(hl:laidOutB P=true){W W':AS}(hb:Below W.heap.size W W'){sp:Nat->Bool}:∀ {ts:List Dp} {vs:List AT} {ds:List (D1 H)} {ps:List E0},(∀t∈ts,P.readableRec t=true/\t<P.types.size) ->
  A4 enc P W 0 (fun _=>true) true ts vs ds ps->(∀x∈ps,x.block<W.heap.size)->(∀x∈ps,sp x.block=true)->A4 enc P W' 0 sp true ts vs ds ps
 | [],_,_,_,_,h,_,_=>by
  obtain⟨rfl,rfl,rfl⟩:=trodAll_nil h;rfl
 | t::ts,_,_,_,hr,h,hlt,hs=>by
  obtain⟨v,q6,d,q5,a,b,rfl,rfl,rfl,h1,h2⟩:=trodAll_cons h;obtain⟨q0,q4⟩:=hr t List.mem_cons_self;exact trodAll_cons_mk (WideElems.Trod_stays hl q0 q4 h1 (fun x hx=>hb.same (hlt x (D0 _ hx))) (fun x hx=>hs x (D0 _ hx)))
   (M9 hl hb (fun t ht=>hr t (List.mem_cons_of_mem _ ht)) h2 (fun x hx=>hlt x (DD _ hx)) (fun x hx=>hs x (DD _ hx)))
theorem Nk{f:Func}{s:ChangeSpec}{apart fresh q4 q5:Bool}{W':AS}{args:Array AT}{v:AT}{ds gs:List (D1 H)}{q0:List E0}(hl:laidOutB P=true)(hr:∀t∈f.params.toList,P.readableRec t=true/\t<P.types.size)(qf:s.vars=[])(hW:HB enc P f.params.toList s.vars apart W args.toList ds gs q0)(hb:Below W.heap.size W W')(q7:∀ (b:Nat) (sp:Nat->Bool) (hd:Bool),A4 enc P W' b sp hd f.resultTypes.toList (v.resultList f.resultTypes.size) (s.fn H (ds++gs)).results [])(q6:(s.fn H (ds++gs)).args=ds)(q8:(s.fn H (ds++gs)).vars=[])(qi:∀ (j:Nat) (t:Dp) (r:AT),f.resultTypes[j]? = some t->(v.resultList f.resultTypes.size)[j]? = some r->HA P W' .any 0 t r):
  s.post enc P f apart fresh q4 q5 W args v W':=by
 have hlt:∀p∈q0,p.block<W.heap.size:=fun p hp=>by simpa using hW.lt p hp
 have hold:∀p∈q0,(fun b=>decide (b<W.heap.size)) p.block=true:=by grind
 have qh:=hW;obtain⟨p,q,qg,hV,qe,hz,hn⟩:=qh;have hA:A4 enc P W 0 (fun _=>true) true f.params.toList args.toList ds p:=qg;rw[qf] at hV;obtain⟨rfl,rfl⟩:=trodVars_none hV;rw[List.append_nil] at qe;subst qe;have q9:∀sp:Nat->Bool,(∀p∈q0,sp p.block=true)->A4 enc P W' 0 sp true f.params.toList args.toList (s.fn H (ds++[])).args q0:=fun sp hs=>by
  rw[q6];exact M9 hl hb hr hA hlt hs
 have qb:∀sp:Nat->Bool,DataW.TrodVars enc P W' sp s.vars (s.fn H (ds++[])).vars []:=fun sp=>by rw[qf,q8];exact rfl
 refine⟨ds,[],q0,[],q0,[],hW,q7 _ _ _,q9 _ hold,qb _,hb.frame _,fun _=>?_⟩;refine⟨qi,_,_,([]++q0)++[],⟨[]++q0,[],trodAll_append (q9 _ (fun _ _=>rfl)) (q7 _ _ _),qb _,rfl,?_,?_⟩,?_⟩
 ·intro b off hp;have qd:MemPlace.cell b off∈q0:=by grind
  rw[hb.frozen (p:=⟨b,off,none⟩) (hlt _ qd)];exact hz b off qd
 ·grind
 grind
end
theorem R0{H:Type}{enc:Dp×AT->H}{C:Checked}{os:Os}{f:FuncId}{fn:Func}{s:ChangeSpec}{q7:List PathCond}{apart fresh q4 q6:Bool}{laid:List (String×D1 Unit)}(own:ownKnob C.prog.godebug=none)(q5:os.Started)(q8:C.prog.inits.idxOf? f=none)(q9:C.prog.funcs[f]? = some fn)(qb:∃ (w:AS) (tape:Tape) (i:Input),w.os=os/\(w.forCall tape i).Shaped C.prog/\i.vars=[]/\Input.okWide C.prog (w.forCall tape i) .any w.heap.size f i /\
   ((s.pre enc C.prog fn q7 apart (w.forCall tape i).memory i.args/\Ft C.prog laid (w.forCall tape i).memory)/\sizedMet enc C.prog fn (C2 s) apart (w.forCall tape i).memory i.args)/\({}:Assume).holds C.prog (lone (Frame.enter C.prog f i.args .normal) [] (w.forCall tape i)))(go:∀ (W:AS) (base:Nat) (args:Array AT) (ds gs:List (D1 H)) (q0:List E0),(∀ (j:Nat) t v,fn.params[j]? = some t->args[j]? = some v->HA C.prog W .any base t v) ->
   HB enc C.prog fn.params.toList s.vars apart W args.toList ds gs q0->(DataW.weightsEach C.prog (fn.params.toList++s.plain.varTypes C.prog) (ds++gs)).all (· <= reachBytes)=true->Ft C.prog laid W->W.ShapedOpen C.prog ->
   Calls C.prog f args W fun e W'=>∃v,e=.returned v/\s.post enc C.prog fn apart fresh q4 q6 W args v W'):
  ReturnsInHanded {} C os f .any (fun w args=>(s.pre enc C.prog fn q7 apart w args/\Ft C.prog laid w)/\sizedMet enc C.prog fn (C2 s) apart w args) (s.post enc C.prog fn apart fresh q4 q6):=
 returnsInHanded_of_row (s:=C2 s) (F:=fun _ _ _=>0) own q5 q8 q9 qb fun W base args ds gs q0 h1 h2 _ _ h5 h6 h7 _=>go W base args ds gs q0 h1 h2 h5 h6 h7
end Go.Proofs.YtdpomdelmdofmaaGreatDoor
