import Derived.Lib.DecodeN
import Derived.Lib.RuneBytes
import Derived.Lib.ItoaNum
import Derived.Lib.TrimByte
import GoSem.ClaimWide
import Derived.Test.YtdpomdelmdofmaaGreatDoorProg
import Derived.WalkKit
import Derived.WalkSpells
import Derived.WalkLawsBesides
import Derived.BigQuiet
import Derived.Deep.QuietTactic
import Derived.Shelf.Unicode.DecodeSlow
import Derived.Shelf.Strconv.Itoa3
import Derived.Test.YtdpomdelmdofmaaGreatDoorRows
import Derived.ProofKit
import Derived.OpenShut
import Derived.LaidMore
import Derived.Lay
import Derived.Carry
import Derived.Stop.Joined
import Derived.LaidLaws
import Derived.Shelf.Vars
import Derived.Deep.DeepHandedRow
import Derived.JoinedOf
namespace Go.Proofs.YtdpomdelmdofmaaGreatDoor.Sp
abbrev By:=List UInt8
def isB(c:UInt8):Bool:=c == 32 || c == 9 || c == 10 || c == 13
def isD(c:UInt8):Bool:=decide (48<=c.toNat) && decide (c.toNat<=57)
def pk(l:By):Nat:=match l with|[]=>0|c::_=>c.toNat
def tk(l:By)(c:UInt8):Bool:=match l with|[]=>false|d::_=>d == c
def skB:By->By
 | []=>[]
 | c::r=>if isB c then skB r else c::r
def dg:By->By
 | []=>[]
 | c::r=>if isD c then c::dg r else []
def dgR:By->By
 | []=>[]
 | c::r=>if isD c then dgR r else c::r
def BJ(l:By):Option (By×By) :=
 if tk l 46 then (if dg l.tail=[] then none else some (dg l.tail,dgR l.tail)) else some ([],l)
def AE:By->Int->Int
 | [],n=>n
 | c::r,n=>AE r (min (10*n+((c.toNat:Int)-48)) 1000000)
def AR(l:By):Option (Int×By) :=
 if tk l 101 || tk l 69 then
  (if tk l.tail 45 then (if dg l.tail.tail=[] then none else some (- AE (dg l.tail.tail) 0,dgR l.tail.tail))
   else if tk l.tail 43 then (if dg l.tail.tail=[] then none else some (AE (dg l.tail.tail) 0,dgR l.tail.tail))
   else (if dg l.tail=[] then none else some (AE (dg l.tail) 0,dgR l.tail)))
 else some (0,l)
abbrev Nm:=Bool×By×Int
def Co(ng:Bool)(ds:By)(e:Int):Nm :=
 let d:=Lib.trimLeftB ds 48
 let w:=Lib.trimRightB d 48
 if w=[] then (false,[],0) else (ng,w,e+d.length-w.length)
def BH(ng:Bool)(l:By):Option (Nm×By) :=
 if dg l=[] || (tk l 48 && decide (1<(dg l).length)) then none
 else match BJ (dgR l) with
  | none=>none
  | some (f,r)=>match AR r with
   | none=>none
   | some (e,r')=>some (Co ng (dg l++f) (e-f.length),r')
def num(l:By):Option (Nm×By):=if tk l 45 then BH true l.tail else BH false l
def Eg(c:Nat):Option Nat :=
 if 48<=c/\c<=57 then some (c-48) else if 97<=c/\c<=102 then some (c-97+10) else if 65<=c/\c<=70 then some (c-65+10) else none
def Cp:Nat->Nat->By->Option (Nat×By)
 | 0,n,l=>some (n,l)
 | k+1,n,l=>match Eg (pk l) with
  | none=>none
  | some d=>Cp k (n*16+d) l.tail
def DI(l:By):Option (Nat×By) :=
 match Cp 4 0 l with
 | none=>none
 | some (a,r) =>
  if a<55296\/57344<=a then some (a,r)
  else if 56320<=a then none
  else if tk r 92 then (if tk r.tail 117 then
   (match Cp 4 0 r.tail.tail with
    | none=>none
    | some (b,r')=>if b<56320\/57344<=b then none else some (65536+(a-55296)*1024+(b-56320),r'))
   else none) else none
def Fy:List (UInt8×Nat):=[(34,34),(92,92),(47,47),(98,8),(102,12),(110,10),(114,13),(116,9)]
def Eh(l:By):List (UInt8×Nat)->Option (Nat×By)
 | []=>none
 | (c,n)::r=>if tk l c then some (n,l.tail) else Eh l r
def esc(l:By):Option (Nat×By):=if tk l 117 then DI l.tail else Eh l Fy
def dec(l:By):Nat×Nat:=if l.length=0 then (65533,0) else Utf8.decode ⟨l.toArray⟩ 0
def chr(l:By):Option (Nat×By) :=
 if tk l 92 then esc l.tail
 else if (dec l).1<32\/((dec l).1=65533/\(dec l).2<2) then none else some ((dec l).1,l.drop (dec l).2)
def CN:Nat->By->Option (By×By)
 | 0,_=>none
 | f+1,l=>if tk l 34 then some ([],l.tail) else match chr l with
  | none=>none
  | some (c,r)=>match CN f r with
   | none=>none
   | some (s,r')=>some (Lib.encodeRune c++s,r')
def quo(l:By):Option (By×By):=if tk l 34 then CN (l.length+1) l.tail else none
end Go.Proofs.YtdpomdelmdofmaaGreatDoor.Sp

namespace Go.Proofs.YtdpomdelmdofmaaGreatDoor
open Go.Proofs.Tryz
open Go.RowKit
theorem Ab{p:Prop}(h:p):Hid p:=h
theorem Aa{p:Prop}(h:Hid p):p:=h
theorem Sl(w:World)(a b:Nat):(w.drewN a).drewN b=w.drewN (a+b):=by simp only[World.drewN,Nat.add_assoc]
structure Ad(X:Nat)(w w':World):Prop where
 os:w'.os=w.os
 tape:w'.tape=w.tape
 output:w'.output=w.output
 size:w.heap.size<=w'.heap.size
 block:∀k,k<w.heap.size->k≠X->w'.heap[k]? = w.heap[k]?
theorem Ad.refl(X:Nat)(w:World):Ad X w w:=⟨rfl,rfl,rfl,Nat.le_refl _,fun _ _ _=>rfl⟩
theorem Ad.trans{X:Nat}{a b c:World}(h:Ad X a b)(k:Ad X b c):Ad X a c :=
 ⟨k.os.trans h.os,k.tape.trans h.tape,k.output.trans h.output,Nat.le_trans h.size k.size,fun i hi hx=>(k.block i (Nat.lt_of_lt_of_le hi h.size) hx).trans (h.block i hi hx)⟩
theorem Ad.drewN{X:Nat}{a w:World}(h:Ad X a w)(n:Nat):Ad X a (w.drewN n):=⟨h.os,h.tape,h.output,h.size,h.block⟩
theorem Ad.drew{X:Nat}{a w:World}(h:Ad X a w):Ad X a w.drew:=⟨h.os,h.tape,h.output,h.size,h.block⟩
theorem Ad.alloc{X:Nat}{a w:World}(h:Ad X a w)(o:Obj):Ad X a (w.alloc o) :=
 h.trans ⟨rfl,rfl,rfl,by simp,fun k hk _=>Below.heap_alloc _ _ _ hk⟩
theorem Ad.setCell{X:Nat}{a w:World}(h:Ad X a w){p:Addr}(hp:p.block=X)(u:Value):Ad X a (w.setCell p u) :=
 h.trans ⟨rfl,rfl,rfl,by simp[World.setCell],fun k _ hx=>Below.heap_setCell _ _ _ _ (by omega)⟩
theorem Ad.setCell_new{X:Nat}{a w:World}(h:Ad X a w){p:Addr}(hp:a.heap.size<=p.block)(u:Value):Ad X a (w.setCell p u) :=
 ⟨h.os,h.tape,h.output,by simpa[World.setCell] using h.size,fun k hk hx=>(Below.heap_setCell _ _ _ _ (by omega)).trans (h.block k hk hx)⟩
theorem Ad.of_below{X:Nat}{w w':World}(h:Below w.heap.size w w'):Ad X w w':=⟨h.os,h.tape,h.output,h.size,fun k hk _=>h.block k hk⟩
theorem Ad.below{X B:Nat}{w w':World}(h:Ad X w w')(hB:B<=X)(hs:B<=w.heap.size):Below B w w' :=
 ⟨h.os,h.tape,h.output,h.size,fun k hk=>h.block k (by omega) (by omega)⟩
theorem Ad.cell{X:Nat}{w w':World}(h:Ad X w w'){p:Addr}(hp:p.block<w.heap.size)(hx:p.block≠X):w'.cell? p=w.cell? p:=World.cell?_of_block (w:=w) (h.block p.block hp hx)
def RP(w:World)(R:Nat)(t:ByteArray)(p:Nat)(tw:Bool)(dp fr:Int):Prop :=
 w.heap[R]? = some (.cells #[.string t,.int .i64 p,.bool tw,.int .i64 dp,.int .i64 fr] 155 (0,0))
section
variable{w:World}{R:Nat}{t:ByteArray}{p:Nat}{tw:Bool}{dp fr:Int}
theorem RP.lt(h:RP w R t p tw dp fr):R<w.heap.size:=(Array.getElem?_eq_some_iff.1 h).1
theorem RP.c0(h:RP w R t p tw dp fr):w.cell? ⟨R,0,none⟩=some (.string t):=by simp[World.cell?,show w.heap[R]? = _ from h]
theorem RP.c1(h:RP w R t p tw dp fr):w.cell? ⟨R,1,none⟩=some (.int .i64 p):=by simp[World.cell?,show w.heap[R]? = _ from h]
theorem RP.c2(h:RP w R t p tw dp fr):w.cell? ⟨R,2,none⟩=some (.bool tw):=by simp[World.cell?,show w.heap[R]? = _ from h]
theorem RP.c3(h:RP w R t p tw dp fr):w.cell? ⟨R,3,none⟩=some (.int .i64 dp):=by simp[World.cell?,show w.heap[R]? = _ from h]
theorem RP.c4(h:RP w R t p tw dp fr):w.cell? ⟨R,4,none⟩=some (.int .i64 fr):=by simp[World.cell?,show w.heap[R]? = _ from h]
theorem RP.fz(h:RP w R t p tw dp fr)(o:Nat):w.frozen? ⟨R,o,none⟩=false:=by simp[World.frozen?,show w.heap[R]? = _ from h]
theorem RP.drewN(h:RP w R t p tw dp fr)(n:Nat):RP (w.drewN n) R t p tw dp fr:=h
theorem RP.drew(h:RP w R t p tw dp fr):RP w.drew R t p tw dp fr:=h
theorem RP.alloc(h:RP w R t p tw dp fr)(o:Obj):RP (w.alloc o) R t p tw dp fr:=(Below.heap_alloc _ _ _ h.lt).trans h
theorem RP.set1(h:RP w R t p tw dp fr)(q:Nat):RP (w.setCell ⟨R,1,none⟩ (.int .i64 q)) R t q tw dp fr:=by
 simp only[RP,World.setCell,Array.getElem?_modify];rw[if_pos trivial,show w.heap[R]? = _ from h];rfl
theorem RP.set2(h:RP w R t p tw dp fr)(q:Bool):RP (w.setCell ⟨R,2,none⟩ (.bool q)) R t p q dp fr:=by
 simp only[RP,World.setCell,Array.getElem?_modify];rw[if_pos trivial,show w.heap[R]? = _ from h];rfl
theorem RP.set3(h:RP w R t p tw dp fr)(q:Int):RP (w.setCell ⟨R,3,none⟩ (.int .i64 q)) R t p tw q fr:=by
 simp only[RP,World.setCell,Array.getElem?_modify];rw[if_pos trivial,show w.heap[R]? = _ from h];rfl
theorem RP.set4(h:RP w R t p tw dp fr)(q:Int):RP (w.setCell ⟨R,4,none⟩ (.int .i64 q)) R t p tw dp q:=by
 simp only[RP,World.setCell,Array.getElem?_modify];rw[if_pos trivial,show w.heap[R]? = _ from h];rfl
theorem RP.kept{X:Nat}{w':World}(h:RP w R t p tw dp fr)(hk:Ad X w w')(hx:R≠X):RP w' R t p tw dp fr:=(hk.block R h.lt hx).trans h
end
theorem LG(t:ByteArray)(p:Nat)(h:p<t.size):t.data.toList.drop p=t[p]::t.data.toList.drop (p+1):=by
 rw[List.drop_eq_getElem_cons (by simpa using h)];rfl
structure At(t:ByteArray)(p:Nat)(l:Sp.By):Prop where
 small:t.size<=2000
 le:p<=t.size
 eq:t.data.toList.drop p=l
theorem At.len{t:ByteArray}{p:Nat}{l:Sp.By}(h:At t p l):l.length=t.size-p:=by rw[<- h.eq];simp
theorem At.lt{t:ByteArray}{p:Nat}{c:UInt8}{l:Sp.By}(h:At t p (c::l)):p<t.size:=by
 have:=h.len;simp at this;omega
theorem At.byte{t:ByteArray}{p:Nat}{c:UInt8}{l:Sp.By}(h:At t p (c::l)):t[p]'h.lt=c:=by
 have h1:=h.eq;rw[LG t p h.lt] at h1;exact (List.cons.inj h1).1
theorem At.next{t:ByteArray}{p:Nat}{c:UInt8}{l:Sp.By}(h:At t p (c::l)):At t (p+1) l :=
 ⟨h.small,h.lt,by have h1:=h.eq;rw[LG t p h.lt] at h1;exact (List.cons.inj h1).2⟩
theorem At.nil{t:ByteArray}{p:Nat}(h:At t p []):p=t.size:=by have h1:=h.len;have h2:=h.le;simp at h1;omega
theorem At.add{t:ByteArray}{p:Nat}{l:Sp.By}(h:At t p l)(n:Nat)(hn:n<=l.length):At t (p+n) (l.drop n) :=
 ⟨h.small,by have:=h.len;have:=h.le;omega,by rw[<- h.eq,List.drop_drop]⟩
section
variable{t:ByteArray}{p:Nat}
end
def RD(w:World)(R:Nat)(t:ByteArray)(l:Sp.By)(tw:Bool)(dp fr:Int):Prop:=∃p,At t p l/\RP w R t p tw dp fr
theorem RD.lt{w:World}{R:Nat}{t:ByteArray}{l:Sp.By}{tw:Bool}{dp fr:Int}(h:RD w R t l tw dp fr):R<w.heap.size:=by obtain⟨p,_,h⟩:=h;exact h.lt
theorem RD.drewN{w:World}{R:Nat}{t:ByteArray}{l:Sp.By}{tw:Bool}{dp fr:Int}(h:RD w R t l tw dp fr)(n:Nat):RD (w.drewN n) R t l tw dp fr:=h
theorem RD.alloc{w:World}{R:Nat}{t:ByteArray}{l:Sp.By}{tw:Bool}{dp fr:Int}(h:RD w R t l tw dp fr)(o:Obj):RD (w.alloc o) R t l tw dp fr:=by obtain⟨p,a,h⟩:=h;exact⟨p,a,h.alloc o⟩
theorem RD.kept{w w':World}{R X:Nat}{t:ByteArray}{l:Sp.By}{tw:Bool}{dp fr:Int}(h:RD w R t l tw dp fr)(hk:Ad X w w')(hx:R≠X):RD w' R t l tw dp fr:=by obtain⟨p,a,h⟩:=h;exact⟨p,a,h.kept hk hx⟩
def left(w:World)(R:Nat):Nat :=
 match w.heap[R]? with
 | some (.cells cs _ _)=>(match cs.toList with|(.string t)::(.int _ p)::_=>t.size-p.toNat|_=>0)
 | _=>0
theorem RD.left{w:World}{R:Nat}{t:ByteArray}{l:Sp.By}{tw:Bool}{dp fr:Int}(h:RD w R t l tw dp fr):left w R=l.length:=by
 obtain⟨p,a,h⟩:=h;simp[Go.Proofs.YtdpomdelmdofmaaGreatDoor.left,show w.heap[R]? = _ from h,a.len]
abbrev NG:Nat:=12
def Cq:Array Value:=#[.int .u8 34,.int .i32 34,.int .u8 92,.int .i32 92,.int .u8 47,.int .i32 47,.int .u8 98,.int .i32 8,.int .u8 102,.int .i32 12,.int .u8 110,.int .i32 10,.int .u8 114,.int .i32 13,.int .u8 116,.int .i32 9]
def Cw:Array Value:=#[.string ⟨#[110,117,108,108]⟩,.string ⟨#[116,114,117,101]⟩,.string ⟨#[102,97,108,115,101]⟩]
def ER:Array Value:=#[.string ⟨#[126,48]⟩,.int .u8 126,.string ⟨#[126,49]⟩,.int .u8 47]
def EF(w:World):Prop:=∃t fr,w.heap[4]? = some (.cells ER t fr)
def CA:Array Value:=#[.string ⟨#[97,100,100]⟩,.bool true,.bool false,.string ⟨#[114,101,109,111,118,101]⟩,.bool false,.bool false,.string ⟨#[114,101,112,108,97,99,101]⟩,.bool true,.bool false,
 .string ⟨#[109,111,118,101]⟩,.bool false,.bool true,.string ⟨#[99,111,112,121]⟩,.bool false,.bool true,.string ⟨#[116,101,115,116]⟩,.bool true,.bool false]
def GY(w:World):Prop:=∃t fr,w.heap[3]? = some (.cells CA t fr)
def Rng(w:World):Prop:=∃ev,w.cell? ⟨9,0,none⟩=some ev/\(ev = .nilIface \/ ∃te pe,ev = .iface te pe)
def Mx(w:World):Prop:=∃m,w.cell? ⟨6,0,none⟩=some (.int .i64 m)
structure Af(w:World):Prop where
 ng:NG<=w.heap.size
 esc:∃t fr,w.heap[7]? = some (.cells Cq t fr)
 words:∃t fr,w.heap[0]? = some (.cells Cw t fr)
 utf8:Lib.Utf8Tabs 1 2 w
 pow:∃t fr,w.heap[5]? = some (.cells (Lib.pow10Tab.map fun z=>Value.int .u64 z).toArray t fr)
 pesc:EF w
 rng:Rng w
 mx:Mx w
 otab:GY w
theorem Af.below{w w':World}(h:Af w)(hb:Below NG w w'):Af w':=by
 have hc:∀g o,g<NG->w'.cell? ⟨g,o,none⟩=w.cell? ⟨g,o,none⟩:=fun g o hg=>hb.cell (p:=⟨g,o,none⟩) hg;refine⟨Nat.le_trans h.ng hb.size,?_,?_,⟨fun c hc'=>by rw[hc _ _ (by decide)];exact h.utf8.1 c hc',fun i hi=>⟨by rw[hc _ _ (by decide)];exact (h.utf8.2 i hi).1,by rw[hc _ _ (by decide)];exact (h.utf8.2 i hi).2⟩⟩,?_,?_,?_,?_,?_⟩
 ·obtain⟨t,fr,e⟩:=h.esc;exact⟨t,fr,(hb.block _ (by decide)).trans e⟩
 ·obtain⟨t,fr,e⟩:=h.words;exact⟨t,fr,(hb.block _ (by decide)).trans e⟩
 ·obtain⟨t,fr,e⟩:=h.pow;exact⟨t,fr,(hb.block _ (by decide)).trans e⟩
 ·obtain⟨t,fr,e⟩:=h.pesc;exact⟨t,fr,(hb.block _ (by decide)).trans e⟩
 ·obtain⟨ev,h1,h2⟩:=h.rng;exact⟨ev,(hc _ _ (by decide)).trans h1,h2⟩
 ·obtain⟨m,h1⟩:=h.mx;exact⟨m,(hc _ _ (by decide)).trans h1⟩
 ·obtain⟨t,fr,e⟩:=h.otab;exact⟨t,fr,(hb.block _ (by decide)).trans e⟩
theorem Af.kept{X:Nat}{w w':World}(h:Af w)(hk:Ad X w w')(hX:NG<=X):Af w':=h.below (hk.below hX h.ng)
end Go.Proofs.YtdpomdelmdofmaaGreatDoor

namespace Go.Proofs.YtdpomdelmdofmaaGreatDoor
open Go.Proofs.Tryz
open Go.ChangeShapes Go.WideShapes Go.ChangeAt Go.RowKit
def DA{H:Type}:DataW H->List Value
 | .lit (.int k z)=>[.int k z]
 | .lit (.string s)=>[.string ⟨s.toArray⟩]
 | _=>[]
def EL{H:Type}:DataW H->List Value
 | .agg [a,b]=>DA a++DA b
 | _=>[]
theorem SJ{α β:Type}(F:β->List α)(c:Nat):∀ (ds:List β) (l:List α),l.length=ds.length*c->(∀r x,ds[r]? = some x->(l.drop (r*c)).take c=F x)->l=ds.flatMap F
 | [],l,h,_=>by simpa using h
 | d::ds,l,h,hx=>by
  have h0:=hx 0 d rfl;simp only[Nat.zero_mul,List.drop_zero] at h0;have hr:=SJ F c ds (l.drop c) (by rw[List.length_drop,h,List.length_cons,Nat.succ_mul];omega) (fun r x hr=>by
   have:=hx (r+1) x hr;rw[List.drop_drop]
   rwa [show c+r*c=(r+1)*c by rw[Nat.succ_mul];omega])
  rw[List.flatMap_cons,<- h0,<- hr,List.take_append_drop]
theorem Oq{H:Type}{enc:TypeId×Value->H}{P:Program}{w:World}{base:Nat}{spare:Nat->Bool}{held:Bool}{fuel:Nat}{t e n:Nat}{cs:List Value}{ds:List (DataW H)}{q:List MemPlace}
  (ht:P.underlying t=some (.array n e)) (hc:P.cellsOf t=n*P.cellsOf e) (F:DataW H->List Value)
  (hF:∀m l d p,DataW.trod enc P w base spare held m e l=some (d,p)->l=F d)
  (h:DataW.trod enc P w base spare held fuel t cs=some (.agg ds,q)):cs=ds.flatMap F:=by
 obtain⟨xs,m,_,ex,hl,hn,hel⟩:=DataW.trod_array ht h;have ed:ds=xs.map (·.1):=DataW.agg.inj (Prod.mk.inj ex).1
 subst ed;refine SJ F (P.cellsOf e) _ cs (by rw[hl,hc,List.length_map,hn]) fun r x hr=>?_;rw[List.getElem?_map] at hr;obtain⟨y,hy,rfl⟩:=Option.map_eq_some_iff.1 hr;have hlt:r<n:=by rw[<- hn];exact (List.getElem?_eq_some_iff.1 hy).1
 exact hF m _ y.1 y.2 ((hel r hlt).trans hy)
theorem Lz{H:Type}{enc:TypeId×Value->H}{P:Program}{w:World}{base:Nat}{spare:Nat->Bool}{held:Bool}{e:Nat}{k:IntKind}(he:P.underlying e=some (.int k)) :
  ∀m l d p,DataW.trod enc P w base spare held m e l=some (d,p)->l=DA d:=by
 intro m l d p h;obtain⟨z,rfl,ex,_⟩:=DataW.trod_int he h;rw[(Prod.mk.inj ex).1];rfl
theorem Mv{H:Type}{enc:TypeId×Value->H}{P:Program}{w:World}{base:Nat}{spare:Nat->Bool}{held:Bool}{e:Nat}(he:P.underlying e=some .string) :
  ∀m l d p,DataW.trod enc P w base spare held m e l=some (d,p)->l=DA d:=by
 intro m l d p h;obtain⟨s,rfl,ex,_⟩:=DataW.trod_string he h;rw[(Prod.mk.inj ex).1];simp[DA]
theorem Lg{H:Type}{enc:TypeId×Value->H}{P:Program}{w:World}{base:Nat}{spare:Nat->Bool}{held:Bool}{e:Nat}{f0 f1:Field}{k0 k1:IntKind}(he:P.underlying e=some (.struct #[f0,f1]))(ce:P.cellsOf e=2)
  (o0:f0.offset=0) (o1:f1.offset=1) (u0:P.underlying f0.type=some (.int k0)) (u1:P.underlying f1.type=some (.int k1)) (c0:P.cellsOf f0.type=1) (c1:P.cellsOf f1.type=1) :
  ∀m l d p,DataW.trod enc P w base spare held m e l=some (d,p)->l=EL d:=by
 intro m l d p h;obtain⟨xs,m',_,ex,hl,hn,hel⟩:=DataW.trod_struct he h;rw[ce] at hl
 match l,hl,xs,hn with
 | [v0,v1],_,[y0,y1],_ =>
  have g0:=hel 0 f0 rfl;have g1:=hel 1 f1 rfl;simp[o0,o1,c0,c1] at g0 g1;obtain⟨z0,e0,x0,_⟩:=DataW.trod_int u0 g0;obtain⟨z1,e1,x1,_⟩:=DataW.trod_int u1 g1;simp only[Prod.mk.injEq] at ex;simp only[List.cons.injEq,and_true] at e0 e1;simp[ex.1,e0,e1,x0,x1,EL,DA]
theorem PC{H:Type}{enc:TypeId×Value->H}{P:Program}{w:World}{base:Nat}{spare:Nat->Bool}{held:Bool}{e:Nat}{f0 f1:Field}{k1:IntKind}(he:P.underlying e=some (.struct #[f0,f1]))(ce:P.cellsOf e=2)
  (o0:f0.offset=0) (o1:f1.offset=1) (u0:P.underlying f0.type=some .string) (u1:P.underlying f1.type=some (.int k1)) (c0:P.cellsOf f0.type=1) (c1:P.cellsOf f1.type=1) :
  ∀m l d p,DataW.trod enc P w base spare held m e l=some (d,p)->l=EL d:=by
 intro m l d p h;obtain⟨xs,m',_,ex,hl,hn,hel⟩:=DataW.trod_struct he h;rw[ce] at hl
 match l,hl,xs,hn with
 | [v0,v1],_,[y0,y1],_ =>
  have g0:=hel 0 f0 rfl;have g1:=hel 1 f1 rfl;simp[o0,o1,c0,c1] at g0 g1;obtain⟨z0,e0,x0,_⟩:=DataW.trod_string u0 g0;obtain⟨z1,e1,x1,_⟩:=DataW.trod_int u1 g1;simp only[Prod.mk.injEq] at ex;simp only[List.cons.injEq,and_true] at e0 e1;simp[ex.1,e0,e1,x0,x1,EL,DA]
theorem EE{P:Program}{w:World}{n:String}{g:Nat}{cs:Array Value}{l:List Value}(hg:P.globalNamed n=some g)(h:w.var? P n=some cs)(hl:cs.toList=l):∃t fr,w.heap[g]? = some (.cells l.toArray t fr):=by
 subst hl;simp only[World.var?,hg,Option.bind_some] at h;split at h
 ·rename_i cs' t' fr' e;obtain rfl:=Option.some.inj h;exact⟨t',fr',by rw[e,Array.toArray_toList]⟩
 ·cases h
end Go.Proofs.YtdpomdelmdofmaaGreatDoor

set_option maxRecDepth 100000
namespace Go.Proofs.YtdpomdelmdofmaaGreatDoor
open Go.Proofs.Tryz
open Go.ChangeShapes Go.WideShapes Go.ChangeAt Go.RowKit
theorem own:ownKnob Tryz.prog.godebug=none:=by kernel_rfl
theorem Wo:laidOutB Tryz.prog=true:=by kernel_rfl
theorem Ue:(match Rows.laid_unicode_utf8_acceptRanges (H:=Unit) with | .agg ds=>ds.flatMap EL|_=>[])=(List.range 32).map (fun j=>Value.int .u8 (((if j % 2=0 then Lib.accLo (j / 2) else Lib.accHi (j / 2)):Nat):Int)):=by kernel_rfl
theorem PY:(match Rows.laid_unicode_utf8_first with | .agg ds=>ds.flatMap DA|_=>[])=(List.range 256).map (fun c=>Value.int .u8 ((Lib.firstT c:Nat):Int)):=by kernel_rfl
theorem Ub:(match Rows.laid_internal_strconv_uint64pow10 (H:=Unit) with | .agg ds=>ds.flatMap DA|_=>[])=Lib.pow10Tab.map fun z=>Value.int .u64 z:=by kernel_rfl
theorem PW:(match Rows.laid_amend_text_words (H:=Unit) with | .agg ds=>ds.flatMap DA|_=>[])=Cw.toList:=by kernel_rfl
theorem Ud:(match Rows.laid_amend_text_escapes (H:=Unit) with | .agg ds=>ds.flatMap EL|_=>[])=Cq.toList:=by kernel_rfl
theorem RN:(match Rows.laid_amend_pointer_escapes (H:=Unit) with | .agg ds=>ds.flatMap EL|_=>[])=ER.toList:=by kernel_rfl
theorem Do{H:Type}{enc:TypeId×Value->H}{P:Program}{w:World}{base:Nat}{spare:Nat->Bool}{held:Bool}{fuel:Nat}{t e n:Nat}{cs:List Value}{d:DataW H}{q:List MemPlace}
  (ht:P.underlying t=some (.array n e)) (hc:P.cellsOf t=n*P.cellsOf e) (F:DataW H->List Value)
  (hF:∀m l d p,DataW.trod enc P w base spare held m e l=some (d,p)->l=F d)
  (h:DataW.trod enc P w base spare held fuel t cs=some (d,q)):cs=(match d with | .agg ds=>ds.flatMap F|_=>[]):=by
 obtain⟨xs,_,_,ex,_⟩:=DataW.trod_array ht h;obtain rfl:=(Prod.mk.inj ex).1;exact Oq ht hc F hF h
def L9{H:Type}:DataW H->List Value
 | .agg [.lit (.string s),.lit (.bool a),.lit (.bool b)]=>[.string ⟨s.toArray⟩,.bool a,.bool b]
 | _=>[]
theorem Rv{H:Type}{enc:TypeId×Value->H}{P:Program}{w:World}{base:Nat}{spare:Nat->Bool}{held:Bool}{e:Nat}{f0 f1 f2:Field}(he:P.underlying e=some (.struct #[f0,f1,f2]))(ce:P.cellsOf e=3)
  (o0:f0.offset=0) (o1:f1.offset=1) (o2:f2.offset=2) (u0:P.underlying f0.type=some .string) (u1:P.underlying f1.type=some .bool) (u2:P.underlying f2.type=some .bool) (c0:P.cellsOf f0.type=1) (c1:P.cellsOf f1.type=1) (c2:P.cellsOf f2.type=1) :
  ∀m l d p,DataW.trod enc P w base spare held m e l=some (d,p)->l=L9 d:=by
 intro m l d p h;obtain⟨xs,m',_,ex,hl,hn,hel⟩:=DataW.trod_struct he h;rw[ce] at hl
 match l,hl,xs,hn with
 | [v0,v1,v2],_,[y0,y1,y2],_ =>
  have g0:=hel 0 f0 rfl;have g1:=hel 1 f1 rfl;have g2:=hel 2 f2 rfl;simp[o0,o1,o2,c0,c1,c2] at g0 g1 g2;obtain⟨z0,e0,x0,_⟩:=DataW.trod_string u0 g0;obtain⟨z1,e1,x1⟩:=DataW.trod_bool u1 g1;obtain⟨z2,e2,x2⟩:=DataW.trod_bool u2 g2;simp only[Prod.mk.injEq] at ex;simp only[List.cons.injEq,and_true] at e0 e1 e2;simp[ex.1,e0,e1,e2,x0,x1,x2,L9]
theorem RM:(match Rows.laid_amend_patch_operations (H:=Unit) with | .agg ds=>ds.flatMap L9|_=>[])=CA.toList:=by kernel_rfl
theorem Uc{W:World}(h:laidMetH Tryz.prog Rows.prefixRow.laid W):GY W:=by
 rw[MakeChecks.laidMetH_plain _ _ _ (by kernel_rfl)] at h;obtain⟨ps,hv,_,_⟩:=h;obtain⟨_,_,_,_,_,_,_,_,_,_,hv,_⟩:=hv;obtain⟨_,_,_,_,_,_,_,_,_,_,hv,_⟩:=hv;obtain⟨_,_,_,_,_,_,_,_,_,_,hv,_⟩:=hv;obtain⟨_,_,_,_,_,_,_,_,_,_,hv,_⟩:=hv;obtain⟨_,_,_,_,_,_,_,_,_,_,hv,_⟩:=hv;obtain⟨_,_,_,_,_,_,_,_,_,_,hv,_⟩:=hv;obtain⟨_,_,_,_,_,_,_,_,_,_,hv,_⟩:=hv;obtain⟨_,_,_,_,_,_,_,_,_,_,hv,_⟩:=hv;obtain⟨_,_,_,_,_,_,_,_,_,_,hv,_⟩:=hv;obtain⟨g8,t8,c8,_,_,_,hg8,ht8,hv8,hd8,hv,_⟩:=hv;obtain rfl:=Option.some.inj ((show Tryz.prog.globalNamed "amend/patch.operations" = some 3 by kernel_rfl).symm.trans hg8);obtain rfl:=Option.some.inj ((show (Tryz.prog.globals[3]?).map (·.type)=some 220 by kernel_rfl).symm.trans ht8)
 have e8:=(Do underlying220 (by kernel_rfl) L9 (Rv underlying219 (by kernel_rfl) rfl rfl rfl underlying9 underlying4 underlying4 (by kernel_rfl) (by kernel_rfl) (by kernel_rfl)) hd8).trans RM;obtain⟨t,fr,e⟩:=EE hg8 hv8 e8;exact⟨t,fr,by simpa using e⟩
theorem PX{W:World}(h:laidMetH Tryz.prog Rows.prefixRow.laid W)(hSh:W.ShapedOpen Tryz.prog):Af W:=by
 have hops:=Uc h;rw[MakeChecks.laidMetH_plain _ _ _ (by kernel_rfl)] at h;obtain⟨ps,hv,_,_⟩:=h;obtain⟨_,_,_,_,_,_,_,_,_,_,hv,_⟩:=hv;obtain⟨g6,_,c6,_,_,_,hg6,_,hv6,_,hv,_⟩:=hv;obtain⟨g1,t1,c1,_,_,_,hg1,ht1,hv1,hd1,hv,_⟩:=hv;obtain⟨g4,t4,c4,_,_,_,hg4,ht4,hv4,hd4,hv,_⟩:=hv;obtain⟨g5,t5,c5,_,_,_,hg5,ht5,hv5,hd5,hv,_⟩:=hv;obtain⟨_,_,_,_,_,_,_,_,_,_,hv,_⟩:=hv;obtain⟨g7,t7,c7,_,_,_,hg7,ht7,hv7,hd7,hv,_⟩:=hv;obtain⟨g0,t0,c0,_,_,_,hg0,ht0,hv0,hd0,hv,_⟩:=hv;obtain⟨g2,t2,c2,_,_,_,hg2,ht2,hv2,hd2,hv,_⟩:=hv;obtain⟨_,_,_,_,_,_,_,_,_,_,hv,_⟩:=hv;obtain⟨g3,t3,c3,_,_,_,hg3,ht3,hv3,hd3,_,_⟩:=hv;obtain rfl:=Option.some.inj ((show Tryz.prog.globalNamed "math/bits.deBruijn64tab" = some 11 by kernel_rfl).symm.trans hg6);obtain rfl:=Option.some.inj ((show Tryz.prog.globalNamed "internal/strconv.uint64pow10" = some 5 by kernel_rfl).symm.trans hg1);obtain rfl:=Option.some.inj ((show Tryz.prog.globalNamed "unicode/utf8.acceptRanges" = some 2 by kernel_rfl).symm.trans hg4);obtain rfl:=Option.some.inj ((show Tryz.prog.globalNamed "amend/text.words" = some 0 by kernel_rfl).symm.trans hg0);obtain rfl:=Option.some.inj ((show Tryz.prog.globalNamed "amend/text.escapes" = some 7 by kernel_rfl).symm.trans hg2);obtain rfl:=Option.some.inj ((show Tryz.prog.globalNamed "unicode/utf8.first" = some 1 by kernel_rfl).symm.trans hg3);obtain rfl:=Option.some.inj ((show Tryz.prog.globalNamed "strconv.ErrRange" = some 9 by kernel_rfl).symm.trans hg5);obtain rfl:=Option.some.inj ((show Tryz.prog.globalNamed "amend/pointer.escapes" = some 4 by kernel_rfl).symm.trans hg7);obtain rfl:=Option.some.inj ((show (Tryz.prog.globals[9]?).map (·.type)=some 162 by kernel_rfl).symm.trans ht5)
 obtain rfl:=Option.some.inj ((show (Tryz.prog.globals[4]?).map (·.type)=some 256 by kernel_rfl).symm.trans ht7)
 obtain rfl:=Option.some.inj ((show (Tryz.prog.globals[5]?).map (·.type)=some 312 by kernel_rfl).symm.trans ht1)
 obtain rfl:=Option.some.inj ((show (Tryz.prog.globals[2]?).map (·.type)=some 210 by kernel_rfl).symm.trans ht4)
 obtain rfl:=Option.some.inj ((show (Tryz.prog.globals[0]?).map (·.type)=some 165 by kernel_rfl).symm.trans ht0)
 obtain rfl:=Option.some.inj ((show (Tryz.prog.globals[7]?).map (·.type)=some 335 by kernel_rfl).symm.trans ht2)
 obtain rfl:=Option.some.inj ((show (Tryz.prog.globals[1]?).map (·.type)=some 207 by kernel_rfl).symm.trans ht3)
 have e1:=(Do underlying312 (by kernel_rfl) DA (Lz underlying252) hd1).trans Ub;have e4:=(Do underlying210 (by kernel_rfl) EL (Lg underlying209 (by kernel_rfl) rfl rfl underlying5 underlying5 (by kernel_rfl) (by kernel_rfl)) hd4).trans Ue;have e0:=(Do underlying165 (by kernel_rfl) DA (Mv underlying9) hd0).trans PW;have e2:=(Do underlying335 (by kernel_rfl) EL (Lg underlying334 (by kernel_rfl) rfl rfl underlying5 underlying21 (by kernel_rfl) (by kernel_rfl)) hd2).trans Ud;have e3:=(Do underlying207 (by kernel_rfl) DA (Lz underlying5) hd3).trans PY;have e7:=(Do underlying256 (by kernel_rfl) EL (PC underlying255 (by kernel_rfl) rfl rfl underlying9 underlying5 (by kernel_rfl) (by kernel_rfl)) hd7).trans RN;obtain⟨_,te,pe,e5,_⟩:=iface_of_trod underlying162 hd5;refine⟨?_,?_,?_,⟨fun c hc=>?_,fun i hi=>⟨?_,?_⟩⟩,?_,?_,?_,?_,hops⟩
 ·obtain⟨t,fr,e⟩:=EE hg6 hv6 rfl;exact (Array.getElem?_eq_some_iff.1 e).1
 ·obtain⟨t,fr,e⟩:=EE hg2 hv2 e2;exact⟨t,fr,by simpa using e⟩
 ·obtain⟨t,fr,e⟩:=EE hg0 hv0 e0;exact⟨t,fr,by simpa using e⟩
 ·rw[World.var?_cell hg3 hv3,<- Array.getElem?_toList,e3,List.getElem?_map,List.getElem?_range hc];rfl
 ·rw[World.var?_cell hg4 hv4,<- Array.getElem?_toList,e4,List.getElem?_map,List.getElem?_range (by omega),Option.map_some,if_pos (by omega),show 2*i / 2=i by omega]
 ·rw[World.var?_cell hg4 hv4,<- Array.getElem?_toList,e4,List.getElem?_map,List.getElem?_range (by omega),Option.map_some,if_neg (by omega),show (2*i+1) / 2=i by omega]
 ·exact EE hg1 hv1 e1
 ·obtain⟨t,fr,e⟩:=EE hg7 hv7 e7;exact⟨t,fr,by simpa using e⟩
 ·refine⟨.iface te pe,?_,Or.inr ⟨te,pe,rfl⟩⟩;rw[World.var?_cell hg5 hv5,<- Array.getElem?_toList,e5];rfl
 ·exact cell_of_shapedOpen_int (k:=.i64) (t:=3) (zero:=#[.int .i64 0]) hSh (of_decide_eq_true (by kernel_rfl)) (by kernel_rfl) rfl (by kernel_rfl) (by kernel_rfl) underlying3
section
variable{H:Type}{enc:TypeId×Value->H}{P:Program}
theorem LM(hl:laidOutB P=true){W W':World}(hb:Below W.heap.size W W'){sp:Nat->Bool}:∀ {ts:List TypeId} {vs:List Value} {ds:List (DataW H)} {ps:List MemPlace},(∀t∈ts,P.readableRec t=true/\t<P.types.size) ->
  DataW.TrodAll enc P W 0 (fun _=>true) true ts vs ds ps->(∀x∈ps,x.block<W.heap.size)->(∀x∈ps,sp x.block=true)->DataW.TrodAll enc P W' 0 sp true ts vs ds ps
 | [],_,_,_,_,h,_,_=>by
  obtain⟨rfl,rfl,rfl⟩:=trodAll_nil h;exact trodAll_mk0
 | t::ts,_,_,_,hr,h,hlt,hs=>by
  obtain⟨v,vs1,d,ds1,a,b,rfl,rfl,rfl,h1,h2⟩:=trodAll_cons h;obtain⟨hr1,hr2⟩:=hr t List.mem_cons_self;exact trodAll_cons_mk (WideElems.Trod_stays hl hr1 hr2 h1 (fun x hx=>hb.same (hlt x (List.mem_append_left _ hx))) (fun x hx=>hs x (List.mem_append_left _ hx)))
   (LM hl hb (fun t ht=>hr t (List.mem_cons_of_mem _ ht)) h2 (fun x hx=>hlt x (List.mem_append_right _ hx)) (fun x hx=>hs x (List.mem_append_right _ hx)))
theorem LW{f:Func}{s:ChangeSpec}{apart fresh handsOn again:Bool}{W W':World}{args:Array Value}{v:Value}{ds gs:List (DataW H)}{before:List MemPlace}
  (hl:laidOutB P=true) (hr:∀t∈f.params.toList,P.readableRec t=true/\t<P.types.size) (hsv:s.vars=[])
  (hW:DataW.Whole enc P f.params.toList s.vars apart W args.toList ds gs before) (hb:Below W.heap.size W W')
  (hres:∀ (b:Nat) (sp:Nat->Bool) (hd:Bool),DataW.TrodAll enc P W' b sp hd f.resultTypes.toList (v.resultList f.resultTypes.size) (s.fn H (ds++gs)).results [])
  (hargs:(s.fn H (ds++gs)).args=ds) (hvars:(s.fn H (ds++gs)).vars=[])
  (hok:∀ (j:Nat) (t:TypeId) (r:Value),f.resultTypes[j]? = some t->(v.resultList f.resultTypes.size)[j]? = some r->Value.okWide P W' .any 0 t r) :
  s.post enc P f apart fresh handsOn again W args v W':=by
 have hlt:∀p∈before,p.block<W.heap.size:=fun p hp=>by simpa using hW.lt p hp
 have hold:∀p∈before,(fun b=>decide (b<W.heap.size)) p.block=true:=fun p hp=>by simpa using hlt p hp
 have hW0:=hW;obtain⟨p,q,hA0,hV,hpq,hz,hn⟩:=hW0;have hA:DataW.TrodAll enc P W 0 (fun _=>true) true f.params.toList args.toList ds p:=hA0;rw[hsv] at hV;obtain⟨rfl,rfl⟩:=trodVars_none hV;rw[List.append_nil] at hpq;subst hpq;have hA':∀sp:Nat->Bool,(∀p∈before,sp p.block=true)->DataW.TrodAll enc P W' 0 sp true f.params.toList args.toList (s.fn H (ds++[])).args before:=fun sp hs=>by
  rw[hargs];exact LM hl hb hr hA hlt hs
 have hV':∀sp:Nat->Bool,DataW.TrodVars enc P W' sp s.vars (s.fn H (ds++[])).vars []:=fun sp=>by rw[hsv,hvars];exact rfl
 refine⟨ds,[],before,[],before,[],hW,hres _ _ _,hA' _ hold,hV' _,hb.frame _,fun _=>?_⟩;refine⟨hok,_,_,([]++before)++[],⟨[]++before,[],trodAll_append (hA' _ (fun _ _=>rfl)) (hres _ _ _),hV' _,rfl,?_,?_⟩,?_⟩
 ·intro b off hp;have hp':MemPlace.cell b off∈before:=by simpa using hp
  rw[hb.frozen (p:=⟨b,off,none⟩) (hlt _ hp')];exact hz b off hp'
 ·intro ha;simpa using hn ha
 ·intro p hp _;simpa using hp
end
theorem P8{H:Type}{enc:TypeId×Value->H}{C:Checked}{os:Os}{f:FuncId}{fn:Func}{s:ChangeSpec}{conds:List PathCond}{apart fresh handsOn again:Bool}{laid:List (String×DataW Unit)}
  (own:ownKnob C.prog.godebug=none) (started:os.Started) (noInit:C.prog.inits.idxOf? f=none) (hfn:C.prog.funcs[f]? = some fn)
  (wit:∃ (w:World) (tape:Tape) (i:Input),w.os=os/\(w.forCall tape i).Shaped C.prog/\i.vars=[]/\Input.okWide C.prog (w.forCall tape i) .any w.heap.size f i /\
   ((s.pre enc C.prog fn conds apart (w.forCall tape i).memory i.args/\laidMetH C.prog laid (w.forCall tape i).memory)/\sizedMet enc C.prog fn (OpenSpec.ofChange s) apart (w.forCall tape i).memory i.args)/\({}:Assume).holds C.prog (lone (Frame.enter C.prog f i.args .normal) [] (w.forCall tape i)))
  (go:∀ (W:World) (base:Nat) (args:Array Value) (ds gs:List (DataW H)) (before:List MemPlace),(∀ (j:Nat) t v,fn.params[j]? = some t->args[j]? = some v->Value.okWide C.prog W .any base t v) ->
   DataW.Whole enc C.prog fn.params.toList s.vars apart W args.toList ds gs before->(DataW.weightsEach C.prog (fn.params.toList++s.plain.varTypes C.prog) (ds++gs)).all (· <= reachBytes)=true->laidMetH C.prog laid W->W.ShapedOpen C.prog ->
   Calls C.prog f args W fun e W'=>∃v,e = .returned v/\s.post enc C.prog fn apart fresh handsOn again W args v W') :
  ReturnsInHanded {} C os f .any (fun w args=>(s.pre enc C.prog fn conds apart w args/\laidMetH C.prog laid w)/\sizedMet enc C.prog fn (OpenSpec.ofChange s) apart w args) (s.post enc C.prog fn apart fresh handsOn again) :=
 returnsInHanded_of_row (s:=OpenSpec.ofChange s) (F:=fun _ _ _=>0) own started noInit hfn wit fun W base args ds gs before h1 h2 _ _ h5 h6 h7 _=>go W base args ds gs before h1 h2 h5 h6 h7
end Go.Proofs.YtdpomdelmdofmaaGreatDoor
