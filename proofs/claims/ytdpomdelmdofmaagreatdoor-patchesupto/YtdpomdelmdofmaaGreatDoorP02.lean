import Derived.Test.YtdpomdelmdofmaaGreatDoorP01
open Go renaming World->AI,Value->AT,Calls->A4,DataW->B1,wpAnyIn->C5,Ending->DA,callFunc->D1
open Go.Proofs.Tryz renaming prog->AS
open Go.Lib renaming trimLeftB->A1,trimRightB->A2,decode_at->CH,decodeN->C2,encodeRune->C6,hasPrefix->D9,decodeGo->E1
open Go.Instr renaming index->A3,next->G1
open Go.DataW renaming insert->A5,put->E0
open Go.World renaming setCell->Bs,putObj_heap_same->BY,alloc_heap_new->CD
open List renaming dropWhile_sublist->B2,append_eq_nil_iff->B3,singleton_append->B4,all_eq_true->C1,nodup_nil->D2,range->D6,length->F5
open BitVec renaming ofInt->C0
open ByteArray renaming get!->DD,mk->E2
open Go.Maps renaming has->D0
open Go.Fence renaming wide->D3
open Go.Region renaming ready->Ft
open Go.RowKit renaming Below->F2
set_option maxHeartbeats 8000000
set_option maxRecDepth 100000
namespace Go.Proofs.YtdpomdelmdofmaaGreatDoor
open Go.Proofs.Tryz Go.RowKit
variable{g k B X n m f lo:Nat}{v sl:AT}{a w':AI}{c:UInt8}{σ:Type}{own:Option Nat}{ps:List AT}{D:List (Lit×B1 AT)}
abbrev By:=List UInt8
def uD(c:UInt8):Bool:=c==32 || c==9 || c==10 || c==13
def qW(c:UInt8):Bool:=decide (48<=c.toNat) && decide (c.toNat<=57)
def pY(l:By):Nat:=match l with|[]=>0|c::_=>c.toNat
def pQ(l:By)(c:UInt8):Bool:=match l with|[]=>false|d::_=>d==c
def pR:By->By
 |[]=>[]
 |c::r=>if uD c then pR r else c::r
def dg:By->By
 |[]=>[]
 |c::r=>if qW c then c::dg r else[]
def qP:By->By
 |[]=>[]
 |c::r=>if qW c then qP r else c::r
def B5(l:By):Option (By×By):=
 if pQ l 46 then(if dg l.tail=[]then none else some (dg l.tail,qP l.tail))else some ([],l)
def Bg:By->Int->Int
 |[],n=>n
 |c::r,n=>Bg r (min (10*n+((c.toNat:Int)-48)) 1000000)
def AY(l:By):Option (Int×By):=
 if pQ l 101 || pQ l 69 then
  (if pQ l.tail 45 then(if dg l.tail.tail=[]then none else some (- Bg (dg l.tail.tail) 0,qP l.tail.tail))
   else if pQ l.tail 43 then(if dg l.tail.tail=[]then none else some (Bg (dg l.tail.tail) 0,qP l.tail.tail))
   else(if dg l.tail=[]then none else some (Bg (dg l.tail) 0,qP l.tail)))
 else some (0,l)
abbrev Nm:=Bool×By×Int
def Ce(ng:Bool)(ds:By)(e:Int):Nm:=
 let d:=A1 ds 48
 let w:=A2 d 48
 if w=[]then(false,[],0)else(ng,w,e+d.length-w.length)
def BM(ng:Bool)(l:By):Option (Nm×By):=
 if dg l=[] || (pQ l 48 && decide (1<(dg l).length))then none
 else match B5 (qP l)with
  |none=>none
  |some (f,r)=>match AY r with
   |none=>none
   |some (e,r')=>some (Ce ng (dg l++f) (e-f.length),r')
def rO(l:By):Option (Nm×By):=if pQ l 45 then BM true l.tail else BM false l
def Ci(c:Nat):Option Nat:=
 if 48<=c/\c<=57 then some (c-48)else if 97<=c/\c<=102 then some (c-97+10)else if 65<=c/\c<=70 then some (c-65+10)else none
def A9:Nat->Nat->By->Option (Nat×By)
 |0,n,l=>some (n,l)
 |k+1,n,l=>match Ci (pY l)with
  |none=>none
  |some d=>A9 k (n*16+d) l.tail
def Br(l:By):Option (Nat×By):=
 match A9 4 0 l with
 |none=>none
 |some (a,r)=>
  if a<55296\/57344<=a then some (a,r)
  else if 56320<=a then none
  else if pQ r 92 then(if pQ r.tail 117 then
   (match A9 4 0 r.tail.tail with
    |none=>none
    |some (b,r')=>if b<56320\/57344<=b then none else some (65536+(a-55296)*1024+(b-56320),r'))
   else none)else none
def DH:List (UInt8×Nat):=[(34,34),(92,92),(47,47),(98,8),(102,12),(110,10),(114,13),(116,9)]
def Cy(l:By):List (UInt8×Nat)->Option (Nat×By)
 |[]=>none
 |(c,n)::r=>if pQ l c then some (n,l.tail)else Cy l r
def rM(l:By):Option (Nat×By):=if pQ l 117 then Br l.tail else Cy l DH
def rC(l:By):Nat×Nat:=if l.length=0 then(65533,0)else Utf8.decode ⟨l.toArray⟩ 0
def rP(l:By):Option (Nat×By):=
 if pQ l 92 then rM l.tail
 else if(rC l).1<32\/((rC l).1=65533/\(rC l).2<2)then none else some ((rC l).1,l.drop (rC l).2)
def Ck:Nat->By->Option (By×By)
 |0,_=>none
 |f+1,l=>if pQ l 34 then some ([],l.tail)else match rP l with
  |none=>none
  |some (c,r)=>match Ck f r with
   |none=>none
   |some (s,r')=>some (C6 c++s,r')
def rJ(l:By):Option (By×By):=if pQ l 34 then Ck (l.length+1) l.tail else none
abbrev Bl(w w':AI):Prop:=F2 w.1.size w w'
abbrev CB(f:Nat)(args:Array AT)(w:AI)(v:AT):Prop:=A4 AS f args w λe w'=>e=.returned v/\F2 w.1.size w w'
theorem ck{w:AI}{t:Nat}{cs:Array AT}{fr:Nat×Nat}(h:w.1[g]?=some (.cells cs t fr))(e:cs[k]?=some v:=by rfl):w.cell? ⟨g,k,none⟩=some v:=by simp[World.cell?,h,e]
theorem fk{w:AI}{o t:Nat}{cs:Array AT}(h:w.1[g]?=some (.cells cs t (0,0))):w.frozen? ⟨g,o,none⟩=false:=by simp[World.frozen?,h]
theorem bx{B':Nat}{a' w:AI}(h:F2 B a w)(eB:B=B':=by rfl)(e:a.1=a'.1:=by rfl)(e1:a.os=a'.os:=by rfl)(e2:a.tape=a'.tape:=by rfl)(e3:a.output=a'.output:=by rfl)(f:w.1=w'.1:=by rfl)(f1:w.os=w'.os:=by rfl)(f2:w.tape=w'.tape:=by rfl)(f3:w.output=w'.output:=by rfl):F2 B' a' w':=by
 subst eB;exact⟨f1▸h.os.trans e1,f2▸h.tape.trans e2,f3▸h.output.trans e3,by rw[<-e,<-f];exact h.size,λk hk=>by rw[<-e,<-f];exact h.block k hk⟩
theorem Ab{p:Prop}(h:p):Hid p:=h
theorem Aa{p:Prop}(h:Hid p):p:=h
theorem Xt(w:AI)(a b:Nat):(w.drewN a).drewN b=w.drewN (a+b):=κ
structure Ac(X:Nat)(w w':AI):Prop where
 os:w'.os=w.os
 tape:w'.tape=w.tape
 output:w'.output=w.output
 size:w.1.size<=w'.1.size
 block:∀k,k<w.1.size->k≠X->w'.1[k]?=w.1[k]?
theorem Ac.refl(X:Nat)(w:AI):Ac X w w:=⟨rfl,rfl,rfl,Á _,λ_ _ _=>rfl⟩
theorem Ac.trans{b c:AI}(h:Ac X a b)(k:Ac X b c):Ac X a c:=
 ⟨k.os.trans h.os,k.tape.trans h.tape,k.output.trans h.output,Ã h.size k.size,λi hi hx=>(k.block i (Õ hi h.size) hx).trans (h.block i hi hx)⟩
theorem Ac.drewN{w:AI}(h:Ac X a w)(n:Nat):Ac X a (w.drewN n):=⟨h.os,h.tape,h.output,h.size,h.block⟩
theorem Ac.drew{w:AI}(h:Ac X a w):Ac X a w.drew:=⟨h.os,h.tape,h.output,h.size,h.block⟩
theorem Ac.alloc{w:AI}(h:Ac X a w)(o:Obj):Ac X a (w.alloc o):=
 h.trans ⟨rfl,rfl,rfl,φ,λk hk _=>Ä _ _ _ hk⟩
theorem Ac.setCell{w:AI}(h:Ac X a w){p:Addr}(hp:p.block=X)(u:AT):Ac X a (w.setCell p u):=
 h.trans ⟨rfl,rfl,rfl,κ,λk _ hx=>Æ _ _ _ _ ζ⟩
theorem Ac.setCell_new{w:AI}(h:Ac X a w){p:Addr}(hp:a.1.size<=p.block)(u:AT):Ac X a (w.setCell p u):=
 ⟨h.os,h.tape,h.output,by simpa[Bs]using h.size,λk hk hx=>(Æ _ _ _ _ ζ).trans (h.block k hk hx)⟩
theorem Ac.of_below{w:AI}(h:Bl w w'):Ac X w w':=⟨h.os,h.tape,h.output,h.size,λk hk _=>h.block k hk⟩
theorem Ac.below{w:AI}(h:Ac X w w')(hB:B<=X)(hs:B<=w.1.size):F2 B w w':=
 ⟨h.os,h.tape,h.output,h.size,λk hk=>h.block k ζ ζ⟩
theorem Ac.cell{w:AI}(h:Ac X w w'){p:Addr}(hp:p.block<w.1.size)(hx:p.block≠X):w'.cell? p=w.cell? p:=Ç (w:=w) (h.block p.block hp hx)
def RP(w:AI)(R:Nat)(t:ByteArray)(p:Nat)(tw:Bool)(dp fr:Int):Prop:=
 w.1[R]?=some (.cells #[.string t,.int .i64 p,.bool tw,.int .i64 dp,.int .i64 fr] 155 (0,0))
section
variable{w:AI}{R:Nat}{t:ByteArray}{p:Nat}{tw:Bool}{dp fr:Int}
theorem RP.lt(h:RP w R t p tw dp fr):R<w.1.size:=(È.1 h).1
theorem RP.c0(h:RP w R t p tw dp fr):w.cell? ⟨R,0,none⟩=some (.string t):=ck h
theorem RP.c1(h:RP w R t p tw dp fr):w.cell? ⟨R,1,none⟩=some (.int .i64 p):=ck h
theorem RP.c2(h:RP w R t p tw dp fr):w.cell? ⟨R,2,none⟩=some (.bool tw):=ck h
theorem RP.c3(h:RP w R t p tw dp fr):w.cell? ⟨R,3,none⟩=some (.int .i64 dp):=ck h
theorem RP.c4(h:RP w R t p tw dp fr):w.cell? ⟨R,4,none⟩=some (.int .i64 fr):=ck h
theorem RP.fz(h:RP w R t p tw dp fr)(o:Nat):w.frozen? ⟨R,o,none⟩=false:=fk h
theorem RP.drewN(h:RP w R t p tw dp fr)(n:Nat):RP (w.drewN n) R t p tw dp fr:=h
theorem RP.drew(h:RP w R t p tw dp fr):RP w.drew R t p tw dp fr:=h
theorem RP.alloc(h:RP w R t p tw dp fr)(o:Obj):RP (w.alloc o) R t p tw dp fr:=(Ä _ _ _ h.lt).trans h
theorem RP.set1(h:RP w R t p tw dp fr)(q:Nat):RP (w.setCell ⟨R,1,none⟩ (.int .i64 q)) R t q tw dp fr:=by
 grind [RP,Bs]
theorem RP.set2(h:RP w R t p tw dp fr)(q:Bool):RP (w.setCell ⟨R,2,none⟩ (.bool q)) R t p q dp fr:=by
 grind [RP,Bs]
theorem RP.set3(h:RP w R t p tw dp fr)(q:Int):RP (w.setCell ⟨R,3,none⟩ (.int .i64 q)) R t p tw q fr:=by
 grind [RP,Bs]
theorem RP.set4(h:RP w R t p tw dp fr)(q:Int):RP (w.setCell ⟨R,4,none⟩ (.int .i64 q)) R t p tw dp q:=by
 simp only[RP,Bs,ğ];grind [RP,Bs]
theorem RP.kept(h:RP w R t p tw dp fr)(hk:Ac X w w')(hx:R≠X):RP w' R t p tw dp fr:=(hk.block R h.lt hx).trans h
end
theorem DW(t:ByteArray)(p:Nat)(h:p<t.size):t.data.toList.drop p=t[p]::t.data.toList.drop (p+1):=by
 rw[Û κ];rfl
theorem aZ(t:ByteArray)(p:Nat)(h:¬p<t.size):t.data.toList.drop p=[]:=by
 simp_all
structure At(t:ByteArray)(p:Nat)(l:By):Prop where
 small:t.size<=2000
 le:p<=t.size
 eq:t.data.toList.drop p=l
theorem At.len{t:ByteArray}{p:Nat}{l:By}(h:At t p l):l.length=t.size-p:=by rw[<-h.eq];simp
theorem At.lt{t:ByteArray}{p:Nat}{l:By}(h:At t p (c::l)):p<t.size:=by
 have:=h.len;grind
theorem At.byte{t:ByteArray}{p:Nat}{l:By}(h:At t p (c::l)):t[p]'h.lt=c:=by
 have h1:=h.eq;rw[DW t p h.lt]at h1;grind
theorem At.next{t:ByteArray}{p:Nat}{l:By}(h:At t p (c::l)):At t (p+1) l:=
 ⟨h.small,h.lt,by have h1:=h.eq;rw[DW t p h.lt]at h1;grind⟩
theorem At.nil{t:ByteArray}{p:Nat}(h:At t p []):p=t.size:=by have h1:=h.len;have h2:=h.le;grind
theorem At.add{t:ByteArray}{p:Nat}{l:By}(h:At t p l)(n:Nat)(hn:n<=l.length):At t (p+n) (l.drop n):=
 ⟨h.small,by have:=h.len;have:=h.le;omega,by rw[<-h.eq,ŉ]⟩
section
variable{t:ByteArray}{p:Nat}
end
def RD(w:AI)(R:Nat)(t:ByteArray)(l:By)(tw:Bool)(dp fr:Int):Prop:=∃p,At t p l/\RP w R t p tw dp fr
theorem RD.lt{w:AI}{R:Nat}{t:ByteArray}{l:By}{tw:Bool}{dp fr:Int}(h:RD w R t l tw dp fr):R<w.1.size:=by obtain⟨p,_,h⟩:=h;exact h.lt
theorem RD.drewN{w:AI}{R:Nat}{t:ByteArray}{l:By}{tw:Bool}{dp fr:Int}(h:RD w R t l tw dp fr)(n:Nat):RD (w.drewN n) R t l tw dp fr:=h
theorem RD.alloc{w:AI}{R:Nat}{t:ByteArray}{l:By}{tw:Bool}{dp fr:Int}(h:RD w R t l tw dp fr)(o:Obj):RD (w.alloc o) R t l tw dp fr:=by obtain⟨p,a,h⟩:=h;exact⟨p,a,h.alloc o⟩
theorem RD.kept{w:AI}{R:Nat}{t:ByteArray}{l:By}{tw:Bool}{dp fr:Int}(h:RD w R t l tw dp fr)(hk:Ac X w w')(hx:R≠X):RD w' R t l tw dp fr:=by obtain⟨p,a,h⟩:=h;exact⟨p,a,h.kept hk hx⟩
def left(w:AI)(R:Nat):Nat:=
 match w.1[R]? with
 |some (.cells cs _ _)=>(match cs.toList with|(.string t)::(.int _ p)::_=>t.size-p.toNat|_=>0)
 |_=>0
theorem RD.left{w:AI}{R:Nat}{t:ByteArray}{l:By}{tw:Bool}{dp fr:Int}(h:RD w R t l tw dp fr):left w R=l.length:=by
 obtain⟨p,a,h⟩:=h;simp[Go.Proofs.YtdpomdelmdofmaaGreatDoor.left,show w.1[R]?=_ from h,a.len]
abbrev NG:Nat:=12
def CP:Array AT:=#[.int .u8 34,.int .i32 34,.int .u8 92,.int .i32 92,.int .u8 47,.int .i32 47,.int .u8 98,.int .i32 8,.int .u8 102,.int .i32 12,.int .u8 110,.int .i32 10,.int .u8 114,.int .i32 13,.int .u8 116,.int .i32 9]
def CU:Array AT:=#[.string ⟨#[110,117,108,108]⟩,.string ⟨#[116,114,117,101]⟩,.string ⟨#[102,97,108,115,101]⟩]
def FJ:Array AT:=#[.string ⟨#[126,48]⟩,.int .u8 126,.string ⟨#[126,49]⟩,.int .u8 47]
def Fq(w:AI):Prop:=∃t fr,w.1[4]?=some (.cells FJ t fr)
def C8:Array AT:=#[.string ⟨#[97,100,100]⟩,.bool true,.bool false,.string ⟨#[114,101,109,111,118,101]⟩,.bool false,.bool false,.string ⟨#[114,101,112,108,97,99,101]⟩,.bool true,.bool false,
 .string ⟨#[109,111,118,101]⟩,.bool false,.bool true,.string ⟨#[99,111,112,121]⟩,.bool false,.bool true,.string ⟨#[116,101,115,116]⟩,.bool true,.bool false]
def Jy(w:AI):Prop:=∃t fr,w.1[3]?=some (.cells C8 t fr)
def Rng(w:AI):Prop:=∃ev,w.cell? ⟨9,0,none⟩=some ev/\(ev=.nilIface\/∃te pe,ev=.iface te pe)
def Mx(w:AI):Prop:=∃m,w.cell? ⟨6,0,none⟩=some (.int .i64 m)
structure Aj(w:AI):Prop where
 ng:NG<=w.1.size
 esc:∃t fr,w.1[7]?=some (.cells CP t fr)
 words:∃t fr,w.1[0]?=some (.cells CU t fr)
 utf8:Lib.Utf8Tabs 1 2 w
 pow:∃t fr,w.1[5]?=some (.cells (Lib.pow10Tab.map λz=>Value.int .u64 z).toArray t fr)
 pesc:Fq w
 rng:Rng w
 mx:Mx w
 otab:Jy w
theorem Aj.below{w:AI}(h:Aj w)(hb:F2 NG w w'):Aj w':=by
 have hc:∀g o,g<NG->w'.cell? ⟨g,o,none⟩=w.cell? ⟨g,o,none⟩:=λg o hg=>hb.cell (p:=⟨g,o,none⟩) hg;refine⟨Ã h.ng hb.size,?_,?_,⟨λc q0=>by rw[hc _ _ η];exact h.utf8.1 c q0,λi hi=>⟨by rw[hc _ _ η];exact(h.utf8.2 i hi).1,by rw[hc _ _ η];exact(h.utf8.2 i hi).2⟩⟩,?_,?_,?_,?_,?_⟩
 .obtain⟨t,fr,e⟩:=h.esc;exact⟨t,fr,(hb.block _ η).trans e⟩
 .obtain⟨t,fr,e⟩:=h.words;exact⟨t,fr,(hb.block _ η).trans e⟩
 .obtain⟨t,fr,e⟩:=h.pow;exact⟨t,fr,(hb.block _ η).trans e⟩
 .obtain⟨t,fr,e⟩:=h.pesc;exact⟨t,fr,(hb.block _ η).trans e⟩
 .obtain⟨ev,h1,h2⟩:=h.rng;exact⟨ev,ε,h2⟩
 .obtain⟨m,h1⟩:=h.mx;exact⟨m,ε⟩
 .obtain⟨t,fr,e⟩:=h.otab;exact⟨t,fr,(hb.block _ η).trans e⟩
theorem Aj.kept{w:AI}(h:Aj w)(hk:Ac X w w')(hX:NG<=X):Aj w':=h.below (hk.below hX h.ng)
@[reducible,go_sem]
def PtB(b:Nat):AT:=.pointer (some ⟨b,0,none⟩)
@[reducible,go_sem]
def SlB(g n c:Nat):AT:=.slice (some ⟨g,0,none⟩) n c
@[reducible,go_sem]
def CeB(w:AI)(g k:Nat):Option AT:=w.cell? ⟨g,k,none⟩
@[reducible,go_sem]
def InB(k:Int):AT:=.int .i64 k
theorem Y3{w:AI}{R:Nat}{t:ByteArray}{l:By}{tw:Bool}{dp fr:Int}(h:RD w R t l tw dp fr):
  A4 AS 179 #[PtB R] w λe w'=>e=.returned (.int .u8 (pY l))/\∃n,w'=w.drewN n:=by
 obtain⟨p,ha,h⟩:=h;have c0:=h.c0;have c1:=h.c1;clear h;cases l with
 |cons c l=>
  have hlt:=ha.lt;have hne:((p:Int)==(t.size:Int))=false:=ω;have hpk:Hid (pY (c::l)=t[p].toNat):=by rw[ha.byte];rfl
  clear ha;go_enter func179,ntmps179;go_wp2_with fail;go_quiet(fail);go_wp2_with fail;go_quiet(fail);go_wp2_with fail;rw[hpk.out];go_ret;exact⟨rfl,_,Xt _ _ _⟩
 |nil=>
  have hp:=ha.nil;have hne:((p:Int)==(t.size:Int))=true:=ω;clear ha hp;go_enter func179,ntmps179;go_wp2_with fail;go_quiet(fail);go_wp2;go_ret;exact⟨rfl,_,rfl⟩
theorem eC{w:AI}{R:Nat}{t:ByteArray}{l:By}{tw:Bool}{dp fr:Int}(u:UInt8)(c:Int)(hc:c=u.toNat)(h:RD w R t l tw dp fr)(hk:pQ l u=false):
  A4 AS 178 #[PtB R,.int .u8 c] w λe w'=>e=.returned (.bool false)/\∃n,w'=w.drewN n:=by
 obtain⟨p,ha,h⟩:=h;have c0:=h.c0;have c1:=h.c1;clear h;cases l with
 |cons d l=>
  have hlt:=ha.lt;have hne:((p:Int)==(t.size:Int))=false:=ω;have q0:((t[p].toNat:Int)==c)=false:=by
   rw[ha.byte,hc];simp[pQ]at hk |-;intro h;exact hk (ì.1 ζ)
  have q4:((t[p].toNat:Int)!=c)=true:=ε;clear hk ha hc;go_enter func178,ntmps178;go_wp2_with fail;go_quiet(fail);go_wp2;go_ret;exact⟨rfl,_,rfl⟩
 |nil=>
  have hp:=ha.nil;have hne:((p:Int)==(t.size:Int))=true:=ω;clear hk ha hp hc;go_enter func178,ntmps178;go_wp2_with fail;go_quiet(fail);go_wp2;go_ret;exact⟨rfl,_,rfl⟩
theorem AX{w:AI}{R:Nat}{t:ByteArray}{l:By}{tw:Bool}{dp fr:Int}(u:UInt8)(c:Int)(hc:c=u.toNat)(h:RD w R t l tw dp fr)(hk:pQ l u=true):
  A4 AS 178 #[PtB R,.int .u8 c] w λe w'=>e=.returned (.bool true)/\RD w' R t l.tail tw dp fr/\Ac R w w':=by
 obtain⟨p,ha,h⟩:=h;cases l with
 |nil=>simp[pQ]at hk
 |cons d l=>
  have hlt:=ha.lt;have hne:((p:Int)==(t.size:Int))=false:=ω;have q5:(p:Int)<2000:=by have:=ha.small;omega
  have q0:((t[p].toNat:Int)==c)=true:=by grind [pQ,ha.byte,bne]
  have q4:((t[p].toNat:Int)!=c)=false:=ε;have HF:Hid (∀n,RD ((w.drewN n).setCell ⟨R,1,none⟩ (InB ((p+1:Nat):Int))) R t l tw dp fr):=Ab λn=>⟨p+1,ha.next,(h.drewN n).set1 (p+1)⟩
  have HK:Hid (∀n v,Ac R w ((w.drewN n).setCell ⟨R,1,none⟩ v)):=Ab λn v=>((Ac.refl R w).drewN n).setCell rfl v;have c0:=h.c0;have c1:=h.c1;have f1:=h.fz 1;clear hk h ha hc;go_enter func178,ntmps178;go_wp2_with fail;go_quiet(fail);go_wp2;go_ret;exact⟨rfl,HF.u _,HK.u _ _⟩
def Da(n:Nat):Bool:=decide (48<=n) && decide (n<=57)
theorem BT(n:Nat)(w:AI)(hn:n<256):
  A4 AS 183 #[.int .u8 n] w λe w'=>e=.returned (.bool (Da n))/\w'=w:=by
 have hd:Hid (Da n=(decide (48<=(n:Int)) && decide ((n:Int)<=57))):=by
  simp only[Da,Hid];rw[ī];simp;omega
 by_cases h1:48<=n
 .have e1:decide ((48:Int)<=(n:Int))=true:=ω;go_enter func183,ntmps183;go_wp2_with fail;rw[hd.out];go_ret;simp_all
 .have e1:decide ((48:Int)<=(n:Int))=false:=ω;go_enter func183,ntmps183;go_wp2_with fail;rw[hd.out];go_ret;exact⟨by simp[e1],rfl⟩
theorem LU{w:AI}{R:Nat}{t:ByteArray}{l:By}{tw:Bool}{dp fr:Int}(h:RD w R t l tw dp fr):
  A4 AS 179 #[PtB R] w λe w'=>e=.returned (.int .u8 (pY l))/\RD w' R t l tw dp fr/\Ac R w w':=
 (Y3 h).mono λ_ _ ⟨he,n,hw⟩=>⟨he,hw▸h.drewN n,hw▸(Ac.refl R w).drewN n⟩
theorem BR{w:AI}{R:Nat}{t:ByteArray}{l:By}{tw:Bool}{dp fr:Int}(u:UInt8)(c:Int)(hc:c=u.toNat)(h:RD w R t l tw dp fr)(hk:pQ l u=false):
  A4 AS 178 #[PtB R,.int .u8 c] w λe w'=>e=.returned (.bool false)/\RD w' R t l tw dp fr/\Ac R w w':=
 (eC u c hc h hk).mono λ_ _ ⟨he,n,hw⟩=>⟨he,hw▸h.drewN n,hw▸(Ac.refl R w).drewN n⟩
theorem LT(l:By):pY l<256:=by
 cases l with
 |nil=>simp[pY]
 |cons c r=>simpa[pY]using c.toNat_lt
theorem oB(n:Nat)(w:AI)(h1:48<=n)(h2:n<=57):
  A4 AS 319 #[.int .u8 n] w λe w'=>e=.returned (.tuple #[.int .i32 ((n:Int)-48),.bool true])/\w'=w:=by
 have hd:Da n=true:=by grind [Da]
 have HD:=Ab hd;clear hd;go_enter func319,ntmps319;go_wp2_with fail;refine(BT n _ ζ).mono ?_;rintro e w2⟨rfl,rfl⟩;rw[HD.u];go_wp2;go_ret2;simp_all
theorem oA(n:Nat)(w:AI)(h1:97<=n)(h2:n<=102):
  A4 AS 319 #[.int .u8 n] w λe w'=>e=.returned (.tuple #[.int .i32 ((n:Int)-97+10),.bool true])/\w'=w:=by
 have hd:Da n=false:=by grind [Da]
 have HD:=Ab hd;have e1:decide ((97:Int)<=(n:Int))=true:=ω;have e2:decide ((n:Int)<=102)=true:=ω;clear hd;go_enter func319,ntmps319;go_wp2_with fail;refine(BT n _ ζ).mono ?_;rintro e w2⟨rfl,rfl⟩;rw[HD.u];go_wp2;go_ret2;simp_all
theorem nZ(n:Nat)(w:AI)(h1:65<=n)(h2:n<=70):
  A4 AS 319 #[.int .u8 n] w λe w'=>e=.returned (.tuple #[.int .i32 ((n:Int)-65+10),.bool true])/\w'=w:=by
 have hd:Da n=false:=by grind [Da]
 have HD:=Ab hd;have e1:decide ((97:Int)<=(n:Int))=false:=ω;have e2:decide ((65:Int)<=(n:Int))=true:=ω;have e3:decide ((n:Int)<=70)=true:=ω;clear hd;go_enter func319,ntmps319;go_wp2_with fail;refine(BT n _ ζ).mono ?_;rintro e w2⟨rfl,rfl⟩;rw[HD.u];go_wp2;go_ret2;simp_all
theorem nY(n:Nat)(w:AI)(h0:n<256)(h1:¬(48<=n/\n<=57))(h2:¬(97<=n/\n<=102))(h3:¬(65<=n/\n<=70)):
  A4 AS 319 #[.int .u8 n] w λe w'=>e=.returned (.tuple #[.int .i32 0,.bool false])/\w'=w:=by
 have hd:Da n=false:=by grind [Da]
 have HD:=Ab hd;have hc:(n<65)\/(70<n/\n<97)\/(102<n):=ζ;clear hd h1 h2 h3;rcases hc with a|⟨a,b⟩|a
 .have e1:decide ((97:Int)<=(n:Int))=false:=ω;have e2:decide ((65:Int)<=(n:Int))=false:=ω;go_enter func319,ntmps319;go_wp2_with fail;refine(BT n _ ζ).mono ?_;rintro e w2⟨rfl,rfl⟩;rw[HD.u];go_wp2;go_ret2;simp_all
 .have e1:decide ((97:Int)<=(n:Int))=false:=ω;have e2:decide ((65:Int)<=(n:Int))=true:=ω;have e3:decide ((n:Int)<=70)=false:=ω;go_enter func319,ntmps319;go_wp2_with fail;refine(BT n _ ζ).mono ?_;rintro e w2⟨rfl,rfl⟩;rw[HD.u];go_wp2;go_ret2;simp_all
 .have e1:decide ((97:Int)<=(n:Int))=true:=ω;have e2:decide ((n:Int)<=102)=false:=ω;have e3:decide ((65:Int)<=(n:Int))=true:=ω;have e4:decide ((n:Int)<=70)=false:=ω;go_enter func319,ntmps319;go_wp2_with fail;refine(BT n _ ζ).mono ?_;rintro e w2⟨rfl,rfl⟩;rw[HD.u];go_wp2;go_ret2;simp_all
theorem ZW(n d:Nat)(w:AI)(h:Ci n=some d):
  A4 AS 319 #[.int .u8 n] w λe w'=>e=.returned (.tuple #[.int .i32 d,.bool true])/\w'=w:=by
 unfold Ci at h;split at h
 .rename_i a;cases h;exact(oB n w a.1 a.2).mono ε
 .split at h
  .rename_i a;cases h;exact(oA n w a.1 a.2).mono ε
  .split at h
   .rename_i a;cases h;exact(nZ n w a.1 a.2).mono ε
   .cases h
theorem ZX(n:Nat)(w:AI)(h0:n<256)(h:Ci n=none):
  A4 AS 319 #[.int .u8 n] w λe w'=>e=.returned (.tuple #[.int .i32 0,.bool false])/\w'=w:=by
 unfold Ci at h;split at h
 .cases h
 .split at h
  .cases h
  .split at h
   .cases h
   .rename_i a b c;exact nY n w h0 a b c
theorem MY{d:Nat}(h:Ci n=some d):d<16:=by
 grind [Ci]
theorem MX(n:Nat)(h:n<2147483648):IntKind.i32.wrap (n:Int)=(n:Int):=by
 grind [IntKind.wrap,IntKind.bits,IntKind.signed]
theorem PE(a:Nat)(ha:a<4294967296):(C0 32 (a:Int)).toNat=a:=by
 grind
theorem UG(a b:Nat)(ha:a<2147483648)(hb:b<2147483648):bits .or .i32 (a:Int) (b:Int)=((a ||| b:Nat):Int):=by
 have q0:a ||| b<2147483648:=Nat.or_lt_two_pow (n:=31) ha hb;show IntKind.i32.wrap ((C0 32 (a:Int) ||| C0 32 (b:Int)).toNat:Int)=_;rw[BitVec.toNat_or,PE a ζ,PE b ζ];exact MX _ q0
theorem lM(m d:Nat)(hm:m<65536)(hd:d<16):bits .or .i32 (wrap32 ((m:Int)*16)) (d:Int)=((m*16+d:Nat):Int):=by
 have e:wrap32 ((m:Int)*16)=((m*16:Nat):Int):=by unfold wrap32;omega
 rw[e,UG _ _ ζ ζ];have:=Nat.shiftLeft_add_eq_or_of_lt (i:=4) (b:=d) ζ m;grind [Nat.shiftLeft_eq,wrap32]
theorem Is{w:AI}{R:Nat}{t:ByteArray}{l:By}{tw:Bool}{dp fr:Int}(h:RD w R t l tw dp fr):
  A4 AS 312 #[.pointer (some ⟨R,0,none⟩)] w λe w'=>Ac R w w'/\∃l',RD w' R t l' tw dp fr/\
   ((∃n,A9 4 0 l=some (n,l')/\e=.returned (.tuple #[.int .i32 n,.bool true]))\/(A9 4 0 l=none/\e=.returned (.tuple #[.int .i32 0,.bool false]))):=by
 go_enter func312,ntmps312;go_wp2;go_loopw [4,7] (λn i wr=>∃(k m:Nat) (l':By),k<=4/\i=.int .i64 k/\n=.int .i32 m/\m<16 ^ k/\RD wr R t l' tw dp fr/\A9 4 0 l=A9 (4-k) m l'/\Ac R w wr) (λ_ i _=>4-(intOf i).toNat)
 case atStart=>exact⟨0,0,l,ζ,rfl,rfl,ζ,h,rfl,Ac.refl R w⟩
 case round=>
  obtain⟨k,m,l',q8,rfl,rfl,hm,hr,he,hk⟩:=hrel;have HE:=Ab he;clear he h;by_cases hlt:k<4
  .have h5:∃j,4-k=j+1:=⟨3-k,ζ⟩
   cases hd:Ci (pY l')with
   |none=>
    have HD:=Ab hd;clear hd;go_wp2_with fail;refine(LU hr).mono ?_;rintro e w1⟨rfl,q5,q0⟩;go_wp2_with fail;refine(ZX _ _ (LT l') HD.u).mono ?_;rintro e w2⟨rfl,rfl⟩;go_wp2;go_ret2;refine⟨hk.trans q0,l',q5,À ⟨?_,rfl⟩⟩;obtain⟨j,hj⟩:=h5;rw[HE.u,hj,A9,HD.u]
   |some d=>
    have HD:=Ab hd;have q7:=MY hd;clear hd;go_wp2_with fail;refine(LU hr).mono ?_;rintro e w1⟨rfl,q5,q0⟩;go_wp2_with fail;refine(ZW _ d _ HD.u).mono ?_;rintro e w2⟨rfl,rfl⟩;obtain⟨q,ha,hq⟩:=q5;have c1:=hq.c1;have f1:=hq.fz 1;have hs:=ha.small;have qb:=ha.le;have HQ:=Ab hq;have q6:=Ab ha;clear hq ha hr;go_wp2;go_roundw
    case rel=>
     obtain⟨j,hj⟩:=h5;have q9:(16:Nat) ^ k<=16 ^ 3:=Nat.pow_le_pow_right ζ ζ;have q4:1<=l'.length:=by
      have:=HD.u;grind [A9,pY,Ci]
     refine⟨k+1,m*16+d,l'.tail,ζ,ψ,by rw[lM m d ζ q7],ζ,⟨q+1,by simpa using q6.u.add 1 q4,HQ.u.set1 (q+1)⟩,?_,(hk.trans q0).setCell rfl _⟩;rw[HE.u,hj,A9,HD.u,show 4-(k+1)=j from ζ]
    case measure=>simp[intOf];omega
  .go_wp2;go_ret2;refine⟨hk,l',hr,Å ⟨m,?_,rfl⟩⟩;rw[HE.u,show 4-k=0 from ζ,A9]
theorem Bq{l:By}(h:¬pQ l c=true):pQ l c=false:=ε
theorem EP{l:By}(h:pQ l c=true)(hc:uD c=true):pR l=pR l.tail/\l.tail.length<l.length:=by
 cases l with
 |nil=>simp[pQ]at h
 |cons d r=>
  have:d=c:=by simpa[pQ]using h
  subst this;simp[pR,hc]
theorem kC{l:By}(h1:pQ l 32=false)(h2:pQ l 9=false)(h3:pQ l 10=false)(h4:pQ l 13=false):pR l=l:=by
 cases l with
 |nil=>rfl
 |cons d r=>
  grind [pQ,pR,uD]
theorem Dv{w:AI}{R:Nat}{t:ByteArray}{l:By}{tw:Bool}{dp fr:Int}(h:RD w R t l tw dp fr):
  A4 AS 136 #[.pointer (some ⟨R,0,none⟩)] w λe w'=>e=.returned (.tuple #[])/\RD w' R t (pR l) tw dp fr/\Ac R w w':=by
 go_enter func136,ntmps136;go_wp2;go_loopw [2] (λ_ wr=>∃l',RD wr R t l' tw dp fr/\pR l=pR l'/\Ac R w wr) (λ_ wr=>left wr R)
 case atStart=>exact⟨l,h,rfl,Ac.refl R w⟩
 case round=>
  obtain⟨l',hr,he,hk⟩:=hrel;have HE:=Ab he;have HL:=Ab hr.left;clear he h;by_cases k1:pQ l' 32=true
  .go_wp2_with fail;refine(AX 32 _ rfl hr k1).mono ?_;rintro e w' ⟨rfl,q0,q4⟩;go_wp2;go_roundw
   case rel=>exact⟨l'.tail,q0,HE.u.trans (EP k1 rfl).1,hk.trans q4⟩
   case measure=>rw[q0.left,HL.u];exact(EP k1 rfl).2
  .have k1:=Ab (Bq k1);go_wp2_with fail;refine(BR 32 _ rfl hr k1.u).mono ?_;rintro e w1⟨rfl,q8,q5⟩;have q5:=hk.trans q5;by_cases k2:pQ l' 9=true
   .go_wp2_with fail;refine(AX 9 _ rfl q8 k2).mono ?_;rintro e w' ⟨rfl,q0,q4⟩;go_wp2;go_roundw
    case rel=>exact⟨l'.tail,q0,HE.u.trans (EP k2 rfl).1,q5.trans q4⟩
    case measure=>rw[q0.left,HL.u];exact(EP k2 rfl).2
   .have k2:=Ab (Bq k2);go_wp2_with fail;refine(BR 9 _ rfl q8 k2.u).mono ?_;rintro e w2⟨rfl,q9,hk2⟩;have hk2:=q5.trans hk2;by_cases k3:pQ l' 10=true
    .go_wp2_with fail;refine(AX 10 _ rfl q9 k3).mono ?_;rintro e w' ⟨rfl,q0,q4⟩;go_wp2;go_roundw
     case rel=>exact⟨l'.tail,q0,HE.u.trans (EP k3 rfl).1,hk2.trans q4⟩
     case measure=>rw[q0.left,HL.u];exact(EP k3 rfl).2
    .have k3:=Ab (Bq k3);go_wp2_with fail;refine(BR 10 _ rfl q9 k3.u).mono ?_;rintro e w3⟨rfl,qb,q6⟩;have q6:=hk2.trans q6;by_cases k4:pQ l' 13=true
     .go_wp2_with fail;refine(AX 13 _ rfl qb k4).mono ?_;rintro e w' ⟨rfl,q0,q4⟩;go_wp2;go_roundw
      case rel=>exact⟨l'.tail,q0,HE.u.trans (EP k4 rfl).1,q6.trans q4⟩
      case measure=>rw[q0.left,HL.u];exact(EP k4 rfl).2
     .have k4:=Ab (Bq k4);go_wp2_with fail;refine(BR 13 _ rfl qb k4.u).mono ?_;rintro e w4⟨rfl,qd,q7⟩;have q7:=q6.trans q7;go_wp2_with fail;have hq:=kC k1.u k2.u k3.u k4.u;go_end0;refine⟨rfl,?_,q7⟩;rw[HE.u,hq];exact qd
theorem UH(k n:Nat)(l:By)(m:Nat)(r:By)(h:A9 k n l=some (m,r)):m<(n+1)*16 ^ k:=by
 induction k generalizing n l with
 |zero=>simp[A9]at h;omega
 |succ k ih=>
  rw[A9]at h;cases hd:Ci (pY l)with
  |none=>grind
  |some d=>
   rw[hd]at h;have h1:=ih _ _ h;have h2:=MY hd;have h3:(n*16+d+1)*16 ^ k<=(n+1)*16*16 ^ k:=Nat.mul_le_mul_right _ ζ;grind
theorem Mo{l r:By}(h:A9 4 0 l=some (m,r)):m<65536:=by
 have:=UH 4 0 l m r h;omega
def eX(l:By)(e:DA)(w':AI)(R:Nat)(t:ByteArray)(tw:Bool)(dp fr:Int):Prop:=
 (∃n l',Br l=some (n,l')/\e=.returned (.tuple #[.int .i32 n,.bool true])/\RD w' R t l' tw dp fr)\/
  (Br l=none/\∃n l',e=.returned (.tuple #[.int .i32 n,.bool false])/\RD w' R t l' tw dp fr)
theorem TP{w:AI}{R:Nat}{t:ByteArray}{l:By}{tw:Bool}{dp fr:Int}(h:RD w R t l tw dp fr):
  A4 AS 295 #[PtB R] w λe w'=>Ac R w w'/\eX l e w' R t tw dp fr:=by
 go_enter func295,ntmps295;go_wp2_with fail;refine(Is h).mono ?_;rintro e w1⟨q0,l1,q4,hc⟩;rcases hc with⟨a,ha,rfl⟩|⟨hn,rfl⟩
 .have HS:Hid (Br l=if a<55296\/57344<=a then some (a,l1)else if 56320<=a then none
   else if pQ l1 92 then(if pQ l1.tail 117 then(match A9 4 0 l1.tail.tail with
     |none=>none
     |some (b,r')=>if b<56320\/57344<=b then none else some (65536+(a-55296)*1024+(b-56320),r'))
    else none)else none):=by unfold Br;rw[ha];rfl
  have hb:=Mo ha;clear ha h;by_cases c1:a<55296
  .have e1:decide ((a:Int)<55296)=true:=ω;go_wp2;go_ret2;refine⟨q0,Å ⟨a,l1,?_,rfl,q4⟩⟩;grind [Br,pQ,Hid]
  .by_cases c2:57344<=a
   .have e1:decide ((a:Int)<55296)=false:=ω;have e2:decide ((57344:Int)<=(a:Int))=true:=ω;go_wp2;go_ret2;refine⟨q0,Å ⟨a,l1,?_,rfl,q4⟩⟩;grind [Br,pQ,Hid]
   .have e1:decide ((a:Int)<55296)=false:=ω;have e2:decide ((57344:Int)<=(a:Int))=false:=ω;by_cases c3:56320<=a
    .have e3:decide ((56320:Int)<=(a:Int))=true:=ω;go_wp2;go_ret2;refine⟨q0,À ⟨?_,0,l1,rfl,q4⟩⟩;grind [Br,pQ,Hid]
    .have e3:decide ((56320:Int)<=(a:Int))=false:=ω;have HT:Hid (Br l=if pQ l1 92 then(if pQ l1.tail 117 then(match A9 4 0 l1.tail.tail with
       |none=>none
       |some (b,r')=>if b<56320\/57344<=b then none else some (65536+(a-55296)*1024+(b-56320),r'))
      else none)else none):=ε
     clear HS;by_cases k1:pQ l1 92=true
     .have K1:=Ab k1;clear k1;go_wp2_with fail;refine(AX 92 _ rfl q4 K1.u).mono ?_;rintro e w2⟨rfl,q5,hk2⟩;by_cases k2:pQ l1.tail 117=true
      .have K2:=Ab k2;clear k2;go_wp2_with fail;refine(AX 117 _ rfl q5 K2.u).mono ?_;rintro e w3⟨rfl,q8,q7⟩;go_wp2_with fail;refine(Is q8).mono ?_;rintro e w4⟨q9,l4,q6,hc⟩;have hkk:=((q0.trans hk2).trans q7).trans q9;rcases hc with⟨b,hb4,rfl⟩|⟨hn,rfl⟩
       .have qb:=Mo hb4;have HU:Hid (Br l=if b<56320\/57344<=b then none else some (65536+(a-55296)*1024+(b-56320),l4)):=by
         grind [Br,pQ,Hid]
        clear HT hb4;by_cases d1:b<56320
        .have g1:decide ((b:Int)<56320)=true:=ω;go_wp2;go_ret2;exact⟨hkk,À ⟨by grind [Br,pQ,Hid],0,l4,rfl,q6⟩⟩
        .have g1:decide ((b:Int)<56320)=false:=ω;by_cases d2:57344<=b
         .have g2:decide ((57344:Int)<=(b:Int))=true:=ω;go_wp2;go_ret2;exact⟨hkk,À ⟨by grind [Br,pQ,Hid],0,l4,rfl,q6⟩⟩
         .have g2:decide ((57344:Int)<=(b:Int))=false:=ω;have he:Hid (65536+((a:Int)-55296)*1024+(b:Int)-56320=((65536+(a-55296)*1024+(b-56320):Nat):Int)):=Ab ζ;go_wp2_with fail;rw[he.u];go_ret2;exact⟨hkk,Å ⟨65536+(a-55296)*1024+(b-56320),l4,by grind [Br,pQ,Hid],rfl,q6⟩⟩
       .have HU:Hid (Br l=none):=ε;clear HT hn;go_wp2;go_ret2;exact⟨hkk,À ⟨HU.u,0,l4,rfl,q6⟩⟩
      .have K2:=Ab (Bq k2);clear k2;go_wp2_with fail;refine(BR 117 _ rfl q5 K2.u).mono ?_;rintro e w3⟨rfl,q8,q7⟩;go_wp2;go_ret2;refine⟨(q0.trans hk2).trans q7,À ⟨?_,0,_,rfl,q8⟩⟩;grind [Br,pQ,Hid]
     .have K1:=Ab (Bq k1);clear k1;go_wp2_with fail;refine(BR 92 _ rfl q4 K1.u).mono ?_;rintro e w2⟨rfl,q5,hk2⟩;go_wp2;go_ret2;refine⟨q0.trans hk2,À ⟨?_,0,_,rfl,q5⟩⟩;grind [Br,pQ,Hid]
 .have HS:Hid (Br l=none):=by unfold Hid Br;rw[hn]
  clear hn h;go_wp2;go_ret2;exact⟨q0,À ⟨HS.u,0,l1,rfl,q4⟩⟩
def GU(j:Nat):UInt8:=(DH.getD j (0,0)).1
def M4(j:Nat):Nat:=(DH.getD j (0,0)).2
theorem lW(w:AI):(A3 335 (.agg CP) (InB 0)).run AS w=.ok (.agg #[.int .u8 34,.int .i32 34]) w:=δ
theorem lV(w:AI):(A3 335 (.agg CP) (InB 1)).run AS w=.ok (.agg #[.int .u8 92,.int .i32 92]) w:=δ
theorem lU(w:AI):(A3 335 (.agg CP) (InB 2)).run AS w=.ok (.agg #[.int .u8 47,.int .i32 47]) w:=δ
theorem lT(w:AI):(A3 335 (.agg CP) (InB 3)).run AS w=.ok (.agg #[.int .u8 98,.int .i32 8]) w:=δ
theorem lS(w:AI):(A3 335 (.agg CP) (InB 4)).run AS w=.ok (.agg #[.int .u8 102,.int .i32 12]) w:=δ
theorem lR(w:AI):(A3 335 (.agg CP) (InB 5)).run AS w=.ok (.agg #[.int .u8 110,.int .i32 10]) w:=δ
theorem lQ(w:AI):(A3 335 (.agg CP) (InB 6)).run AS w=.ok (.agg #[.int .u8 114,.int .i32 13]) w:=δ
theorem lP(w:AI):(A3 335 (.agg CP) (InB 7)).run AS w=.ok (.agg #[.int .u8 116,.int .i32 9]) w:=δ
theorem iA(j:Nat)(hj:j<8)(w:AI):(A3 335 (.agg CP) (InB j)).run AS w=.ok (.agg #[.int .u8 (GU j).toNat,.int .i32 (M4 j)]) w:=by
 match j,hj with
 |0,_=>exact lW w
 |1,_=>exact lV w
 |2,_=>exact lU w
 |3,_=>exact lT w
 |4,_=>exact lS w
 |5,_=>exact lR w
 |6,_=>exact lQ w
 |7,_=>exact lP w
theorem Ln(l:By)(j:Nat)(hj:j<8):Cy l (DH.drop j)=if pQ l (GU j)then some (M4 j,l.tail)else Cy l (DH.drop (j+1)):=by
 match j,hj with
 |0,_=>rfl
 |1,_=>rfl
 |2,_=>rfl
 |3,_=>rfl
 |4,_=>rfl
 |5,_=>rfl
 |6,_=>rfl
 |7,_=>rfl
def Kt(o:Option (Nat×By))(e:DA)(w':AI)(R:Nat)(t:ByteArray)(tw:Bool)(dp fr:Int):Prop:=
 (∃n l',o=some (n,l')/\e=.returned (.tuple #[.int .i32 n,.bool true])/\RD w' R t l' tw dp fr)\/
  (o=none/\∃n l',e=.returned (.tuple #[.int .i32 n,.bool false])/\RD w' R t l' tw dp fr)
theorem Ro{w:AI}{R:Nat}{t:ByteArray}{l:By}{tw:Bool}{dp fr:Int}(h:RD w R t l tw dp fr)(hT:Aj w)(hR:NG<=R)(k1:pQ l 117=false):
  A4 AS 261 #[PtB R] w λe w'=>Ac R w w'/\Kt (rM l) e w' R t tw dp fr:=by
 have hE:Hid (rM l=Cy l DH):=by unfold Hid rM;grind
 have K1:=Ab k1;clear k1;go_enter func261,ntmps261;go_wp2_with fail;refine(BR 117 _ rfl h K1.u).mono ?_;rintro e w1⟨rfl,q7,q5⟩;obtain⟨tt,fz,q4⟩:=(hT.kept q5 hR).esc;clear h hT;go_wp2_with (refine wpList_load_row rfl 335 _ rfl 7 rfl tt _ fz _ q4 underlying335 rfl δ ?_);clear q4;go_loopw [13] (λi wr=>∃j:Nat,j<=8/\i=.int .i64 j/\RD wr R t l tw dp fr/\Ac R w wr/\Cy l DH=Cy l (DH.drop j)) (λi _=>8-(intOf i).toNat)
 case atStart=>grind
 case round=>
  obtain⟨j,q8,rfl,hr,hk,he⟩:=hrel;have HE:=Ab he;clear he q7 q5;by_cases hlt:j<8
  .have q6:=iA j hlt;go_wp2_with fail;by_cases k2:pQ l (GU j)=true
   .have K2:=Ab k2;clear k2;refine(AX (GU j) _ rfl (hr.alloc _) K2.u).mono ?_;rintro e w2⟨rfl,q0,hk2⟩;have d1:w2.cell? ⟨wr.1.size,1,none⟩=some (.int .i32 (M4 j)):=by
     rw[hk2.cell φ (by have:=hr.lt;simp;omega)];simp
    go_wp2;go_ret2;refine⟨(hk.alloc _).trans hk2,Å ⟨M4 j,l.tail,?_,rfl,q0⟩⟩;rw[hE.u,HE.u,Ln l j hlt,K2.u];rfl
   .have K2:=Ab (Bq k2);clear k2;refine(BR (GU j) _ rfl (hr.alloc _) K2.u).mono ?_;rintro e w2⟨rfl,q0,hk2⟩;go_wp2;go_roundw
    case rel=>exact⟨j+1,ζ,ψ,q0,(hk.alloc _).trans hk2,by rw[HE.u,Ln l j hlt,K2.u];rfl⟩
    case measure=>simp[intOf];omega
  .go_wp2;go_ret2;refine⟨hk,À ⟨?_,0,l,rfl,hr⟩⟩;rw[hE.u,HE.u,show j=8 from ζ];rfl
theorem UL{w:AI}{R:Nat}{t:ByteArray}{l:By}{tw:Bool}{dp fr:Int}(h:RD w R t l tw dp fr)(hT:Aj w)(hR:NG<=R):
  A4 AS 261 #[PtB R] w λe w'=>Ac R w w'/\Kt (rM l) e w' R t tw dp fr:=by
 by_cases k1:pQ l 117=true
 .have hE:Hid (rM l=Br l.tail):=by unfold Hid rM;grind
  have K1:=Ab k1;clear k1 hT;go_enter func261,ntmps261;go_wp2_with fail;refine(AX 117 _ rfl h K1.u).mono ?_;rintro e w1⟨rfl,q5,q4⟩;go_wp2_with fail;refine(TP q5).mono ?_;rintro e w2⟨hk2,hc⟩;rcases hc with⟨n,l',hs,rfl,q0⟩|⟨hs,n,l',rfl,q0⟩
  .have HS:=Ab hs;clear hs;go_wp2;go_ret2;exact⟨q4.trans hk2,Å ⟨n,l',by rw[hE.u];exact HS.u,rfl,q0⟩⟩
  .have HS:=Ab hs;clear hs;go_wp2;go_ret2;exact⟨q4.trans hk2,À ⟨by rw[hE.u];exact HS.u,n,l',rfl,q0⟩⟩
 .exact Ro h hT hR (Bq k1)
theorem AD(l:By):(⟨l.toArray⟩:ByteArray).size=l.length:=θ
theorem mF(t:ByteArray)(p:Nat):E1 (t.extract p t.size)=rC (t.data.toList.drop p):=by
 unfold E1 rC;have e:t.extract p t.size=⟨(t.data.toList.drop p).toArray⟩:=by
  have:=Lib.extract_to_end t p;have h2:(t.extract p t.size).data=(t.data.toList.drop p).toArray:=ε;exact congrArg E2 h2
 rw[e,AD]
theorem XH(l:By):(rC l).2<=l.length:=by
 unfold rC;split
 .simp
 .rename_i h;rw[CH];rw[AD];unfold C2;grind
theorem bH(l:By):(rC l).1<=1114111:=by
 unfold rC;split
 .simp
 .rw[CH];have h0:=(DD (⟨l.toArray⟩:ByteArray) 0).toNat_lt;simp only[ė];generalize (DD (⟨l.toArray⟩:ByteArray) 0).toNat=b0 at*;unfold C2;grind
theorem AV{l:By}(h:pQ l c=true):l.tail.length+1=l.length:=by
 cases l with
 |nil=>simp[pQ]at h
 |cons d r=>simp
theorem Jh(k n:Nat)(l:By)(m:Nat)(r:By)(h:A9 k n l=some (m,r)):r.length+k<=l.length:=by
 induction k generalizing n l with
 |zero=>grind [A9,pY,Ci]
 |succ k ih=>
  rw[A9]at h;cases l with
  |nil=>simp[pY,Ci]at h
  |cons c l=>
   grind
theorem Pm(l:By)(m:Nat)(r:By)(h:Br l=some (m,r)):r.length<l.length/\m<=1114111:=by
 unfold Br at h;cases hx:A9 4 0 l with
 |none=>grind
 |some x=>
  obtain⟨a,r1⟩:=x;have h1:=Jh _ _ _ _ _ hx;have h2:=Mo hx;rw[hx]at h;simp only at h;by_cases c1:a<55296\/57344<=a
  .grind
  .rw[if_neg c1]at h;by_cases c2:56320<=a
   .grind
   .rw[if_neg c2]at h;by_cases c3:pQ r1 92=true
    .rw[if_pos c3]at h;by_cases c4:pQ r1.tail 117=true
     .rw[if_pos c4]at h;have k1:=AV c3;have k2:=AV c4;cases hy:A9 4 0 r1.tail.tail with
      |none=>grind
      |some y=>
       obtain⟨b,r2⟩:=y;have g1:=Jh _ _ _ _ _ hy;grind
     grind
    grind
theorem Oo(l:By)(T:List (UInt8×Nat))(hT:∀x∈T,x.2<=1114111)(m:Nat)(r:By)(h:Cy l T=some (m,r)):r.length<l.length/\m<=1114111:=by
 induction T with
 |nil=>cases h
 |cons x T ih=>
  obtain⟨c,n⟩:=x;rw[Cy]at h;by_cases k:pQ l c=true
  .rw[if_pos k]at h;simp at h;have:=AV k;have h3:=hT (c,n) φ;grind
  grind
theorem M5(l:By)(h:l≠[]):1<=(rC l).2:=by
 grind [rC,CH,C2]
theorem Gs{l:By}{r:By}(h:rP l=some (m,r)):r.length<l.length/\m<=1114111:=by
 unfold rP at h;by_cases k:pQ l 92=true
 .rw[if_pos k]at h;have k1:=AV k;unfold rM at h;by_cases k2:pQ l.tail 117=true
  .rw[if_pos k2]at h;have k3:=AV k2;have:=Pm _ _ _ h;omega
  .rw[if_neg k2]at h;have:=Oo _ DH η _ _ h;omega
 .rw[if_neg k]at h;by_cases c:(rC l).1<32\/((rC l).1=65533/\(rC l).2<2)
  .grind
  .rw[if_neg c]at h;simp only[Option.some.injEq,Prod.mk.injEq]at h;have h1:=bH l;have hne:l≠[]:=by rintro rfl;simp[rC]at c
   have h2:=M5 l hne;grind [rC,rP,rM]
theorem Gp(r:Int):(C6 r).length<=4:=by
 have:=Lib.runeCells_le r;grind [Lib.byteCells_encodeRune,Lib.byteCells_length]
theorem SV(c:UInt8):qW c=Da c.toNat:=rfl
theorem mD{l:By}(h:Da (pY l)=true):l.take 1++dg l.tail=dg l/\qP l.tail=qP l/\1<=l.length:=by
 cases l with
 |nil=>simp[pY,Da]at h
 |cons d r=>
  have:qW d=true:=by rw[SV];exact h
  simp[dg,qP,this]
theorem oH{l:By}(h:Da (pY l)=false):dg l=[]/\qP l=l:=by
 cases l with
 |nil=>simp[dg,qP]
 |cons d r=>
  have:qW d=false:=by rw[SV];exact h
  simp[dg,qP,this]
theorem Ga{w:AI}{R:Nat}{t:ByteArray}{l:By}{tw:Bool}{dp fr:Int}(h:RD w R t l tw dp fr):
  A4 AS 222 #[.pointer (some ⟨R,0,none⟩)] w λe w'=>e=.returned (.string ⟨(dg l).toArray⟩)/\RD w' R t (qP l) tw dp fr/\Ac R w w':=by
 obtain⟨p,ha,hp⟩:=h;have c0:=hp.c0;have c1:=hp.c1;have HP:=Ab hp;have HA:=Ab ha;clear hp ha;go_enter func222,ntmps222;go_wp2_with fail;clear c0 c1;go_loopw [8] (λ_ wr=>∃l' k,RD wr R t l' tw dp fr/\k<=l.length/\l'=l.drop k/\l.take k++dg l'=dg l/\qP l'=qP l/\Ac R w wr) (λ_ wr=>left wr R)
 case atStart=>exact⟨l,0,⟨p,HA.u,HP.u⟩,Ď _,rfl,rfl,rfl,Ac.refl R w⟩
 case round=>
  obtain⟨l',k,hr,q9,q8,q6,q7,hk⟩:=hrel;have H1:=Ab q8;have H2:=Ab q6;have H3:=Ab q7;have HL:=Ab hr.left;clear q8 q6 q7;by_cases hd:Da (pY l')=true
  .have HD:=Ab hd;clear hd;go_wp2_with fail;refine(LU hr).mono ?_;rintro e w1⟨rfl,q5,q4⟩;go_wp2_with fail;refine(BT _ _ (LT l')).mono ?_;rintro e w2⟨rfl,rfl⟩;rw[HD.u];obtain⟨q,ha,hq⟩:=q5;have c1:=hq.c1;have f1:=hq.fz 1;have hs:=ha.small;have qb:=ha.le;have HQ:=Ab hq;have q0:=Ab ha;clear hq ha hr;go_wp2_with fail;have hy:=mD HD.u;have hn:RD (w2.setCell ⟨R,1,none⟩ (.int .i64 ((q:Int)+1))) R t l'.tail tw dp fr:=⟨q+1,by simpa using q0.u.add 1 hy.2.2,HQ.u.set1 (q+1)⟩
   go_roundw
   case rel=>exact⟨l'.tail,k+1,hn,by have:=hy.2.2;rw[H1.u]at this;grind,by rw[H1.u];simp,by rw[<-H2.u,<-hy.1,H1.u,<-ē,<-List.take_add],by rw[<-H3.u];grind,(hk.trans q4).setCell rfl _⟩
   case measure=>
    have h1:=hy.2.2;rw[HL.u,hn.left];simp;omega
  .have HD:=Ab (show Da (pY l')=false by simpa using hd);clear hd;go_wp2_with fail;refine(LU hr).mono ?_;rintro e w1⟨rfl,q5,q4⟩;go_wp2_with fail;refine(BT _ _ (LT l')).mono ?_;rintro e w2⟨rfl,rfl⟩;rw[HD.u];obtain⟨q,ha,hq⟩:=q5;have c0:=hq.c0;have c1:=hq.c1;have b1:(p:Int)<=(q:Int):=by have:=ha.len;have:=HA.u.len;have:=HA.u.le;have:=ha.le;have e:=congrArg F5 H1.u;grind
   have b2:(q:Int)<=(t.size:Int):=by have:=ha.le;omega
   have HQ:=Ab hq;have q0:=Ab ha;clear hq ha hr;go_wp2_with fail;go_quiet(fail);go_wp2_with fail;have hz:=oH HD.u;have hx:t.extract p q=⟨(dg l).toArray⟩:=by
    have e1:=Lib.extract_data t p q;rw[HA.u.eq]at e1;have e2:=congrArg F5 H1.u;have e3:=q0.u.len;have e4:=HA.u.len;have e5:=HA.u.le;have e6:=q0.u.le;simp at e2;have e7:q-p=k:=ζ;have e8:=H2.u;rw[hz.1,ĉ]at e8;rw[e7,e8]at e1;have:(t.extract p q).data=(dg l).toArray:=by rw[<-e1]
    exact congrArg E2 this
   rw[hx];go_ret;refine⟨rfl,?_,(hk.trans q4).drewN _⟩;rw[<-H3.u,hz.2];exact⟨q,q0.u,HQ.u.drewN _⟩
theorem Xp{l:By}(h:l=[]):l.isEmpty=true:=ε
theorem Qd{l:By}(h:¬l=[]):l.isEmpty=false:=ε
def gX(o:Option (By×By))(e:DA)(w':AI)(R:Nat)(t:ByteArray)(tw:Bool)(dp fr:Int):Prop:=
 (∃s l',o=some (s,l')/\e=.returned (.tuple #[.string ⟨s.toArray⟩,.bool true])/\RD w' R t l' tw dp fr)\/
  (o=none/\∃s l',e=.returned (.tuple #[.string s,.bool false])/\RD w' R t l' tw dp fr)
theorem P6{w:AI}{R:Nat}{t:ByteArray}{l:By}{tw:Bool}{dp fr:Int}(h:RD w R t l tw dp fr):
  A4 AS 223 #[PtB R] w λe w'=>Ac R w w'/\gX (B5 l) e w' R t tw dp fr:=by
 by_cases k1:pQ l 46=true
 .have K1:=Ab k1;by_cases hd:dg l.tail=[]
  .have hE:Hid (B5 l=none):=by grind [B5,Hid,dg]
   have he:=Xp hd;clear k1 hd;go_enter func223,ntmps223;go_wp2_with fail;refine(AX 46 _ rfl h K1.u).mono ?_;rintro e w1⟨rfl,q4,q0⟩;go_wp2_with fail;refine(Ga q4).mono ?_;rintro e w2⟨rfl,q5,hk2⟩;go_wp2;go_ret2;exact⟨q0.trans hk2,À ⟨hE.u,_,_,rfl,q5⟩⟩
  .have hE:Hid (B5 l=some (dg l.tail,qP l.tail)):=by grind [B5,Hid,dg]
   have he:=Qd hd;clear k1 hd;go_enter func223,ntmps223;go_wp2_with fail;refine(AX 46 _ rfl h K1.u).mono ?_;rintro e w1⟨rfl,q4,q0⟩;go_wp2_with fail;refine(Ga q4).mono ?_;rintro e w2⟨rfl,q5,hk2⟩;go_wp2;go_ret2;exact⟨q0.trans hk2,Å ⟨_,_,hE.u,rfl,q5⟩⟩
 .have hE:Hid (B5 l=some ([],l)):=by grind [B5,Hid,dg]
  have K1:=Ab (Bq k1);clear k1;go_enter func223,ntmps223;go_wp2_with fail;refine(BR 46 _ rfl h K1.u).mono ?_;rintro e w1⟨rfl,q4,q0⟩;go_wp2;go_ret2;exact⟨q0,Å ⟨[],l,hE.u,rfl,q4⟩⟩
theorem DX(l:By):∀c∈dg l,48<=c.toNat/\c.toNat<=57:=by
 induction l with
 |nil=>intro c hc;simp[dg]at hc
 |cons d r ih=>
  intro c hc;unfold dg at hc;by_cases hd:qW d=true
  .rw[if_pos hd]at hc;rcases Ë.1 hc with rfl|hc
   .simpa[qW]using hd
   grind
  grind
theorem Cw(l:By):(dg l).length+(qP l).length=l.length:=by
 induction l with
 |nil=>rfl
 |cons d r ih=>
  unfold dg qP;grind
theorem aI(ds:By)(hd:∀c∈ds,48<=c.toNat/\c.toNat<=57):∀n:Int,0<=n->n<=1000000->0<=Bg ds n/\Bg ds n<=1000000:=by
 induction ds with
 |nil=>intro n h0 h1;exact⟨h0,h1⟩
 |cons c r ih=>
  intro n h0 h1;have hc:=hd c φ;exact ih ε _ ζ ζ
def Xf(o:Option (Int×By))(e:DA)(w':AI)(R:Nat)(t:ByteArray)(tw:Bool)(dp fr:Int):Prop:=
 (∃n l',o=some (n,l')/\e=.returned (.tuple #[InB n,.bool true])/\RD w' R t l' tw dp fr)\/
  (o=none/\∃n l',e=.returned (.tuple #[InB n,.bool false])/\RD w' R t l' tw dp fr)
theorem PU(w:AI)(s:ByteArray)(k:Nat):(w.iter s k).iterPos w.1.size=k:=by
 simp_all
theorem aH{w:AI}{R:Nat}{t:ByteArray}{l:By}{tw:Bool}{dp fr:Int}(h:RD w R t l tw dp fr)(k0:pQ l 101=false)(k1:pQ l 69=false):
  A4 AS 224 #[PtB R] w λe w'=>Ac R w w'/\Xf (AY l) e w' R t tw dp fr:=by
 have hE:Hid (AY l=some (0,l)):=by unfold Hid AY;grind
 have K0:=Ab k0;have K1:=Ab k1;clear k0 k1;go_enter func224,ntmps224;go_wp2_with fail;refine(BR 101 _ rfl h K0.u).mono ?_;rintro e w1⟨rfl,q4,q0⟩;go_wp2_with fail;refine(BR 69 _ rfl q4 K1.u).mono ?_;rintro e w2⟨rfl,q5,hk2⟩;go_wp2;go_ret2;exact⟨q0.trans hk2,Å ⟨0,l,hE.u,rfl,q5⟩⟩
theorem Qb{w:AI}{R:Nat}{t:ByteArray}{l:By}{tw:Bool}{dp fr:Int}(h:RD w R t l tw dp fr):
  A4 AS 224 #[PtB R] w λe w'=>Ac R w w'/\Xf (AY l) e w' R t tw dp fr:=by
 have hf:(pQ l 101=true\/pQ l 101=false/\pQ l 69=true)\/pQ l 101=false/\pQ l 69=false:=ε;rcases hf with hf|⟨k0,k1⟩;rotate_left
 .exact aH h k0 k1
 have hs:(pQ l.tail 45=true/\Hid (AY l=if dg l.tail.tail=[]then none else some (- Bg (dg l.tail.tail) 0,qP l.tail.tail)))\/
   (pQ l.tail 45=false/\pQ l.tail 43=true/\Hid (AY l=if dg l.tail.tail=[]then none else some (Bg (dg l.tail.tail) 0,qP l.tail.tail)))\/
   (pQ l.tail 45=false/\pQ l.tail 43=false/\Hid (AY l=if dg l.tail=[]then none else some (Bg (dg l.tail) 0,qP l.tail))):=by
  unfold Hid AY;grind
 have HS:=Ab hs;have HF:=Ab hf;clear hs hf;go_enter func224,ntmps224;go_wp2_with fail;rcases HF.u with k|⟨k0,k⟩;refine(AX 101 _ rfl h k).mono ?_;rintro e w1⟨rfl,q8,q5⟩;rotate_left;refine(BR 101 _ rfl h k0).mono ?_;rintro e w0⟨rfl,qh,qf⟩;clear k0;have HK:=Ab k;clear k;go_wp2_with fail;refine(AX 69 _ rfl qh HK.u).mono ?_;rintro e w1⟨rfl,q8,q5⟩;replace q5:=qf.trans q5;have k:=HK.u;clear qf qh HK;rotate_left;all_goals (
  clear k HF;go_wp2_with fail;rcases HS.u with⟨k2,hE⟩|⟨k2,k3,hE⟩|⟨k2,k3,hE⟩;refine(AX 45 _ rfl q8 k2).mono ?_;rintro e w3⟨rfl,q9,q0⟩;obtain⟨L,hL⟩:∃L,L=l.tail.tail:=⟨_,rfl⟩
  rotate_left;refine(BR 45 _ rfl q8 k2).mono ?_;rintro e w2⟨rfl,qd,hk2⟩;have K3:=Ab k3;clear k3;go_wp2_with fail;refine(AX 43 _ rfl qd K3.u).mono ?_;rintro e w3⟨rfl,q9,q0⟩;replace q0:=hk2.trans q0;obtain⟨L,hL⟩:∃L,L=l.tail.tail:=⟨_,rfl⟩
  rotate_left;refine(BR 45 _ rfl q8 k2).mono ?_;rintro e w2⟨rfl,qd,hk2⟩;have K3:=Ab k3;clear k3;go_wp2_with fail;refine(BR 43 _ rfl qd K3.u).mono ?_;rintro e w3⟨rfl,q9,q0⟩;replace q0:=hk2.trans q0;obtain⟨L,hL⟩:∃L,L=l.tail:=⟨_,rfl⟩
  rotate_left)
 all_goals (
  rw[<-hL]at q9 hE;replace q0:=q5.trans q0;clear hL k2 q8 q5 HS;go_wp2_with fail;refine(Ga q9).mono ?_;rintro e w4⟨rfl,qn,qg⟩;have hkk:=q0.trans qg;have qb:=Ab (DX L);obtain⟨b,hem⟩:∃b,(dg L).isEmpty=b:=⟨_,rfl⟩
  go_wp2_with fail;generalize hds:dg L=ds at*;clear h q9 q0 qg hds;go_loopw [6] (λn wr=>∃(k:Nat) (m:Int),k<=ds.length/\n=.int .i64 m/\0<=m/\m<=1000000/\wr=w4.iter ⟨ds.toArray⟩ k/\Bg ds 0=Bg (ds.drop k) m) (λ_ wr=>ds.length-wr.iterPos w4.1.size)
  case atStart=>exact⟨0,0,ζ,rfl,ζ,ζ,rfl,rfl⟩
  obtain⟨k,m,hk,rfl,qo,qq,rfl,he⟩:=hrel;have HE:=Ab he;clear he;by_cases hlt:k<ds.length
  .have q6:k<(⟨ds.toArray⟩:ByteArray).size:=by rw[AD];exact hlt
   have hc:=qb.u ds[k] (Ó hlt);have q4:((⟨ds.toArray⟩:ByteArray)[k]'q6)=ds[k]:=θ;have q7:∀ty,(G1 (.pointer (some ⟨w4.1.size,0,none⟩)) true ty).run AS (w4.iter ⟨ds.toArray⟩ k)=.ok (.tuple #[.bool true,.int .i64 k,.int .i32 ds[k].toNat]) (w4.iter ⟨ds.toArray⟩ (k+1)):=λty=>by
    have:=run_next_ascii (P:=AS) w4 ⟨ds.toArray⟩ k ty q6 ε;grind
   have qj:Hid (Bg (ds.drop k) m=Bg (ds.drop (k+1)) (min (10*m+((ds[k].toNat:Int)-48)) 1000000)):=by
    unfold Hid;rw[Û hlt];rfl
   generalize qe:ds[k].toNat=c at*;have HC:=Ab qe;clear qe q4;go_wp2_with fail;grind [pQ,dg,Bg,AY,qP,AD,PU,Hid]
  .have q7:∀ty,(G1 (.pointer (some ⟨w4.1.size,0,none⟩)) true ty).run AS (w4.iter ⟨ds.toArray⟩ k)=.ok (.tuple #[.bool false]) (w4.iter ⟨ds.toArray⟩ k):=λty=>
    run_next_end (P:=AS) w4 ⟨ds.toArray⟩ k ty (by rw[AD];exact hlt)
   go_wp2_with fail;have qk:Ac R w (w4.iter ⟨ds.toArray⟩ k):=hkk.alloc _;have qi:RD (w4.iter ⟨ds.toArray⟩ k) R t (qP L) tw dp fr:=qn.alloc _;have qm:Bg ds 0=m:=by rw[HE.u,í ζ];rfl
   go_ret2;refine⟨qk,?_⟩;cases b with
   |false=>exact Å ⟨_,_,by rw[hE.u,if_neg ε,qm],rfl,qi⟩
   |true=>exact À ⟨by rw[hE.u,if_pos ε],_,_,rfl,qi⟩)
def Cd(n:Nm):AT:=.agg #[.bool n.1,.string ⟨n.2.1.toArray⟩,.int .i64 n.2.2]
theorem Ya(s:ByteArray)(w:AI)(q0:s.size<=281474976710656):
  CB 265 #[.string s] w (.string s):=by
 go_enter func265,ntmps265;go_wp2_with fail;refine(Tryz.stringslite_Clone s _ q0).mono ?_;rintro e w1⟨rfl,hb⟩;go_wp2_with fail;go_ret;simp_all
theorem Ha(l:By)(c:UInt8):(A1 l c).length<=l.length:=by
 unfold A1;exact(B2 _).length_le
theorem FF(l:By)(c:UInt8):(A2 l c).length<=l.length:=by
 unfold A2;rw[Ľ];exact Ã (B2 _).length_le φ
theorem Nh(ng:Bool)(ds:By)(ex:Int)(w:AI)(h0:-10000000<=ex)(h1:ex<=10000000)(hl:ds.length<=4000):
  CB 225 #[.bool ng,.string ⟨ds.toArray⟩,.int .i64 ex] w (Cd (Ce ng ds ex)):=by
 have hq:Hid (Ce ng ds ex=if A2 (A1 ds 48) 48=[]then(false,[],0)else(ng,A2 (A1 ds 48) 48,ex+(A1 ds 48).length-(A2 (A1 ds 48) 48).length)):=rfl;have l1:=Ha ds 48;have l2:=FF (A1 ds 48) 48;have cL:∀W:AI,A4 AS 263 #[.string ⟨ds.toArray⟩,.string ⟨#[48]⟩] W λe w'=>e=.returned (.string ⟨(A1 ds 48).toArray⟩)/\w'=W:=λW=>Tryz.strings_TrimLeft_one ⟨ds.toArray⟩ 48 η W;have cR:∀W:AI,A4 AS 264 #[.string ⟨(A1 ds 48).toArray⟩,.string ⟨#[48]⟩] W λe w'=>e=.returned (.string ⟨(A2 (A1 ds 48) 48).toArray⟩)/\w'=W:=λW=>Tryz.strings_TrimRight_one ⟨(A1 ds 48).toArray⟩ 48 η W (by rw[AD];omega);generalize A2 (A1 ds 48) 48=wl at*;generalize A1 ds 48=dl at*;have CL:=Ab cL;have CR:=Ab cR;clear cL cR;by_cases hw:wl=[]
 .have hr:Hid (Ce ng ds ex=(false,[],0)):=ε;clear hq;subst hw;go_enter func225,ntmps225;go_wp2_with fail;refine(CL.u _).mono ?_;rintro e w' ⟨rfl,rfl⟩;go_wp2_with fail;refine(CR.u _).mono ?_;rintro e w' ⟨rfl,rfl⟩;go_wp2_with fail;rw[hr.u];refine Ì (v:=Cd (false,[],0)) (by simp[results,results225,go_sem,Cd]) rfl ⟨rfl,?_⟩;exact(Â _ _).alloc (Á _) _
 .have he:=Qd hw;have hr:Hid (Ce ng ds ex=(ng,wl,ex+dl.length-wl.length)):=ε;clear hq hw;go_enter func225,ntmps225;go_wp2_with fail;refine(CL.u _).mono ?_;rintro e w' ⟨rfl,rfl⟩;go_wp2_with fail;refine(CR.u _).mono ?_;rintro e w' ⟨rfl,rfl⟩;go_wp2_with fail;refine(Ya _ _ (by rw[AD];omega)).mono ?_;rintro e w2⟨rfl,hb⟩;have g0:w2.cell? ⟨w.1.size,0,none⟩=some (.bool false):=(hb.cell (p:=⟨w.1.size,0,none⟩) φ).trans φ;have g1:w2.cell? ⟨w.1.size,1,none⟩=some (.string ⟨#[]⟩):=(hb.cell (p:=⟨w.1.size,1,none⟩) φ).trans φ;have g2:w2.cell? ⟨w.1.size,2,none⟩=some (.int .i64 0):=(hb.cell (p:=⟨w.1.size,2,none⟩) φ).trans φ;have hf:∀j,w2.frozen? ⟨w.1.size,j,none⟩=(w.alloc (.cells #[.bool false,.string ⟨#[]⟩,.int .i64 0] 108)).frozen? ⟨w.1.size,j,none⟩:=λj=>hb.frozen (p:=⟨w.1.size,j,none⟩) φ;go_wp2_with fail;rw[hr.u];refine Ì (v:=Cd (ng,wl,ex+dl.length-wl.length)) (by simp[results,results225,go_sem,Cd,g0,g1,g2]) rfl ⟨rfl,?_⟩;exact((((Â w.1.size w).alloc (Á _) _).trans (hb.mono φ)).setCell φ _ |>.setCell φ _).setCell φ _
theorem S9{l:By}{n:Int}{r:By}(h:AY l=some (n,r)):-1000000<=n/\n<=1000000:=by
 unfold AY at h;have b:=λl'=>aI (dg l') (DX l') 0 ζ ζ;grind
def Ws(o:Option (Nm×By))(e:DA)(w':AI)(R:Nat)(t:ByteArray)(tw:Bool)(dp fr:Int):Prop:=
 (∃n l',o=some (n,l')/\e=.returned (.tuple #[Cd n,.bool true])/\RD w' R t l' tw dp (max (max fr n.2.2) (-n.2.2)))\/
  (o=none/\e=.returned (.tuple #[Cd (false,[],0),.bool false])/\∃l',RD w' R t l' tw dp fr)
theorem Tj{l:By}{d:UInt8}{ds:By}(h:dg l=d::ds)(c:UInt8):pQ l c=(d==c):=by
 cases l with
 |nil=>simp[dg]at h
 |cons a r=>
  unfold dg at h;split at h
  .injection h with h1 h2;subst h1;rfl
  .cases h
theorem S7(d:UInt8)(ds:By)(h:0<(⟨(d::ds).toArray⟩:ByteArray).size):(((⟨(d::ds).toArray⟩:ByteArray)[0]'h).toNat:Int)=(d.toNat:Int):=by
 rfl
theorem FQ(d:UInt8)(ds:By):0<(⟨(d::ds).toArray⟩:ByteArray).size:=by rw[AD];simp
theorem Fj{l f r:By}(h:B5 l=some (f,r)):f.length+r.length<=l.length:=by
 unfold B5 at h;have b:=Cw l.tail;grind
theorem fS{w:AI}{R q:Nat}{t:ByteArray}{tw:Bool}{dp fr:Int}(h:RP w R t q tw dp fr)(o:Obj)(v v':Int)(x y z:AT)(b:Nat)(hb:b≠R)(hv:v=v'):
  RP ((((((w.alloc o).setCell ⟨R,4,none⟩ (InB v)).setCell ⟨b,0,none⟩ x).setCell ⟨b,1,none⟩ y).setCell ⟨b,2,none⟩ z).drew) R t q tw dp v':=by
 subst hv;have h1:=(h.alloc o).set4 v;exact((h1.kept ((((Ac.refl b _).setCell (p:=⟨b,0,none⟩) rfl x).setCell (p:=⟨b,1,none⟩) rfl y).setCell (p:=⟨b,2,none⟩) rfl z) ζ)).drew
theorem SG(ng:Bool)(ds:By)(e:Int):(Ce ng ds e).2.2=0\/(e<=(Ce ng ds e).2.2/\(Ce ng ds e).2.2<=e+ds.length):=by
 unfold Ce;have h1:=Ha ds 48;have h2:=FF (A1 ds 48) 48;grind
def EL(w:AI)(b:Nat):Prop:=w.1[b]?=some (.cells #[.bool false,.string ⟨#[]⟩,InB 0] 108 (0,0))
section
variable{w:AI}{b:Nat}
theorem EL.c0(h:EL w b):CeB w b 0=some (.bool false):=ck h
theorem EL.c1(h:EL w b):CeB w b 1=some (.string ⟨#[]⟩):=ck h
theorem EL.c2(h:EL w b):CeB w b 2=some (InB 0):=ck h
theorem EL.fz(h:EL w b)(o:Nat):w.frozen? ⟨b,o,none⟩=false:=fk h
theorem EL.kept(h:EL w b)(hk:Ac X w w')(hx:b≠X):EL w' b:=(hk.block b (È.1 h).1 hx).trans h
theorem EL.new(w:AI):EL (w.alloc (.cells #[.bool false,.string ⟨#[]⟩,InB 0] 108)) w.1.size:=by
 show(w.1.push _)[w.1.size]?=_;simp
end
abbrev pL:=B1 Unit
def BG(k:Nat):pL:=.lit (.int .i64 k)
def Bm(n:Nm):pL:=.agg [.lit (.bool n.1),.lit (.string n.2.1),.lit (.int .i64 n.2.2)]
def Av(s:By):pL:=.lit (.string s)
def Ak(es:List pL):pL:=.slice es []
def Ap(es:List (Lit×pL)):pL:=.map es
abbrev Fl:=Bool×Int×Int
def rE:List By:=[[110,117,108,108],[116,114,117,101],[102,97,108,115,101]]
def A6(l:By):Nat->List By->Option (Nat×By)
 |_,[]=>none
 |k,x::r=>if D9 l x then some (k,l.drop x.length)else A6 l (k+1) r
def qZ{σ:Type}(cl:UInt8)(qN:By->σ->Option (By×σ)):Nat->By->σ->Option (By×σ)
 |0,_,_=>none
 |n+1,l,s=>match qN (pR l) s with
  |none=>none
  |some (l1,s1)=>if pQ (pR l1) cl then some ((pR l1).tail,s1)else if pQ (pR l1) 44 then qZ cl qN n (pR l1).tail s1 else none
def AZ{σ:Type}(op cl:UInt8)(qN:By->σ->Option (By×σ))(l:By)(s:σ):Option (By×σ):=
 if pQ l op then(if pQ (pR l.tail) cl then some ((pR l.tail).tail,s)else qZ cl qN ((pR l.tail).length+1) (pR l.tail) s)else none
def CQ(rd:By->Fl->Option (pL×By×Fl))(l:By)(s:List pL×Fl):Option (By×(List pL×Fl)):=
 match rd l s.2 with
 |none=>none
 |some (v,r,fl)=>some (r,(s.1++[v],fl))
def Cx(rd:By->Fl->Option (pL×By×Fl))(l:By)(s:pL×Fl):Option (By×(pL×Fl)):=
 match rJ l with
 |none=>none
 |some (k,l1)=>if pQ (pR l1) 58 then(match rd (pR (pR l1).tail) s.2 with
  |none=>none
  |some (v,r,fl)=>some (r,(E0 s.1 (.string k) v,(fl.1 || D0 s.1 (.string k),fl.2))))else none
def qL:Nat->Int->By->Fl->Option (pL×By×Fl)
 |0,_,_,_=>none
 |f+1,lv,l,fl=>
  if pY l=123 then(match AZ 123 125 (Cx (qL f (lv+1))) l (Ap [],(fl.1,(max fl.2.1 lv,fl.2.2)))with
   |none=>none
   |some (r,(v,fl'))=>some (v,r,fl'))
  else if pY l=91 then(match AZ 91 93 (CQ (qL f (lv+1))) l ([],(fl.1,(max fl.2.1 lv,fl.2.2)))with
   |none=>none
   |some (r,(es,fl'))=>some (Ak es,r,fl'))
  else if pY l=34 then(match rJ l with
   |none=>none
   |some (s,r)=>some (Av s,r,(fl.1,(max fl.2.1 lv,fl.2.2))))
  else if pY l=45\/(48<=pY l/\pY l<=57)then(match rO l with
   |none=>none
   |some (n,r)=>some (Bm n,r,(fl.1,(max fl.2.1 lv,max (max fl.2.2 n.2.2) (-n.2.2)))))
  else match A6 l 0 rE with
   |none=>none
   |some (k,r)=>some (BG k,r,(fl.1,(max fl.2.1 lv,fl.2.2)))
theorem Az(l:By):(pR l).length<=l.length:=by
 induction l with
 |nil=>simp[pR]
 |cons c r ih=>
  grind [pR]
theorem TD(l:By)(ws:List By)(hw:∀x∈ws,x≠[]):∀(k n:Nat) (r:By),A6 l k ws=some (n,r)->r.length<l.length:=by
 induction ws with
 |nil=>intro k n r h;cases h
 |cons x ws ih=>
  intro k n r h;unfold A6 at h;split at h
  .rename_i hp;unfold D9 at hp;have h3:=(List.isPrefixOf_iff_prefix.1 hp).length_le;have h4:0<x.length:=ε;grind
  grind
theorem bM(f:Nat):∀(l s r:By),Ck f l=some (s,r)->r.length<=l.length:=by
 induction f with
 |zero=>grind [Ck]
 |succ f ih=>
  intro l s r h;unfold Ck at h;split at h
  .grind
  .split at h
   .cases h
   .rename_i c r1 hc;have:=Gs hc;grind
theorem Ff{l s r:By}(h:rJ l=some (s,r)):r.length<l.length:=by
 unfold rJ at h;split at h
 .rename_i k;have:=AV k;have:=bM _ _ _ _ h;omega
 .cases h
theorem gE(cl:UInt8)(qN:By->σ->Option (By×σ))(hi:∀l s l' s',qN l s=some (l',s')->l'.length<l.length)(n:Nat):∀(l:By) (s:σ) (r:By) (s':σ),qZ cl qN n l s=some (r,s')->r.length<l.length:=by
 induction n with
 |zero=>grind [qZ]
 |succ n ih=>
  intro l s r s' h;unfold qZ at h;split at h
  .cases h
  .rename_i l1 s1 h1;have a:=hi _ _ _ _ h1;have b:=Az l;have c:=Az l1;grind
theorem Me{op cl:UInt8}{qN:By->σ->Option (By×σ)}(hi:∀l s l' s',qN l s=some (l',s')->l'.length<l.length){l:By}{s:σ}{r:By}{s':σ}(h:AZ op cl qN l s=some (r,s')):r.length<l.length:=by
 unfold AZ at h;split at h
 .rename_i k;have:=AV k;have b:=Az l.tail;split at h
  .grind
  .have:=gE cl qN hi _ _ _ _ _ h;omega
 .cases h
theorem vZ{l:By}{n:Nm}{r:By}(h:rO l=some (n,r)):r.length<l.length:=by
 have hf:∀{l:By}{n r},AY l=some (n,r)->r.length<=l.length:=by
  intro l n r h;unfold AY at h;have a:=Cw l.tail;have b:=Cw l.tail.tail;grind
 have hb:∀{b:Bool}{l:By}{n r},BM b l=some (n,r)->r.length<l.length:=by
  intro b l n r h;unfold BM at h;have a:=Cw l;split at h
  .cases h
  .rename_i hne;have q0:0<(dg l).length:=by
    grind
   split at h
   .cases h
   .rename_i f r1 h1;have:=Fj h1;grind
 grind [AY,BM,rO]
theorem EO(f:Nat):∀(lv:Int) (l:By) (fl:Fl) (v:pL) (r:By) (fl':Fl),qL f lv l fl=some (v,r,fl')->r.length<l.length:=by
 induction f with
 |zero=>grind [qL,CQ,Cx]
 |succ f ih=>
  intro lv l fl v r fl' h;unfold qL at h;have he:∀l s l' s',CQ (qL f (lv+1)) l s=some (l',s')->l'.length<l.length:=by
   grind [qL,CQ,Cx]
  have hm:∀l s l' s',Cx (qL f (lv+1)) l s=some (l',s')->l'.length<l.length:=by
   intro l s l' s' h;unfold Cx at h;split at h
   .cases h
   .rename_i k l1 hq;have a:=Ff hq;have b:=Az l1;split at h
    .have c:=Az (pR l1).tail;grind
    .cases h
  split at h
  .split at h
   .cases h
   .rename_i h1;have:=Me hm h1;grind
  .split at h
   .split at h
    .cases h
    .rename_i h1;have:=Me he h1;grind
   .split at h
    .split at h
     .cases h
     .rename_i h1;have:=Ff h1;grind
    .split at h
     .split at h
      .cases h
      .rename_i h1;have:=vZ h1;grind
     .split at h
      .cases h
      .rename_i h1;have:=TD _ _ η _ _ _ h1;grind
def RV(v:AT):Option (B1 AT×List MemPlace):=some (.held v,[])
def VB(w:AI)(b:Nat)(k:Int)(n:Nm)(s:By)(sl mp:AT):Prop:=
 w.1[b]?=some (.cells #[InB k,.bool n.1,.string ⟨n.2.1.toArray⟩,InB n.2.2,.string ⟨s.toArray⟩,sl,mp] 111 (0,0))
abbrev n0:Nm:=(false,[],0)
def Al{α β:Type}(P:α->β->Prop):List α->List β->Prop
 |[],[]=>True
 |a::r,b::s=>P a b/\Al P r s
 |_,_=>False
def Pt(P:AT->pL->Prop):List (Lit×B1 AT)->List (Lit×pL)->Prop
 |[],[]=>True
 |a::r,b::s=>(a.1=b.1/\∃x,a.2=.held x/\P x b.2)/\Pt P r s
 |_,_=>False
def Rep:Nat->(Nat->Prop)->AI->AT->pL->Prop
 |0,_,_,_,_=>False
 |f+1,F,w,v,d=>∃b,v=PtB b/\F b/\
  ((∃k:Nat,k<3/\d=BG k/\VB w b k n0 [] (.slice none 0 0) (.map none))\/
   (∃n,d=Bm n/\VB w b 3 n [] (.slice none 0 0) (.map none)/\-100000000<=n.2.2/\n.2.2<=100000000)\/
   (∃s,d=Av s/\VB w b 4 n0 s (.slice none 0 0) (.map none))\/
   (∃es sl ps,d=Ak es/\VB w b 5 n0 [] sl (.map none)/\w.ownsRow 0 80 1 sl ps.length ps/\(∀g,sl.ownBlock=some g->F g)/\Al (Rep f F w) ps es)\/
   (∃es m n D,d=Ap es/\VB w b 6 n0 [] (.slice none 0 0) (.map (some m))/\F m/\w.ownsMap AS 9 RV m n (.map D)/\Pt (Rep f F w) D es))
theorem Al.mono{α β:Type}{P Q:α->β->Prop}(h:∀a b,P a b->Q a b):∀{l:List α}{m:List β},Al P l m->Al Q l m
 |[],[],_=>trivial
 |_::_,_::_,⟨a,b⟩=>⟨h _ _ a,Al.mono h b⟩
theorem Al.snoc{α β:Type}{P:α->β->Prop}{a:α}{b:β}(h:P a b):∀{l:List α}{m:List β},Al P l m->Al P (l++[a]) (m++[b])
 |[],[],_=>⟨h,trivial⟩
 |_::_,_::_,⟨c,d⟩=>⟨c,Al.snoc h d⟩
theorem Al.length{α β:Type}{P:α->β->Prop}:∀{l:List α}{m:List β},Al P l m->l.length=m.length
 |[],[],_=>rfl
 |_::_,_::_,⟨_,d⟩=>congrArg (· + 1) (Al.length d)
theorem Al.get{α β:Type}{P:α->β->Prop}:∀{l:List α}{m:List β},Al P l m ->∀(i:Nat) (hi:i<l.length) (hj:i<m.length),P l[i] m[i]
 |_::_,_::_,⟨c,_⟩,0,_,_=>c
 |_::_,_::_,⟨_,d⟩,i+1,hi,hj=>Al.get d i ε ε
theorem Pt.mono{P Q:AT->pL->Prop}(h:∀a b,P a b->Q a b):∀{l:List (Lit×B1 AT)}{m:List (Lit×pL)},Pt P l m->Pt Q l m
 |[],[],_=>trivial
 |_::_,_::_,⟨⟨k,x,e,a⟩,b⟩=>⟨⟨k,x,e,h _ _ a⟩,Pt.mono h b⟩
theorem Pt.filter{P:AT->pL->Prop}(c:Lit->Bool):∀{l:List (Lit×B1 AT)}{m:List (Lit×pL)},Pt P l m->Pt P (l.filter λp=>c p.1) (m.filter λp=>c p.1)
 |[],[],_=>trivial
 |a::r,b::s,⟨⟨k,x,e,h⟩,t⟩=>by
  simp only[Ġ];rw[k];split
  .exact⟨⟨k,x,e,h⟩,Pt.filter c t⟩
  .exact Pt.filter c t
theorem Pt.insert{P:AT->pL->Prop}(k:Lit)(x:AT)(v:pL)(h:P x v):∀{l:List (Lit×B1 AT)}{m:List (Lit×pL)},Pt P l m->Pt P (A5 (k,.held x) l) (A5 (k,v) m)
 |[],[],_=>⟨⟨rfl,x,rfl,h⟩,trivial⟩
 |a::r,b::s,⟨⟨kk,y,e,g⟩,t⟩=>by
  simp only[A5];rw[kk];split
  .exact⟨⟨rfl,x,rfl,h⟩,⟨kk,y,e,g⟩,t⟩
  .exact⟨⟨kk,y,e,g⟩,Pt.insert k x v h t⟩
theorem Pt.has{P:AT->pL->Prop}(k:Lit):∀{l:List (Lit×B1 AT)}{m:List (Lit×pL)},Pt P l m->D0 (.map l) k=D0 (.map m) k
 |[],[],_=>rfl
 |a::r,b::s,⟨⟨kk,_⟩,t⟩=>by
  have:=Pt.has k t;simp only[D0,ļ]at this |-;grind
theorem Am{w:AI}{e:Nat}{xs:List AT}(h:w.ownsRow B e 1 v n xs)(hk:∀g,v.ownBlock=some g->w'.1[g]?=w.1[g]?):w'.ownsRow B e 1 v n xs:=by
 refine⟨h.1,h.2.imp id ?_⟩;rintro⟨g,cap,cur,h1,h2,h3,h4⟩;exact⟨g,cap,cur,h1,h2,(hk g (by rw[h1];rfl)).trans h3,h4⟩
theorem Af{w:AI}{e:Nat}{xs:List AT}(h:w.ownsRow B e 1 v n xs)(g:Nat)(hg:v.ownBlock=some g):g<w.1.size/\B<=g:=by
 rcases h.2 with⟨h1,_⟩|⟨g',cap,cur,h1,h2,h3,_⟩
 .rw[h1]at hg;cases hg
 .rw[h1]at hg;injection hg with hg;grind
theorem CV{w:AI}{D:B1 AT}(h:w.ownsMap AS 9 RV m n D):m<w.1.size:=by
 obtain⟨es,q0,hb,_⟩:=h;grind
theorem A0{w:AI}{D:B1 AT}(h:w.ownsMap AS 9 RV m n D)(hk:w'.1[m]?=w.1[m]?):w'.ownsMap AS 9 RV m n D:=by
 obtain⟨es,q0,hb,r⟩:=h;exact⟨es,q0,hk.trans hb,r⟩
theorem VB.lt{w:AI}{b:Nat}{k:Int}{n:Nm}{s:By}{mp:AT}(h:VB w b k n s sl mp):b<w.1.size:=(È.1 h).1
theorem VB.kept{w:AI}{b:Nat}{k:Int}{n:Nm}{s:By}{mp:AT}(h:VB w b k n s sl mp)(hk:w'.1[b]?=w.1[b]?):VB w' b k n s sl mp:=hk.trans h
theorem Rep.move{F F':Nat->Prop}{w:AI}(hF:∀k,F k->k<w.1.size->w'.1[k]?=w.1[k]?/\F' k):∀{f:Nat}{v:AT}{d:pL},Rep f F w v d->Rep f F' w' v d:=by
 intro f;induction f with
 |zero=>intro v d h;exact h
 |succ f ih=>
  intro v d h;obtain⟨b,hv,hb,h⟩:=h;rcases h with⟨k,hk,hd,h⟩|⟨n,hd,h,q0⟩|⟨s,hd,h⟩|⟨es,sl,ps,hd,h,ho,hs,ha⟩|⟨es,m,n,D,hd,h,hm,ho,hp⟩
  .have g:=hF b hb h.lt;exact⟨b,hv,g.2,Å ⟨k,hk,hd,h.kept g.1⟩⟩
  .have g:=hF b hb h.lt;exact⟨b,hv,g.2,À (Å ⟨n,hd,h.kept g.1,q0⟩)⟩
  .have g:=hF b hb h.lt;exact⟨b,hv,g.2,À (À (Å ⟨s,hd,h.kept g.1⟩))⟩
  .have g:=hF b hb h.lt;exact⟨b,hv,g.2,À (À (À (Å ⟨es,sl,ps,hd,h.kept g.1,Am ho (λg' hg=>(hF g' (hs g' hg) (Af ho g' hg).1).1),λg' hg=>(hF g' (hs g' hg) (Af ho g' hg).1).2,ha.mono (λ_ _=>ih)⟩)))⟩
  .have g:=hF b hb h.lt;have g2:=hF m hm (CV ho);exact⟨b,hv,g.2,À (À (À (À ⟨es,m,n,D,hd,h.kept g.1,g2.2,A0 ho g2.1,hp.mono (λ_ _=>ih)⟩)))⟩
theorem Rep.ptr{F:Nat->Prop}{w:AI}{d:pL}(h:Rep f F w v d):∃b,v=PtB b/\b<w.1.size/\F b:=by
 cases f with
 |zero=>exact h.elim
 |succ f=>
  obtain⟨b,hv,hb,h⟩:=h;refine⟨b,hv,?_,hb⟩;rcases h with⟨k,hk,hd,h⟩|⟨n,hd,h,q0⟩|⟨s,hd,h⟩|⟨es,sl,ps,hd,h,ho,hs,ha⟩|⟨es,m,n,D,hd,h,hm,ho,hp⟩;all_goals exact h.lt
theorem RD.uniq{w:AI}{R:Nat}{t t':ByteArray}{l l':By}{tw q5:Bool}{dp fr q0 q4:Int}(h:RD w R t l tw dp fr)(h':RD w R t' l' q5 q0 q4):t=t'/\l=l'/\tw=q5/\dp=q0/\fr=q4:=by
 obtain⟨p,a,h⟩:=h;obtain⟨p',a',h'⟩:=h';have e:=(show w.1[R]?=_ from h).symm.trans (show w.1[R]?=_ from h');simp at e;obtain⟨e1,e2,e3,e4,e5⟩:=e;subst e1;have:p=p':=ζ;subst this;exact⟨rfl,a.eq.symm.trans a'.eq,e3,e4,e5⟩
structure QQ{σ:Type}(g:FuncId)(caps:Array AT)(R:Nat)(t:ByteArray)(N:Nat)(item:By->σ->Option (By×σ))(I:AI->By->σ->Prop)(J:AI->Prop):Prop where
 rd:∀w l s,I w l s ->∃tw dp fr,RD w R t l tw dp fr
 move:∀w w' l l' s tw dp fr,I w l s->RD w R t l tw dp fr->RD w' R t l' tw dp fr->Ac R w w'->l'.length<=l.length->I w' l' s
 out:∀w l s,I w l s->J w
 len:∀l s l' s',item l s=some (l',s')->l'.length<l.length
 call:∀w l s,I w l s->l.length<N->A4 AS g caps w λe w'=>
  (∃l' s',item l s=some (l',s')/\e=.returned (.bool true)/\I w' l' s')\/(item l s=none/\e=.returned (.bool false)/\J w')
def gG{σ:Type}(o:Option (By×σ))(e:DA)(w':AI)(I:AI->By->σ->Prop)(J:AI->Prop):Prop:=
 (∃l' s',o=some (l',s')/\e=.returned (.bool true)/\I w' l' s')\/(o=none/\e=.returned (.bool false)/\J w')
theorem CZ{f:FuncId}{fn:Func}{c:Code}(hf:Tryz.prog.funcs[f]?=some fn)(q0:(fn.name == "runtime.NumGoroutine")=false)(hb:fn.body=some c)(args:Array AT)(w:AI):
  (D1 f args).run AS w=.ok (.enter f args) w:=by
 have h1:¬fn.name = "runtime.NumGoroutine" :=by grind
 simp[D1,hf,h1,hb]
theorem PS{g:FuncId}(hin:∀args w,(D1 g args).run AS w=.ok (.enter g args) w)(p0 p1 p2:AT)(op cl:UInt8)(qh q4:Int)(q8:qh=op.toNat)(q7:q4=cl.toNat)(R:Nat)(t:ByteArray)(N:Nat)(item:By->σ->Option (By×σ))(I:AI->By->σ->Prop)(J:AI->Prop)(K:QQ g #[p0,p1,p2] R t N item I J)(w:AI)(l:By)(s:σ)(hI:I w l s)(hN:l.length<=N):
  A4 AS 216 #[PtB R,.int .u8 qh,.int .u8 q4,.func (.func g) #[] #[p0,p1,p2]] w λe w'=>gG (AZ op cl item l s) e w' I J:=by
 obtain⟨tw,dp,fr,hr⟩:=K.rd _ _ _ hI;have HI:=Ab hI;have HO:=Ab q8;have HC:=Ab q7;have qo:=Ab hin;clear hI q8 q7 hin;by_cases k1:pQ l op=true
 .have K1:=Ab k1;have qt:=AV k1;clear k1;go_enter func216,ntmps216;go_wp2_with fail;refine(AX op qh HO.u hr K1.u).mono ?_;rintro e w1⟨rfl,qe,qb⟩;go_wp2_with fail;refine(Dv qe).mono ?_;rintro e w2⟨rfl,q5,hk2⟩;have qn:=Az l.tail;have I2:=Ab (K.move _ _ _ _ _ _ _ _ HI.u hr q5 (qb.trans hk2) ζ);by_cases k2:pQ (pR l.tail) cl=true
  .have K2:=Ab k2;clear k2;go_wp2_with fail;refine(AX cl q4 HC.u q5 K2.u).mono ?_;rintro e w3⟨rfl,qf,qd⟩;go_wp2;go_ret;refine Å ⟨_,s,?_,rfl,K.move _ _ _ _ _ _ _ _ I2.u q5 qf qd ε⟩;unfold AZ;rw[K1.u,K2.u];rfl
  .have K2:=Ab (Bq k2);clear k2;go_wp2_with fail;refine(BR cl q4 HC.u q5 K2.u).mono ?_;rintro e w3⟨rfl,qf,qd⟩;have I3:=Ab (K.move _ _ _ _ _ _ _ _ I2.u q5 qf qd ζ);have hE:Hid (AZ op cl item l s=qZ cl item ((pR l.tail).length+1) (pR l.tail) s):=by
    unfold Hid AZ;rw[K1.u,K2.u];rfl
   have hb:(pR l.tail).length<N:=ζ;generalize pR l.tail=l2 at*;clear hr qe q5 qb hk2 qd K1 K2 HI I2 qt qn hN;go_wp2;go_loopw [18] (λ_ wr=>∃(n:Nat) (l':By) (s':σ),I wr l' s'/\l'.length<n/\l'.length<N/\qZ cl item (l2.length+1) l2 s=qZ cl item n l' s') (λ_ wr=>left wr R)
   case atStart=>exact⟨_,l2,s,I3.u,Nat.lt_succ_self _,hb,rfl⟩
   case round=>
    obtain⟨n,l',s',hi,hn,z1,he⟩:=hrel;obtain⟨m,rfl⟩:∃m,n=m+1:=⟨n-1,ζ⟩
    obtain⟨tw,dp,fr,hr⟩:=K.rd _ _ _ hi;have HI:=Ab hi;have HE:=Ab he;have HL:=Ab hr.left;have qn:=Az l';clear hi he I3 qf;go_wp2_with fail;refine(Dv hr).mono ?_;rintro e w4⟨rfl,qu,qq⟩;have I4:=Ab (K.move _ _ _ _ _ _ _ _ HI.u hr qu qq ζ);go_wp2_with fail;rw[qo.u,Oper.upon_enter];refine(K.call _ _ _ I4.u ζ).mono ?_;rintro e w5 hc;rcases hc with⟨l5,s5,hit,rfl,qi⟩|⟨hit,rfl,hJ⟩
    .obtain⟨z2,qw,qy,qm⟩:=K.rd _ _ _ qi;have I5:=Ab qi;have q6:=Ab hit;have z0:=K.len _ _ _ _ hit;have qv:=Az l5;clear qi hit;go_wp2_with fail;refine(Dv qm).mono ?_;rintro e w6⟨rfl,q9,qr⟩;have I6:=Ab (K.move _ _ _ _ _ _ _ _ I5.u qm q9 qr ζ);by_cases k3:pQ (pR l5) cl=true
     .have K3:=Ab k3;clear k3;go_wp2_with fail;refine(AX cl q4 HC.u q9 K3.u).mono ?_;rintro e w7⟨rfl,q0,qj⟩;go_wp2;go_ret;refine Å ⟨_,s5,?_,rfl,K.move _ _ _ _ _ _ _ _ I6.u q9 q0 qj ε⟩;rw[hE.u,HE.u,qZ,q6.u];simp only;rw[K3.u];rfl
     .have K3:=Ab (Bq k3);clear k3;go_wp2_with fail;refine(BR cl q4 HC.u q9 K3.u).mono ?_;rintro e w7⟨rfl,q0,qj⟩;have I7:=Ab (K.move _ _ _ _ _ _ _ _ I6.u q9 q0 qj ζ);by_cases k4:pQ (pR l5) 44=true
      .have K4:=Ab k4;have qz:=AV k4;clear k4;go_wp2_with fail;refine(AX 44 _ rfl q0 K4.u).mono ?_;rintro e w8⟨rfl,qg,qk⟩;have I8:=Ab (K.move _ _ _ _ _ _ _ _ I7.u q0 qg qk ζ);go_wp2;go_roundw
       case rel=>
        refine⟨m,_,s5,I8.u,ζ,ζ,?_⟩;rw[HE.u,qZ,q6.u];simp only;rw[K3.u,K4.u];rfl
       case measure=>rw[qg.left,HL.u];omega
      .have K4:=Ab (Bq k4);clear k4;go_wp2_with fail;refine(BR 44 _ rfl q0 K4.u).mono ?_;rintro e w8⟨rfl,qg,qk⟩;go_wp2;go_ret;refine À ⟨?_,rfl,K.out _ _ _ (K.move _ _ _ _ _ _ _ _ I7.u q0 qg qk ζ)⟩;rw[hE.u,HE.u,qZ,q6.u];simp only;rw[K3.u,K4.u];rfl
    .have q6:=Ab hit;clear hit;go_wp2;go_ret;refine À ⟨?_,rfl,hJ⟩;rw[hE.u,HE.u,qZ,q6.u]
 .have K1:=Ab (Bq k1);clear k1;go_enter func216,ntmps216;go_wp2_with fail;refine(BR op qh HO.u hr K1.u).mono ?_;rintro e w1⟨rfl,qe,qb⟩;go_wp2;go_ret;refine À ⟨?_,rfl,K.out _ _ _ (K.move _ _ _ _ _ _ _ _ HI.u hr qe qb ζ)⟩;unfold AZ;rw[K1.u];rfl
abbrev pN:=B1 Unit
def pS(b g:Nat)(x:pN):pN:=.agg [.lit (.int .i64 b),.lit (.int .i64 g),x]
def pT:Nat->pN->pL
 |0,_=>.nil
 |f+1,a=>match a with
  |.agg [.lit (.int _ _),.lit (.int _ _),x]=>(match x with
   |.slice al _=>Ak (al.map (pT f))
   |.map es=>Ap (es.map λp=>(p.1,pT f p.2))
   |y=>y)
  |_=>.nil
def pM:Nat->pN->List Nat
 |0,_=>[]
 |f+1,a=>match a with
  |.agg [.lit (.int _ b),.lit (.int _ g),x]=>b.toNat::(match x with
   |.slice al _=>(if g=0 then[]else[g.toNat])++al.flatMap (pM f)
   |.map es=>g.toNat::es.flatMap (λp=>pM f p.2)
   |_=>[])
  |_=>[]
theorem YC(f b g k:Nat):pT (f+1) (pS b g (BG k))=BG k:=rfl
theorem eH(f b g:Nat)(n:Nm):pT (f+1) (pS b g (Bm n))=Bm n:=rfl
theorem eF(f b g:Nat)(s:By):pT (f+1) (pS b g (Av s))=Av s:=rfl
theorem Bn(f b g:Nat)(al:List pN):pT (f+1) (pS b g (.slice al []))=Ak (al.map (pT f)):=rfl
theorem Bc(f b g:Nat)(es:List (Lit×pN)):pT (f+1) (pS b g (.map es))=Ap (es.map λp=>(p.1,pT f p.2)):=rfl
theorem Fk(f b g k:Nat):pM (f+1) (pS b g (BG k))=[b]:=rfl
theorem GR(f b g:Nat)(n:Nm):pM (f+1) (pS b g (Bm n))=[b]:=rfl
theorem GQ(f b g:Nat)(s:By):pM (f+1) (pS b g (Av s))=[b]:=rfl
theorem AU(f b g:Nat)(al:List pN):pM (f+1) (pS b g (.slice al []))=b::((if g=0 then[]else[g])++al.flatMap (pM f)):=by
 show((b:Int).toNat::((if(g:Int)=0 then[]else[(g:Int).toNat])++al.flatMap (pM f)))=_;grind
theorem BC(f b g:Nat)(es:List (Lit×pN)):pM (f+1) (pS b g (.map es))=b::g::es.flatMap (λp=>pM f p.2):=rfl
def Ad:Nat->AI->AT->pN->Prop
 |0,_,_,_=>False
 |f+1,w,v,a=>∃b g x,a=pS b g x/\v=PtB b/\
  ((∃k:Nat,k<3/\g=0/\x=BG k/\VB w b k n0 [] (.slice none 0 0) (.map none))\/
   (∃n,g=0/\x=Bm n/\VB w b 3 n [] (.slice none 0 0) (.map none)/\-100000000<=n.2.2/\n.2.2<=100000000)\/
   (∃s,g=0/\x=Av s/\VB w b 4 n0 s (.slice none 0 0) (.map none))\/
   (∃al sl ps,x=.slice al []/\VB w b 5 n0 [] sl (.map none)/\w.ownsRow 0 80 1 sl ps.length ps/\sl.ownBlock=(if g=0 then none else some g)/\Al (Ad f w) ps al)\/
   (∃es n D,x=.map es/\VB w b 6 n0 [] (.slice none 0 0) (.map (some g))/\w.ownsMap AS 9 RV g n (.map D)/\Pt (Ad f w) D es))
theorem Al.mem{α β:Type}{P Q:α->β->Prop}:∀{l:List α}{m:List β},(∀a b,b∈m->P a b->Q a b)->Al P l m->Al Q l m
 |[],[],_,_=>trivial
 |_::_,_::_,h,⟨a,b⟩=>⟨h _ _ φ a,Al.mem (λa b hb hp=>h a b (by simp[hb]) hp) b⟩
theorem Pt.mem{P Q:AT->pL->Prop}:∀{l:List (Lit×B1 AT)}{m:List (Lit×pL)},(∀a p,p∈m->P a p.2->Q a p.2)->Pt P l m->Pt Q l m
 |[],[],_,_=>trivial
 |_::_,_::_,h,⟨⟨k,x,e,a⟩,b⟩=>⟨⟨k,x,e,h _ _ φ a⟩,Pt.mem (λa p hp hq=>h a p (by simp[hp]) hq) b⟩
theorem Al.mapR{α β γ:Type}{P:α->γ->Prop}{q:β->γ}:∀{l:List α}{m:List β},Al (λa b=>P a (q b)) l m->Al P l (m.map q)
 |[],[],_=>trivial
 |_::_,_::_,⟨a,b⟩=>⟨a,Al.mapR b⟩
theorem Pt.mapR{P:AT->pL->Prop}{q:pL->pL}:∀{l:List (Lit×B1 AT)}{m:List (Lit×pL)},Pt (λa b=>P a (q b)) l m->Pt P l (m.map λp=>(p.1,q p.2))
 |[],[],_=>trivial
 |_::_,_::_,⟨⟨k,x,e,a⟩,b⟩=>⟨⟨k,x,e,a⟩,Pt.mapR b⟩
theorem Im(h:sl.ownBlock=(if g=0 then none else some g))(hk:sl.ownBlock=some k):k=g/\g≠0:=by
 grind
theorem Ad.move{w w':AI}:∀{f:Nat}{v:AT}{a:pN},(∀k∈pM f a,w'.1[k]?=w.1[k]?)->Ad f w v a->Ad f w' v a
 |0,_,_,_,h=>h.elim
 |f+1,v,a,hk,h=>by
  obtain⟨b,g,x,rfl,hv,h⟩:=h;rcases h with⟨k,h1,h2,rfl,h⟩|⟨n,h2,rfl,h,q0⟩|⟨s,h2,rfl,h⟩|⟨al,sl,ps,rfl,h,ho,hs,ha⟩|⟨es,n,D,rfl,h,ho,hp⟩
  .exact⟨b,g,_,rfl,hv,Å ⟨k,h1,h2,rfl,h.kept (hk b (by rw[Fk];simp))⟩⟩
  .exact⟨b,g,_,rfl,hv,À (Å ⟨n,h2,rfl,h.kept (hk b (by rw[GR];simp)),q0⟩)⟩
  .exact⟨b,g,_,rfl,hv,À (À (Å ⟨s,h2,rfl,h.kept (hk b (by rw[GQ];simp))⟩))⟩
  .rw[AU]at hk;refine⟨b,g,_,rfl,hv,À (À (À (Å ⟨al,sl,ps,rfl,h.kept (hk b φ),Am ho λg' q5=>?_,hs,Al.mem (λu c hc hu=>Ad.move (λk q4=>hk k ?_) hu) ha⟩)))⟩
   .grind
   grind
  .rw[BC]at hk;refine⟨b,g,_,rfl,hv,À (À (À (À ⟨es,n,D,rfl,h.kept (hk b φ),A0 ho (hk g φ),Pt.mem (λu p hp hu=>Ad.move (λk q4=>hk k ?_) hu) hp⟩)))⟩;grind
theorem Ad.ptr{w:AI}{a:pN}(h:Ad f w v a):∃b,v=PtB b/\b<w.1.size/\b∈pM f a:=by
 cases f with
 |zero=>exact h.elim
 |succ f=>
  obtain⟨b,g,x,rfl,hv,h⟩:=h;refine⟨b,hv,?_,?_⟩
  .rcases h with⟨k,_,_,rfl,h⟩|⟨n,_,rfl,h,_⟩|⟨s,_,rfl,h⟩|⟨al,sl,ps,rfl,h,_⟩|⟨es,n,D,rfl,h,_⟩;all_goals exact h.lt
  .rcases h with⟨k,_,_,rfl,h⟩|⟨n,_,rfl,h,_⟩|⟨s,_,rfl,h⟩|⟨al,sl,ps,rfl,h,_⟩|⟨es,n,D,rfl,h,_⟩
   .rw[Fk];simp
   .rw[GR];simp
   .rw[GQ];simp
   .rw[AU];simp
   .rw[BC];simp
theorem Al.right{α β:Type}{P:α->β->Prop}{b:β}:∀{l:List α}{m:List β},Al P l m->b∈m ->∃a,P a b
 |[],[],_,h=>by cases h
 |a::_,c::_,⟨h1,h2⟩,h=>by
  rcases Ë.1 h with rfl|h
  .grind
  .exact Al.right h2 h
theorem Pt.right{P:AT->pL->Prop}{p:Lit×pL}:∀{l:List (Lit×B1 AT)}{m:List (Lit×pL)},Pt P l m->p∈m ->∃a,P a p.2
 |[],[],_,h=>by cases h
 |_::_,_::_,⟨⟨_,x,_,h1⟩,h2⟩,h=>by
  rcases Ë.1 h with rfl|h
  .grind
  .exact Pt.right h2 h
theorem Ad.lt{w:AI}:∀{f:Nat}{v:AT}{a:pN},Ad f w v a ->∀k∈pM f a,k<w.1.size
 |0,_,_,h=>h.elim
 |f+1,v,a,h=>by
  intro k hk;obtain⟨b,g,x,rfl,hv,h⟩:=h;rcases h with⟨j,_,_,rfl,h⟩|⟨n,_,rfl,h,_⟩|⟨s,_,rfl,h⟩|⟨al,sl,ps,rfl,h,ho,hs,ha⟩|⟨es,n,D,rfl,h,ho,hp⟩
  .rw[Fk]at hk;obtain rfl:k=b:=ε;exact h.lt
  .rw[GR]at hk;obtain rfl:k=b:=ε;exact h.lt
  .rw[GQ]at hk;obtain rfl:k=b:=ε;exact h.lt
  .rw[AU]at hk;rcases Ë.1 hk with rfl|hk
   .exact h.lt
   .rcases ó.1 hk with hk|hk
    .split at hk
     .cases hk
     .rename_i h0;obtain rfl:k=g:=ε;exact(Af ho k ε).1
    .obtain⟨c,hc,q0⟩:=û.1 hk;obtain⟨u,hu⟩:=ha.right hc;exact Ad.lt hu k q0
  .rw[BC]at hk;rcases Ë.1 hk with rfl|hk
   .exact h.lt
   .rcases Ë.1 hk with rfl|hk
    .exact CV ho
    .obtain⟨p,q4,q0⟩:=û.1 hk;obtain⟨u,hu⟩:=hp.right q4;exact Ad.lt hu k q0
theorem Ad.rep{F:Nat->Prop}{w:AI}:∀{f:Nat}{v:AT}{a:pN},(∀k∈pM f a,F k)->Ad f w v a->Rep f F w v (pT f a)
 |0,_,_,_,h=>h.elim
 |f+1,v,a,hF,h=>by
  obtain⟨b,g,x,rfl,hv,h⟩:=h;rcases h with⟨k,h1,h2,rfl,h⟩|⟨n,h2,rfl,h,q0⟩|⟨s,h2,rfl,h⟩|⟨al,sl,ps,rfl,h,ho,hs,ha⟩|⟨es,n,D,rfl,h,ho,hp⟩
  .exact⟨b,hv,hF b (by rw[Fk];simp),Å ⟨k,h1,rfl,h⟩⟩
  .exact⟨b,hv,hF b (by rw[GR];simp),À (Å ⟨n,rfl,h,q0⟩)⟩
  .exact⟨b,hv,hF b (by rw[GQ];simp),À (À (Å ⟨s,rfl,h⟩))⟩
  .rw[AU]at hF;refine⟨b,hv,hF b φ,À (À (À (Å ⟨al.map (pT f),sl,ps,Bn _ _ _ _,h,ho,λg' q5=>?_,Al.mapR (Al.mem (λu c hc hu=>Ad.rep (λk q4=>hF k ?_) hu) ha)⟩)))⟩
   .grind
   grind
  .rw[BC]at hF;refine⟨b,hv,hF b φ,À (À (À (À ⟨es.map (λp=>(p.1,pT f p.2)),g,n,D,Bc _ _ _ _,h,hF g φ,ho,Pt.mapR (Pt.mem (λu p hp hu=>Ad.rep (λk q4=>hF k ?_) hu) hp)⟩)))⟩;grind
def Tr(f lo:Nat)(w:AI)(v:AT)(d:pL):Prop:=∃a,Ad f w v a/\pT f a=d/\(pM f a).Nodup/\∀k∈pM f a,lo<=k
theorem Tr.rep{w:AI}{d:pL}(h:Tr f lo w v d):Rep f (λk=>lo<=k) w v d:=by
 obtain⟨a,h1,rfl,_,h3⟩:=h;exact h1.rep h3
theorem Tr.move{q4:Nat}{w:AI}{d:pL}(h:Tr f lo w v d)(hl:q4<=lo)(hk:∀k,lo<=k->k<w.1.size->w'.1[k]?=w.1[k]?):Tr f q4 w' v d:=by
 obtain⟨a,h1,h2,h3,h4⟩:=h;exact⟨a,h1.move λk q0=>hk k (h4 k q0) (h1.lt k q0),h2,h3,ε⟩
theorem Tr.ptr{w:AI}{d:pL}(h:Tr f lo w v d):∃b,v=PtB b/\b<w.1.size/\lo<=b:=by
 obtain⟨a,h1,_,_,h4⟩:=h;obtain⟨b,e,hb,hm⟩:=h1.ptr;grind
theorem Tr.leafW{b:Nat}{w:AI}(hb:lo<=b)(hk:k<3)(h:VB w b k n0 [] (.slice none 0 0) (.map none)):Tr (f+1) lo w (.pointer (some ⟨b,0,none⟩)) (BG k):=
 ⟨pS b 0 (BG k),⟨b,0,_,rfl,rfl,ε⟩,rfl,by rw[Fk];simp,by rw[Fk];grind⟩
theorem Tr.leafN{b:Nat}{n:Nm}{w:AI}(hb:lo<=b)(h:VB w b 3 n [] (.slice none 0 0) (.map none))(h1:-100000000<=n.2.2/\n.2.2<=100000000):Tr (f+1) lo w (.pointer (some ⟨b,0,none⟩)) (Bm n):=
 ⟨pS b 0 (Bm n),⟨b,0,_,rfl,rfl,ε⟩,rfl,by rw[GR];simp,by rw[GR];grind⟩
theorem Tr.leafS{b:Nat}{s:By}{w:AI}(hb:lo<=b)(h:VB w b 4 n0 s (.slice none 0 0) (.map none)):Tr (f+1) lo w (.pointer (some ⟨b,0,none⟩)) (Av s):=
 ⟨pS b 0 (Av s),⟨b,0,_,rfl,rfl,ε⟩,rfl,by rw[GQ];simp,by rw[GQ];grind⟩
def TrL(f lo:Nat)(own:Option Nat)(w:AI)(ps:List AT)(es:List pL):Prop:=
 ∃al:List pN,Al (Ad f w) ps al/\al.map (pT f)=es/\(al.flatMap (pM f)).Nodup/\∀k∈al.flatMap (pM f),lo<=k/\own≠some k
theorem TrL.nil(f lo:Nat)(own:Option Nat)(w:AI):TrL f lo own w [] []:=⟨[],trivial,rfl,D2,λk hk=>by cases hk⟩
theorem TrL.length{w:AI}{es:List pL}(h:TrL f lo own w ps es):ps.length=es.length:=by
 obtain⟨al,h1,rfl,_⟩:=h;rw[æ];exact h1.length
theorem Al.lts{w:AI}{al:List pN}(h:Al (Ad f w) ps al):∀k∈al.flatMap (pM f),k<w.1.size:=by
 intro k hk;obtain⟨c,hc,q0⟩:=û.1 hk;obtain⟨u,hu⟩:=h.right hc;exact hu.lt k q0
theorem TrL.move{q0:Option Nat}{w:AI}{es:List pL}(h:TrL f lo own w ps es)(hk:∀k,lo<=k->own≠some k->k<w.1.size->w'.1[k]?=w.1[k]?/\q0≠some k):TrL f lo q0 w' ps es:=by
 obtain⟨al,h1,h2,h3,h4⟩:=h;refine⟨al,Al.mem (λu c hc hu=>hu.move λk q5=>?_) h1,h2,h3,λk q4=>?_⟩
 .exact⟨(h4 k q4).1,(hk k (h4 k q4).1 (h4 k q4).2 (h1.lts k q4)).2⟩
 .have hm:k∈al.flatMap (pM f):=ε;exact(hk k (h4 k hm).1 (h4 k hm).2 (h1.lts k hm)).1
theorem TrL.snoc{q0:Option Nat}{w w2 w4:AI}{es:List pL}{d:pL}(h:TrL f lo own w ps es)(hv:Tr f w.1.size w2 v d)(q5:lo<=w.1.size)(hk:∀k,lo<=k->own≠some k->k<w.1.size->w4.1[k]?=w.1[k]?/\q0≠some k)(q4:∀k,w.1.size<=k->k<w2.1.size->w4.1[k]?=w2.1[k]?/\q0≠some k):TrL f lo q0 w4 (ps++[v]) (es++[d]):=by
 obtain⟨al,h1,h2,h3,h4⟩:=h;obtain⟨a,g1,g2,g3,g4⟩:=hv;have hl:=h1.lts;have ha:∀k∈al.flatMap (pM f),w4.1[k]?=w.1[k]?/\q0≠some k:=ε;refine⟨al++[a],Al.snoc (g1.move λk hm=>(q4 k (g4 k hm) (g1.lt k hm)).1) (Al.mem (λu c hc hu=>hu.move ε) h1),ε,?_,?_⟩
 .grind
 .intro k hm;rw[Ĭ]at hm;rcases ó.1 hm with hm|hm
  .grind
  .have hm:k∈pM f a:=ε;have:=g4 k hm;exact⟨ζ,(q4 k this (g1.lt k hm)).2⟩
theorem TrL.arr{q4 b:Nat}{w:AI}{es:List pL}(h:TrL f lo sl.ownBlock w ps es)(hb:q4<=b)(q5:b<lo)(hvb:VB w b 5 n0 [] sl (.map none))(ho:w.ownsRow 0 80 1 sl ps.length ps)(hs:∀g,sl.ownBlock=some g->lo<=g):Tr (f+1) q4 w (.pointer (some ⟨b,0,none⟩)) (Ak es):=by
 obtain⟨al,h1,rfl,h3,h4⟩:=h;have q0:b∉al.flatMap (pM f):=ε;cases hsl:sl.ownBlock with
 |none=>
  refine⟨pS b 0 (.slice al []),⟨b,0,_,rfl,rfl,ε⟩,rfl,?_,?_⟩
  .rw[AU,if_pos rfl,Ù,ā];exact⟨q0,h3⟩
  .intro k hk;rw[AU,if_pos rfl,Ù]at hk;rcases Ë.1 hk with rfl|hk
   .exact hb
   .have:=(h4 k hk).1;omega
 |some g=>
  have s1:=hs g hsl;have s3:g≠0:=ζ;refine⟨pS b g (.slice al []),⟨b,g,_,rfl,rfl,ε⟩,rfl,?_,?_⟩
  .rw[AU,if_neg s3,ā,B4,ā];refine⟨λhm=>?_,λhm=>(h4 g hm).2 hsl,h3⟩;rcases Ë.1 hm with e|hm
   .omega
   .exact q0 hm
  .intro k hk;rw[AU,if_neg s3,B4]at hk;rcases Ë.1 hk with rfl|hk
   .exact hb
   .rcases Ë.1 hk with rfl|hk
    .omega
    .have:=(h4 k hk).1;omega
def TrM(f lo:Nat)(w:AI)(D:List (Lit×B1 AT))(es:List (Lit×pL)):Prop:=
 ∃al:List (Lit×pN),Pt (Ad f w) D al/\(al.map λp=>(p.1,pT f p.2))=es/\(al.flatMap λp=>pM f p.2).Nodup/\∀k∈al.flatMap λp=>pM f p.2,lo<=k
theorem TrM.nil(f lo:Nat)(w:AI):TrM f lo w [] []:=⟨[],trivial,rfl,D2,λk hk=>by cases hk⟩
theorem Pt.lts{w:AI}{al:List (Lit×pN)}(h:Pt (Ad f w) D al):∀k∈al.flatMap (λp=>pM f p.2),k<w.1.size:=by
 intro k hk;obtain⟨c,hc,q0⟩:=û.1 hk;obtain⟨u,hu⟩:=h.right hc;exact hu.lt k q0
theorem TrM.move{w:AI}{es:List (Lit×pL)}(h:TrM f lo w D es)(hk:∀k,lo<=k->k<w.1.size->w'.1[k]?=w.1[k]?):TrM f lo w' D es:=by
 obtain⟨al,h1,h2,h3,h4⟩:=h;refine⟨al,Pt.mem (λu p hp hu=>hu.move λk q0=>?_) h1,h2,h3,h4⟩;have hm:k∈al.flatMap (λp=>pM f p.2):=ε;exact hk k (h4 k hm) (h1.lts k hm)
theorem PX(f:Nat)(x:Lit×pN)(l:List (Lit×pN)):(A5 x l).map (λp=>(p.1,pT f p.2))=A5 (x.1,pT f x.2) (l.map λp=>(p.1,pT f p.2)):=by
 induction l with
 |nil=>rfl
 |cons y r ih=>
  simp only[A5,Ð];grind
theorem TrM.put{w w5 w6:AI}{es:List (Lit×pL)}{k:Lit}{x:AT}{d:pL}(h:TrM f lo w D es)(hv:Tr f w.1.size w5 x d)(q5:lo<=w.1.size)(hk:∀j,lo<=j->j<w.1.size->w6.1[j]?=w.1[j]?)(q0:∀j,w.1.size<=j->j<w5.1.size->w6.1[j]?=w5.1[j]?):
  ∃D' es',E0 (.map D) k (.held x)=.map D'/\E0 (.map es:pL) k d=.map es'/\TrM f lo w6 D' es':=by
 obtain⟨al,h1,rfl,h3,h4⟩:=h;obtain⟨a,g1,rfl,g3,g4⟩:=hv;have hl:=h1.lts;have g6:Ad f w6 x a:=g1.move λj hm=>q0 j (g4 j hm) (g1.lt j hm);have h6:Pt (Ad f w6) D al:=Pt.mem (λu p hp hu=>hu.move ε) h1;refine⟨_,_,rfl,rfl,A5 (k,a) (al.filter λp=>!p.1.sameKey k),Pt.insert k x a g6 (Pt.filter (λc=>!c.sameKey k) h6),?_,?_,?_⟩
 .rw[PX,List.filter_map];rfl
 .have hp:=(ö (k,a) (al.filter λp=>!p.1.sameKey k)).flatMap_right (λp=>pM f p.2);grind
 .intro j hj;obtain⟨p,hp,q4⟩:=û.1 hj;rcases Ë.1 ((ö _ _).mem_iff.1 hp)with rfl|hp
  .grind
  .exact h4 j ε
theorem TrM.pt{w:AI}{es:List (Lit×pL)}(h:TrM f lo w D es):Pt (Rep f (λk=>lo<=k) w) D es:=by
 obtain⟨al,h1,rfl,_,h4⟩:=h;exact Pt.mapR (Pt.mem (λu p hp hu=>hu.rep λk hk=>h4 k ε) h1)
theorem TrM.obj{q0 b:Nat}{w:AI}{es:List (Lit×pL)}(h:TrM f lo w D es)(hb:q0<=b/\b<lo)(hm:q0<=m/\m<lo)(q4:b≠m)(hvb:VB w b 6 n0 [] (.slice none 0 0) (.map (some m)))(ho:w.ownsMap AS 9 RV m n (.map D)):Tr (f+1) q0 w (.pointer (some ⟨b,0,none⟩)) (Ap es):=by
 obtain⟨al,h1,rfl,h3,h4⟩:=h;refine⟨pS b m (.map al),⟨b,m,_,rfl,rfl,ε⟩,rfl,?_,?_⟩
 .rw[BC,ā,ā];grind
 .intro k hk;rw[BC]at hk;grind
def Two(B:Nat)(W W':AI):Prop:=W'.1[B]?=W.1[B]?/\W'.1[B+1]?=W.1[B+1]?
def FW(B:Nat)(I:AI->Prop):Prop:=∀W W':AI,I W->W'.os=W.os->W'.tape=W.tape->W'.output=W.output->W.1.size<=W'.1.size->(∀j,j<W.1.size->j≠B->j≠B+1->W'.1[j]?=W.1[j]?)->I W'
theorem FW.put{l:Nat}{I:AI->Prop}(h:FW B I){W:AI}(hi:I W)(hl:l=B\/l=B+1)(o:Obj):I (W.putObj l o):=
 h W _ hi rfl rfl rfl κ λj _ h1 h2=>ò ζ
theorem KP{P:Program}{g:Operand}{ps:Array Tmp}{assign body:Code}{Q:Exit->Act->AI->Prop}{a:Act}{w:AI}{gf:Nat}{lb:Array AT}(hg:a.eval g=.func (.func gf) #[] lb)(eg:∀args w,(D1 gf args).run P w=.ok (.enter gf args) w)(N:Nat)(arg:Nat->Array AT)(hps:∀k,(arg k).size=ps.size)(I:Nat->AI->Prop)(A:Nat->Act->AI->Prop)(hI:∀k,FW w.1.size (I k))(hA:∀k a',FW w.1.size (A k a'))(h0:I 0 w)(hiter:∀(l:Nat) (J:Nat->AI->Prop) (W:AI),(∀k W,J k W->I k W)->(∀k W,k<N->J k W->YieldAt D3 0 P l (arg k) W λe W'=>e=.returned (.bool true)/\J (k+1) W')->J 0 W ->
   CallsIn D3 0 P gf (#[.func (.yield l) #[] #[]]++lb) W λe W'=>(∃v,e=.returned v)/\J N W')(hassign:∀l k W,k<N->I k W->w.1.size+1<W.1.size->assign.wpIn (Fence.wide.inRound l) 0 P (λe a' W'=>e=.normal/\Two w.1.size W W'/\A k a' W') { tmps:=(ps.zip (arg k)).foldl (λt (p,v)=>t.setIfInBounds p v) a.tmps,defers:=[] } W)(hbody:∀l k a' W,k<N->A k a' W->w.1.size+1<W.1.size->(l=w.1.size+1/\∃r,W.1[l]?=some (.loop r))->body.wpIn (Fence.wide.inRound l) 0 P (λe _ W'=>e=.normal/\Two w.1.size W W'/\I (k+1) W') a' W)(hdone:∀W,I N W->W.1[w.1.size]?=some (.deferred (some []))->Q .normal { a with defers:={target:=.collected w.1.size,args:=#[] }::a.defers } W):
  (Code.rangeFunc g ps assign body).wpIn D3 0 P Q a w:=by
 refine wpIn_rangeFunc λfn q8=>?_;obtain⟨B,hB⟩:∃B,B=w.1.size:=⟨_,rfl⟩
 obtain⟨rc,q0⟩:∃rc:LoopState->Loop,rc=λst=>{state:=st,pending:=none,fn,tmps:=a.tmps,params:=ps,assign,body,defers:=B }:=⟨_,rfl⟩
 have two:∀o o':Obj,((w.alloc o).alloc o').1[B]?=some o/\((w.alloc o).alloc o').1[B+1]?=some o'/\∀j,j<B->((w.alloc o).alloc o').1[j]?=w.1[j]?:=λo o'=>by
  have e1:=CD w o;have e2:=CD (w.alloc o) o';rw[World.size_alloc,<-hB]at e2;rw[<-hB]at e1;refine⟨(Ä (w.alloc o) o' B ω).trans e1,e2,λj hj=>?_⟩;exact(Ä (w.alloc o) o' j ω).trans (Ä w o j ζ)
 obtain⟨W1,q4⟩:∃W1,W1=(w.alloc (.deferred (some []))).alloc (.loop (rc .ready)):=⟨_,rfl⟩
 have t1:W1.1[B]?=some (.deferred (some []))/\W1.1[B+1]?=some (.loop (rc .ready)):=ε;have i1:I 0 W1:=by
  refine hI 0 w W1 h0 (by rw[q4];rfl) κ (by rw[q4];rfl) ε λj hj _ _=>?_;grind
 rw[<-hB]at hI hA hassign hbody hdone;refine⟨B+1,[{target:=.collected B,args:=#[] }],W1,{target:=.fn (.func gf) lb,args:=#[.func (.yield (B+1)) #[] #[]] },W1,gf,#[.func (.yield (B+1)) #[] #[]]++lb,W1,?_,?_,?_,?_,?_,?_⟩
 .rw[q4,q0,hB];exact run_enterLoop_outer _ _ _ _ _
 .simp only[resolve,hg];simp[go_sem]
 .intro f' _;exact trivial
 .simp[invoke,go_sem,eg]
 .intro h;cases h
 .refine (hiter (B+1) (λk W=>I k W/\W.1[B]?=some (.deferred (some []))/\W.1[B+1]?=some (.loop (rc .ready))) W1 (λk W h=>h.1) ?_ ⟨i1,t1⟩).mono ?_
  .rintro k W hk⟨hi,hd,hl⟩;have hy:=run_yield (P:=P) (args:=arg k) hl ε;rw[q0]at hy;refine⟨fn,_,assign,body,hy,roundIn_of_wpIn q8 (wpIn_mono (hassign (B+1) k W hk hi (È.1 hl).1) ?_)⟩;rintro e a' Wa⟨rfl,q7,ha⟩;have hla:=q7.2.trans hl;have hlt:=(È.1 hla).1;refine⟨_,run_beginRound hla (by rw[q0]),wpIn_mono (hbody (B+1) k a' _ hk ((hA k a').put ha (À rfl) _) κ ⟨ζ,_,BY hlt⟩) ?_⟩;rintro e a3 W3⟨rfl,q6,q9⟩;have l3:W3.1[B+1]?=some (.loop { rc .ready with state:=.busy }):=q6.2.trans (BY hlt);have d3:W3.1[B]?=some (.deferred (some [])):=q6.1.trans ((ò ζ).trans (q7.1.trans hd));have hr:=run_endRound (P:=P) none l3;refine⟨_,_,hr,rfl,(hI (k+1)).put q9 (À rfl) _,(ò ζ).trans d3,?_⟩;refine(BY ε).trans ?_;grind
  .rintro e W2⟨⟨v,rfl⟩,hi,hd,hl⟩;have q5:=run_endLoop (P:=P) hl ε;refine⟨none,_,by rw[q5,q0],hdone _ ((hI N).put hi (À rfl) _) ((ò ζ).trans hd)⟩
def lst(x y z:Nat):Array Bool:=#[decide (1<=x),decide (1<=y),decide (2<=y),decide (3<=y),decide (4<=y),decide (1<=z),decide (2<=z),decide (3<=z),false,false,false,false]
def rdy(x y z:Nat):List Nat:=(if x<1 then[0]else[])++((if y<4 then[1+y]else[])++(if z<3 then[5+z]else[]))
def Oe(ops:Array Oper):Bool:=(D6 2).all λx=>(D6 5).all λy=>(D6 4).all λz=>(y==4 && z==3) || (Ft .any ops (lst x y z)==rdy x y z)
theorem nU(y z:Nat):(lst 0 y z).setIfInBounds 0 true=lst 1 y z:=rfl
theorem nT{x y z:Nat}(h:y<4):(lst x y z).setIfInBounds (1+y) true=lst x (y+1) z:=by
 match y,h with
 |0,_=>rfl
 |1,_=>rfl
 |2,_=>rfl
 |3,_=>rfl
theorem nS{x y z:Nat}(h:z<3):(lst x y z).setIfInBounds (5+z) true=lst x y (z+1):=by
 match z,h with
 |0,_=>rfl
 |1,_=>rfl
 |2,_=>rfl
theorem iM{F:Fence}{P:Program}{ops:Array Oper}{Q:Exit->Act->AI->Prop}(A:Nat->Nat->Nat->Act)(W:Nat->AI)(hd:Oe ops=true)(h0:∀y z (K:Act->AI->Prop),y<=4->z<=3->K (A 1 y z) (W z)->wpOpIn F n P ops Q 0 K (A 0 y z) (W z))(h1:∀x y z (K:Act->AI->Prop),x<=1->y<4->z<=3->K (A x (y+1) z) (W z)->wpOpIn F n P ops Q (1+y) K (A x y z) (W z))(h5:∀x y z (K:Act->AI->Prop),x<=1->y<=4->z<3->K (A x y (z+1)) (W (z+1))->wpOpIn F n P ops Q (5+z) K (A x y z) (W z))(hl:C5 F n P .any ops Q 4 (lst 1 4 3) (A 1 4 3) (W 3))(hl0:C5 F n P .any ops Q 4 (lst 1 4 3) (A 1 4 3) (W 3)->C5 F n P .any ops Q 5 (lst 0 4 3) (A 0 4 3) (W 3)):C5 F n P .any ops Q 12 (lst 0 0 0) (A 0 0 0) (W 0):=by
 suffices H:∀m x y z,x<=1->y<=4->z<=3->x+y+z+m=8->C5 F n P .any ops Q (m+4) (lst x y z) (A x y z) (W z)from ε
 intro m;induction m with
 |zero=>
  intro x y z hx hy hz e;obtain rfl:x=1:=ζ;obtain rfl:y=4:=ζ;obtain rfl:z=3:=ζ;exact hl
 |succ m ih=>
  intro x y z hx hy hz e;by_cases q4:y=4/\z=3
  .obtain⟨rfl,rfl⟩:=q4;obtain rfl:x=0:=ζ;obtain rfl:m=0:=ζ;exact hl0 hl
  have hr:Ft .any ops (lst x y z)=rdy x y z:=by
   unfold Oe at hd;have h2:=C1.1 hd x ω;have h3:=C1.1 h2 y ω;grind
  have hne:rdy x y z≠[]:=by
   unfold rdy;intro h;rw[B3,B3]at h;grind
  have e4:m+1+4=(m+4)+1:=ζ;rw[e4];refine ĥ hr hne ?_;intro i hi;unfold rdy at hi;rcases ó.1 hi with hi|hi
  .split at hi
   .obtain rfl:i=0:=ε;obtain rfl:x=0:=ζ;refine h0 y z _ hy hz ?_;rw[nU];exact ε
   .cases hi
  .rcases ó.1 hi with hi|hi
   .split at hi
    .rename_i q0;obtain rfl:i=1+y:=ε;refine h1 x y z _ hx q0 hz ?_;rw[nT q0];exact ε
    .cases hi
   .split at hi
    .rename_i hz3;obtain rfl:i=5+z:=ε;refine h5 x y z _ hx hy hz3 ?_;rw[nS hz3];exact ε
    .cases hi
