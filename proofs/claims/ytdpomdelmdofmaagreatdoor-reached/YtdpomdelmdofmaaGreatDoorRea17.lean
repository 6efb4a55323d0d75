import Derived.Test.YtdpomdelmdofmaaGreatDoorRea16
import Derived.Lib.OwnBridge
import Derived.Laws.CopyOwn
import Derived.Laws.AppendOwn
import Derived.Lib.AppendZerosOnto
open Go renaming World->AI,Value->AS,Calls->CH,TypeId->DD
open Go.Proofs.Tryz renaming prog->AT
open Go.World renaming cell?->A1,frozen?->Bs,setCell->Dp,shape?->D0
open Go.Extern.SlicesOverlaps renaming overlaps->A2
open Go.RowKit.Below renaming heap_setCell->A3,refl->BY
open Nat renaming le_refl->A4,zero_lt_one->C1
open Array renaming getElem?_eq_some_iff->A5
open Go.RowKit renaming Below->A6
open Or renaming inr->CD,inl->D3
open Go.Value renaming pointer->CL
open Go.Sem renaming run->CR,pure->D2
open Go.Maps renaming has->C2
open Go.DataW renaming map->Dt
open Go.Sort renaming putRow->D1,ahead->E0
set_option maxHeartbeats 2000000
set_option maxRecDepth 100000
namespace Go.Proofs.YtdpomdelmdofmaaGreatDoor
open Go.Proofs.Tryz Go.RowKit Go.Maps
variable{w':AI}{wp v:AS}{B q R:Nat}{G G' F F':Nat->Prop}{l:List By}{T a:dS}{x:To}
abbrev dX:=Nat×List By×To
abbrev eL:=Option (List dX)
abbrev gP:=Option (To×eL)
abbrev St:=Int×By×By
abbrev fE:=Nat×Nat×By
abbrev fO:=Nat×List By×List By×To
def Kb:By:=[97,100,100]
def Fy:By:=[114,101,109,111,118,101]
def EI:By:=[114,101,112,108,97,99,101]
def Ny:By:=[109,111,118,101]
def jS:By:=[99,111,112,121]
def Nx:By:=[116,101,115,116]
def fF:By:=[111,112]
def AZ:By:=[112,97,116,104]
def DG:By:=[102,114,111,109]
def AU:By:=[118,97,108,117,101]
def AH(d:To)(k:By):Option To:=match d with
 | .map es=>if C2 (.map es:To) (.string k)=true then some ((Dt es).atKey (.string k) .nil) else none
 | _=>none
def Cd:Option To->Option By
 | some (.lit (.string s))=>some s
 | _=>none
def BS(d:Option To):Option (List By):=match Cd d with
 | some s=>fL s
 | none=>none
def GP(nm:By)(hv hf:Bool):Option Nat:=
 if nm=Fy then some 1
 else if nm=Kb then (if hv then some 0 else none)
 else if nm=EI then (if hv then some 2 else none)
 else if nm=Nx then (if hv then some 5 else none)
 else if nm=Ny then (if hf then some 3 else none)
 else if nm=jS then (if hf then some 4 else none)
 else none
def CK(d:To):Option fO:=match BS (AH d AZ) with
 | none=>none
 | some p=>match GP ((Cd (AH d fF)).getD []) (AH d AU).isSome (BS (AH d DG)).isSome with
  | none=>none
  | some k=>some (k,p,(BS (AH d DG)).getD [],(AH d AU).getD .nil)
def Cy:Nat->List To->Except Nat (List fO)
 | _,[]=>.ok []
 | i,d::r=>match CK d with
  | none=>.error i
  | some o=>match Cy (i+1) r with
   | .ok l=>.ok (o::l)
   | .error c=>.error c
def DA(d:To):Except Nat (List fO):=match d with
 | .slice es _=>Cy 0 es
 | _=>.error 0
def iL(d:To)(s:List By):List Nat:=(A8 d s).getD []
def iY:By:=[]
def De(d:To)(s:List By)(t:By)(n x:To):Except Nat (To×List dX):=match n with
 | .map es=>if C2 (.map es:To) (.string t)=true then .ok (As (iL d s) (He 0 t x (.map es)) d,[(2,s++[t],(Dt es).atKey (.string t) .nil)])
   else .ok (As (iL d s) (FT 0 t x (.map es)) d,[(1,s++[t],.nil)])
 | .slice es y=>match D4 es.length t with
  | .error c=>.error c
  | .ok i=>.ok (As (iL d s) (FT i iY x (.slice es y)) d,[(1,s++[Lib.itoa (i:Int)],.nil)])
 | _=>.error 11
def DO(p:List By):Option (List By×By):=match p.getLast? with
 | none=>none
 | some t=>some (p.dropLast,t)
def Cq(d:To)(p:List By)(x:To):Except Nat (To×List dX):=match DO p with
 | none=>.ok (x,[(2,[],d)])
 | some (s,t)=>match Ah d s with
  | .error c=>.error c
  | .ok n=>De d s t n x
def CU(d:To)(p:List By):Except Nat (To×List dX):=match DO p with
 | none=>.error 11
 | some (s,t)=>match Ah d s with
  | .error c=>.error c
  | .ok n=>match Aq n t with
   | .error c=>.error c
   | .ok e=>.ok (As (iL d s) (Lr ((eZ t).getD 0) t n) d,[(0,p,e)])
def EO(d:To)(p:List By)(x:To):Except Nat (To×List dX):=match DO p with
 | none=>.ok (x,[(2,[],d)])
 | some (s,t)=>match Ah d s with
  | .error c=>.error c
  | .ok n=>match Aq n t with
   | .error c=>.error c
   | .ok e=>.ok (As (iL d s) (He ((eZ t).getD 0) t x n) d,[(2,p,e)])
def EX(p q:List By):Bool:=decide (q.length<p.length) && (p.take q.length==q)
def K6(d:To)(q p:List By):Except Nat (To×List dX):=match Ah d q with
 | .error c=>.error c
 | .ok e=>if q=p then .ok (d,[]) else if EX p q then .error 13 else match CU d q with
  | .error c=>.error c
  | .ok (d1,j1)=>match Cq d1 p e with
   | .error c=>.error c
   | .ok (d2,j2)=>.ok (d2,j1++j2)
def Lb(d:To)(q p:List By):Except Nat (To×List dX):=match Ah d q with
 | .error c=>.error c
 | .ok e=>Cq d p e
noncomputable def KZ(d:To)(p:List By)(x:To):Except Nat (To×List dX):=match Ah d p with
 | .error c=>.error c
 | .ok e=>if veq e x=true then .ok (d,[]) else .error 14
noncomputable def gW(d:To)(o:fO):Except Nat (To×List dX):=
 if o.1=0 then Cq d o.2.1 o.2.2.2 else if o.1=1 then CU d o.2.1 else if o.1=2 then EO d o.2.1 o.2.2.2
 else if o.1=3 then K6 d o.2.2.1 o.2.1 else if o.1=4 then Lb d o.2.2.1 o.2.1 else KZ d o.2.1 o.2.2.2
noncomputable def Fj(dp:Int)(d:To):Nat:=if dp<eQ top d then 7 else if 20000<(dZ top d).length then 4 else 0
noncomputable def Cc(dp:Int):Nat->To->List dX->List fO->Except (Nat×Nat) (To×List dX)
 | _,d,j,[]=>.ok (d,j)
 | i,d,j,o::r=>match gW d o with
  | .error c=>.error (c,i)
  | .ok (d',j')=>if Fj dp d'=0 then Cc dp (i+1) d' (j++j') r else .error (Fj dp d',i)
def Dd(c:UInt8):By:=if c=126 then [126,48] else if c=47 then [126,49] else [c]
def Bw(t:By):By:=t.flatMap Dd
def AE(p:List By):By:=p.flatMap fun t=>47::Bw t
def AM(k:Nat):By:=if k=0 then Kb else if k=1 then Fy else EI
def AQ(o:dX):To:=if o.1=1 then Ap [(.string fF,Ao (AM o.1)),(.string AZ,Ao (AE o.2.1))]
 else Ap [(.string fF,Ao (AM o.1)),(.string AZ,Ao (AE o.2.1)),(.string AU,o.2.2)]
def Br(l:List dX):By:=dZ top (Af (l.map AQ))
def fI(d:To):Bool:=match d with
 | .map _=>true
 | _=>false
def fY(d:To):Bool:=match d with
 | .lit (.int _ k)=>k==0
 | _=>false
def Bx:Nat->To->To
 | 0,_=>.nil
 | f+1,p=>match p with
  | .map eV=>.map ((eV.filter fun q=>!fY q.2).map fun q=>(q.1,Bx f q.2))
  | p=>p
def Aj(es:List (Lit×To))(k:Lit):Option To:=if C2 (.map es:To) k=true then some ((Dt es).atKey k .nil) else none
def Fk(k:Lit):By:=match k with
 | .string s=>s
 | _=>[]
def Hk(m:Option To->List By->To->To×List dX)(s:List By):List (Lit×To)->List (Lit×To)->To×List dX
 | [],es=>(.map es,[])
 | (k,q)::r,es=>
  if fY q then (match Aj es k with
   | none=>Hk m s r es
   | some o=>((Hk m s r (eR k es)).1,(0,s++[Fk k],o)::(Hk m s r (eR k es)).2))
  else ((Hk m s r (eE k (m (Aj es k) (s++[Fk k]) q).1 es)).1,(m (Aj es k) (s++[Fk k]) q).2++(Hk m s r (eE k (m (Aj es k) (s++[Fk k]) q).1 es)).2)
def eC:Nat->Option To->List By->To->To×List dX
 | 0,_,_,_=>(.nil,[])
 | f+1,v,s,p=>match v,p with
  | some (.map es),.map eV=>Hk (eC f) s eV es
  | some o,p=>(Bx (f+1) p,[(2,s,o)])
  | none,p=>(Bx (f+1) p,[(1,s,.nil)])
def BK(xs bs:List (Lit×To)):List By:=(bs.foldl (fun (l:List (Lit×To)) q=>eE q.1 .nil l) xs).map fun p=>Fk p.1
noncomputable def eB:List To->List To->Nat
 | [],_=>0
 | _::_,[]=>0
 | x::a,y::b=>if veq x y=true then 1+eB a b else max (eB a (y::b)) (eB (x::a) b)
termination_by a b=>a.length+b.length
noncomputable def eJ:Nat->List To->List To->Nat->Nat->List Nat×List Nat
 | 0,_,_,_,_=>([],[])
 | _+1,[],[],_,_=>([],[])
 | n+1,_::a,[],k,j=>((k::(eJ n a [] k j).1),(eJ n a [] k j).2)
 | n+1,[],_::b,k,j=>((eJ n [] b k (j+1)).1,j::(eJ n [] b k (j+1)).2)
 | n+1,x::a,y::b,k,j=>if eB a (y::b)=eB (x::a) (y::b) then ((k::(eJ n a (y::b) k j).1),(eJ n a (y::b) k j).2)
   else if eB (x::a) b=eB (x::a) (y::b) then ((eJ n (x::a) b k (j+1)).1,j::(eJ n (x::a) b k (j+1)).2)
   else eJ n a b (k+1) (j+1)
def Ca(s:List By)(i:Nat):List By:=s++[Lib.itoa (i:Int)]
noncomputable def B6(s:List By)(a b:List To):List dX:=
 ((eJ (a.length+b.length) a b 0 0).1.map fun (i:Nat)=>((1,Ca s i,.nil):dX))++(eJ (a.length+b.length) a b 0 0).2.map fun (i:Nat)=>((0,Ca s i,(b[i]?).getD .nil):dX)
def AN(m:List By->To->To->List dX)(s:List By)(xs bs:List (Lit×To)):List By->List dX
 | []=>[]
 | k::r=>(match Aj xs (.string k),Aj bs (.string k) with
  | _,none=>[(1,s++[k],.nil)]
  | none,some y=>[(0,s++[k],y)]
  | some x,some y=>m (s++[k]) x y)++AN m s xs bs r
noncomputable def A9(n:Int):Nat->List By->To->To->List dX
 | 0,_,_,_=>[]
 | f+1,s,a,b=>match a,b with
  | .map xs,.map bs=>AN (A9 n f) s xs bs (BK xs bs)
  | .slice xs x,.slice bs y=>if ((xs.length:Int)+1)*((bs.length:Int)+1)<=n then B6 s xs bs else if veq (.slice xs x) (.slice bs y)=true then [] else [(2,s,.slice bs y)]
  | a,b=>if veq a b=true then [] else [(2,s,b)]
def AD(a:To):List (Lit×To):=match a with
 | .map es=>es
 | _=>[]
noncomputable def D9(m:To->To->Option To)(xs:List (Lit×To)):List (Lit×To)->List (Lit×To)->Option (List (Lit×To))
 | [],out=>some out
 | (k,y)::r,out=>match Aj xs k with
  | some x=>if veq x y=true then D9 m xs r out else if fY y then none else (match m x y with
   | none=>none
   | some z=>D9 m xs r (eE k z out))
  | none=>if fY y then none else (match m (.map []) y with
   | none=>none
   | some z=>D9 m xs r (eE k z out))
noncomputable def fW:Nat->To->To->Option To
 | 0,_,_=>none
 | f+1,a,b=>match b with
  | .map bs=>(D9 (fW f) (AD a) bs (((AD a).filter fun p=>!C2 (.map bs:To) p.1).map fun p=>(p.1,AF 0))).map .map
  | b=>some b
noncomputable def iB(d e:Int)(v:To×eL)(s:By):fE×(To×eL):=match eH s (d+2) e with
 | (c,none)=>((c,0,[]),v)
 | (_,some p)=>match DA p with
  | .error i=>((10,i,[]),v)
  | .ok l=>match Cc d 0 v.1 [] l with
   | .error (c,i)=>((c,i,[]),v)
   | .ok (x,j)=>((0,0,[]),(x,some j.reverse))
noncomputable def iK(v:To×eL)(p:To):fE×(To×eL):=
 if 20000<(dZ top (eC top (some v.1) [] p).1).length then ((4,0,[]),v) else ((0,0,[]),((eC top (some v.1) [] p).1,some (eC top (some v.1) [] p).2.reverse))
noncomputable def iM(d e:Int)(v:To×eL)(s:By):fE×(To×eL):=match eH s d e with
 | (c,none)=>((c,0,[]),v)
 | (_,some p)=>iK v p
def iR(v:To×eL):fE:=match v.2 with
 | none=>(3,0,[])
 | some j=>(0,0,Br j)
noncomputable def jY(n:Int)(v p:To):fE:=(0,0,Br (A9 n top [] v p))
noncomputable def iU(d e n:Int)(v:To×eL)(s:By):fE:=match eH s d e with
 | (c,none)=>(c,0,[])
 | (_,some p)=>jY n v.1 p
noncomputable def iZ(v p:To):fE:=match fW top v p with
 | none=>(15,0,[])
 | some x=>(0,0,dZ top x)
noncomputable def jI(d e:Int)(v:To×eL)(s:By):fE:=match eH s d e with
 | (c,none)=>(c,0,[])
 | (_,some p)=>iZ v.1 p
noncomputable def iV(d e n:Int)(v:To×eL)(o:St):fE×(To×eL):=
 if o.1=5 then iB d e v o.2.1 else if o.1=6 then iM d e v o.2.1 else if o.1=7 then (iR v,v)
 else if o.1=8 then (iU d e n v o.2.1,v) else (jI d e v o.2.1,v)
def gN(n a b:Int):Bool:=decide (a<=n) && decide (n<=b)
def fH(d e n:Int):Bool:=gN d 1 20 && (gN e 0 400 && gN n 0 2000)
def gX(r:Nat×Option To)(doc:gP):fE×gP:=
 match r.2 with
 | some v=>((r.1,0,[]),some (v,none))
 | none=>((r.1,0,[]),doc)
def iS(v:To)(s:By):fE:=match fL s with
 | none=>(9,0,[])
 | some l=>match Ah v l with
  | .ok e=>(0,0,dZ top e)
  | .error c=>(c,0,[])
noncomputable def iH(d e:Int)(v:To)(s t:By):Nat:=match fL s with
 | none=>9
 | some l=>match eH t d e with
  | (c,none)=>c
  | (_,some x)=>match Ah v l with
   | .error c=>c
   | .ok y=>if veq y x=true then 0 else 14
noncomputable def jJ(d e:Int)(v:To)(o:St):fE:=
 if o.1=2 then (0,0,dZ top v) else if o.1=3 then iS v o.2.1 else if o.1=4 then (iH d e v o.2.1 o.2.2,0,[]) else (1,0,[])
noncomputable def eM(d e n:Int)(doc:gP)(o:St):fE×gP:=
 if fH d e n then
  (if o.1<1\/9<o.1 then ((1,0,[]),doc)
   else if o.1=1 then gX (eH o.2.1 d e) doc
   else match doc with
    | none=>((3,0,[]),doc)
    | some v=>if o.1<5 then (jJ d e v.1 o,doc) else ((iV d e n v o).1,some (iV d e n v o).2))
 else ((2,0,[]),doc)
noncomputable def fU(d e n:Int):gP->List St->List fE
 | _,[]=>[]
 | doc,o::r=>(eM d e n doc o).1::fU d e n (eM d e n doc o).2 r
noncomputable def gI(d e n:Int):gP->List St->gP
 | doc,[]=>doc
 | doc,o::r=>gI d e n (eM d e n doc o).2 r
theorem kX(d e n:Int):∀ (l:List St) (doc:gP),(fU d e n doc l).length=l.length:=by
 intro l;induction l with
 | nil=>intro doc;rfl
 | cons o r ih=>intro doc;simp[fU,ih]
theorem kY(d e n:Int):∀ (l:List St) (doc:gP) (o:St),fU d e n doc (l++[o])=fU d e n doc l++[(eM d e n (gI d e n doc l) o).1]:=by
 intro l;induction l with
 | nil=>intro doc o;rfl
 | cons x r ih=>intro doc o;simp[fU,gI,ih]
theorem kZ(d e n:Int):∀ (l:List St) (doc:gP) (o:St),gI d e n doc (l++[o])=(eM d e n (gI d e n doc l) o).2:=by
 intro l;induction l with
 | nil=>intro doc o;rfl
 | cons x r ih=>intro doc o;simp[gI,ih]
def Ax(a:fE):AS:=.agg #[.int .i64 a.1,.int .i64 a.2.1,.string ⟨a.2.2.toArray⟩]
def Ba(c:Nat)(t:By):AS:=.agg #[.int .i64 c,.int .i64 0,.string ⟨t.toArray⟩]
theorem G5(n a b:Int)(w:AI):CH AT 52 #[.int .i64 n,.int .i64 a,.int .i64 b] w fun e w'=>e=.returned (.bool (gN n a b))/\w'=w:=by
 by_cases h1:a<=n
 ·by_cases h2:n<=b
  ·have e1:decide (a<=n)=true:=by grind
   have e2:decide (n<=b)=true:=by grind
   have HE:=Ab (show gN n a b=true by grind [gN]);clear h1 h2
   go_enter func52,ntmps52
   go_wp2_with (fail)
   go_ret;exact⟨by rw[Aa HE];rfl,rfl⟩
  ·have e1:decide (a<=n)=true:=by grind
   have e2:decide (n<=b)=false:=by grind
   have HE:=Ab (show gN n a b=false by grind [gN]);clear h1 h2
   go_enter func52,ntmps52
   go_wp2_with (fail)
   go_ret;exact⟨by rw[Aa HE];rfl,rfl⟩
 ·have e1:decide (a<=n)=false:=by grind
  have HE:=Ab (show gN n a b=false by grind [gN]);clear h1
  go_enter func52,ntmps52
  go_wp2_with (fail)
  go_ret;exact⟨by rw[Aa HE];rfl,rfl⟩
theorem OI(d e n:Int)(w:AI):CH AT 40 #[.agg #[.int .i64 d,.int .i64 e,.int .i64 n]] w fun x w'=>x=.returned (.bool (fH d e n))/\A6 w.heap.size w w':=by
 have hb:A6 w.heap.size w (w.alloc (.cells #[.int .i64 d,.int .i64 e,.int .i64 n] 23)):=(BY _ _).alloc (A4 _) _
 go_enter func40,ntmps40
 go_wp2_with (fail);refine (G5 d 1 20 _).mono ?_
 rintro x w1 ⟨rfl,rfl⟩;cases h1:gN d 1 20 with
 | false=>
  have H1:=Ab h1;clear h1;simp only
  go_wp2_with (fail)
  go_ret;exact⟨by unfold fH;rw[Aa H1];rfl,hb⟩
 | true=>
  have H1:=Ab h1;clear h1;simp only
  go_wp2_with (fail);refine (G5 e 0 400 _).mono ?_
  rintro x w1 ⟨rfl,rfl⟩;cases h2:gN e 0 400 with
  | false=>
   have H2:=Ab h2;clear h2;simp only
   go_wp2_with (fail)
   go_ret;exact⟨by unfold fH;rw[Aa H1,Aa H2];rfl,hb⟩
  | true=>
   have H2:=Ab h2;clear h2;simp only
   go_wp2_with (fail);refine (G5 n 0 2000 _).mono ?_
   rintro x w1 ⟨rfl,rfl⟩
   go_wp2_with (fail)
   go_ret;exact⟨by unfold fH;rw[Aa H1,Aa H2];simp,hb⟩
theorem Bp(c:Nat)(w:AI):CH AT 41 #[.int .i64 c] w fun x w'=>x=.returned (Ba c [])/\A6 w.heap.size w w':=by
 unfold Ba
 go_enter func41,ntmps41
 go_wp2_with (fail);refine bodyPost_ret (v:=.agg #[.int .i64 c,.int .i64 0,.string ⟨([]:By).toArray⟩]) (by simp[results,results41,go_sem]) rfl ⟨rfl,?_⟩
 exact (BY _ w).alloc (A4 _) _
def SB(w:AI)(S:Nat)(d e n:Int)(p:AS):Prop:=w.heap[S]? = some (.cells #[.int .i64 d,.int .i64 e,.int .i64 n,p] 62 (0,0))
section
variable{w:AI}{S:Nat}{d e n:Int}{p:AS}
theorem SB.lt(h:SB w S d e n p):S<w.heap.size:=(A5.1 h).1
theorem SB.c0(h:SB w S d e n p):w.cell? ⟨S,0,none⟩=some (.int .i64 d):=by simp[A1,show w.heap[S]? = _ from h]
theorem SB.c1(h:SB w S d e n p):w.cell? ⟨S,1,none⟩=some (.int .i64 e):=by simp[A1,show w.heap[S]? = _ from h]
theorem SB.c2(h:SB w S d e n p):w.cell? ⟨S,2,none⟩=some (.int .i64 n):=by simp[A1,show w.heap[S]? = _ from h]
theorem SB.c3(h:SB w S d e n p):w.cell? ⟨S,3,none⟩=some p:=by simp[A1,show w.heap[S]? = _ from h]
theorem SB.fz(h:SB w S d e n p)(o:Nat):w.frozen? ⟨S,o,none⟩=false:=by simp[Bs,show w.heap[S]? = _ from h]
theorem SB.low(h:SB w S d e n p)(hb:A6 w.heap.size w w'):SB w' S d e n p:=(hb.block S h.lt).trans h
theorem SB.set3(h:SB w S d e n p)(q:AS):SB (w.setCell ⟨S,3,none⟩ q) S d e n q:=by
 grind [SB,Dp]
end
def DB(w:AI)(D:Nat)(rp jn:AS)(ch:Bool)(iv:AS):Prop:=w.heap[D]? = some (.cells #[rp,jn,.bool ch,iv] 115 (0,0))
section
variable{w:AI}{D:Nat}{rp jn iv:AS}{ch:Bool}
theorem DB.lt(h:DB w D rp jn ch iv):D<w.heap.size:=(A5.1 h).1
theorem DB.c0(h:DB w D rp jn ch iv):w.cell? ⟨D,0,none⟩=some rp:=by simp[A1,show w.heap[D]? = _ from h]
theorem DB.c1(h:DB w D rp jn ch iv):w.cell? ⟨D,1,none⟩=some jn:=by simp[A1,show w.heap[D]? = _ from h]
theorem DB.c2(h:DB w D rp jn ch iv):w.cell? ⟨D,2,none⟩=some (.bool ch):=by simp[A1,show w.heap[D]? = _ from h]
theorem DB.c3(h:DB w D rp jn ch iv):w.cell? ⟨D,3,none⟩=some iv:=by simp[A1,show w.heap[D]? = _ from h]
theorem DB.kept(h:DB w D rp jn ch iv)(hk:w'.heap[D]? = w.heap[D]?):DB w' D rp jn ch iv:=hk.trans h
end
def SI(w:AI)(g:Nat)(wp:AS):Prop:=w.heap[g]? = some (.cells #[wp] 80 (0,0))
theorem SI.c0{w:AI}{g:Nat}(h:SI w g wp):w.cell? ⟨g,0,none⟩=some wp:=by simp[A1,show w.heap[g]? = _ from h]
theorem AC{w:AI}{e n:Nat}{xs:List AS}(h:w.ownsRow B e q v n xs)(hk:∀g,v.ownBlock=some g->w'.heap[g]? = w.heap[g]?):w'.ownsRow B e q v n xs:=by
 refine⟨h.1,h.2.imp id ?_⟩;rintro⟨g,cap,cur,h1,h2,h3,h4⟩;exact⟨g,cap,cur,h1,h2,(hk g (by rw[h1];rfl)).trans h3,h4⟩
theorem AA{w:AI}{e n:Nat}{xs:List AS}(h:w.ownsRow B e q v n xs)(g:Nat)(hg:v.ownBlock=some g):g<w.heap.size/\B<=g:=by
 rcases h.2 with⟨h1,_⟩|⟨g',cap,cur,h1,h2,h3,_⟩
 ·rw[h1] at hg;cases hg
 ·rw[h1] at hg;injection hg with hg;grind
def Aw(w:AI)(G:Nat->Prop)(v:AS)(l:List By):Prop:=
 (l=[] /\ ∃a c,v=.slice a 0 c/\c<=maxLen) \/ ∃g o cap,v=.slice (some ⟨g,o,none⟩) l.length cap/\l.length<=cap/\cap<=maxLen/\G g/\C7 w g o l
theorem Aw.toks{w:AI}(h:Aw w G v l):CW w v l:=by
 rcases h with h|⟨g,o,cap,h1,h2,h3,_,h4⟩
 ·exact D3 h
 ·exact CD (by grind)
theorem C7.move{w:AI}{g o:Nat}(h:C7 w g o l)(hk:w'.heap[g]? = w.heap[g]?):C7 w' g o l:=by
 refine⟨?_,fun k q0=>(World.cell?_of_block (a:=⟨g,o+k,none⟩) hk).trans (h.2 k q0)⟩;have h1:w.heap[g]? = some (w.heap[g]'h.1):=by grind
 grind
theorem Aw.move{w:AI}(h:Aw w G v l)(hk:∀k,G k->k<w.heap.size->w'.heap[k]? = w.heap[k]? /\ G' k):Aw w' G' v l:=by
 rcases h with h|⟨g,o,cap,h1,h2,h3,hg,h4⟩
 ·exact D3 h
 ·have:=hk g hg h4.1;exact CD ⟨g,o,cap,h1,h2,h3,this.2,h4.move this.1⟩
def Fp(w:AI)(G:Nat->Prop)(kv pv fv vv:AS)(o:dX):Prop:=
 kv=.int .i64 o.1/\o.1<3/\Aw w G pv o.2.1/\fv=.slice none 0 0/\((o.1=1/\vv=.pointer none)\/(o.1≠1/\Rep top G w vv o.2.2))
theorem Fp.move{w:AI}{kv pv fv vv:AS}{o:dX}(h:Fp w G kv pv fv vv o)(hk:∀k,G k->k<w.heap.size->w'.heap[k]? = w.heap[k]? /\ G' k):Fp w' G' kv pv fv vv o:=
 ⟨h.1,h.2.1,h.2.2.1.move hk,h.2.2.2.1,h.2.2.2.2.imp id fun ⟨a,b⟩=>⟨a,b.move hk⟩⟩
def Dc(w:AI)(G:Nat->Prop):List AS->List dX->Prop
 | [],[]=>True
 | kv::pv::fv::vv::r,o::s=>Fp w G kv pv fv vv o/\Dc w G r s
 | _,_=>False
theorem Dc.move{w w':AI}{G G':Nat->Prop}(hk:∀k,G k->k<w.heap.size->w'.heap[k]? = w.heap[k]? /\ G' k):∀ {xs:List AS} {j:List dX},Dc w G xs j->Dc w' G' xs j
 | [],[],_=>trivial
 | _::_::_::_::_,_::_,⟨a,b⟩=>⟨a.move hk,Dc.move hk b⟩
def Kc(w:AI)(G:Nat->Prop)(iv:AS)(j:List dX):Prop:=∃xs,w.ownsRow 0 178 4 iv j.length xs/\(∀g,iv.ownBlock=some g->G g)/\Dc w G xs j
theorem Kc.move{w:AI}{iv:AS}{j:List dX}(h:Kc w G iv j)(hk:∀k,G k->k<w.heap.size->w'.heap[k]? = w.heap[k]? /\ G' k):Kc w' G' iv j:=by
 obtain⟨xs,h1,h2,h3⟩:=h;exact⟨xs,AC h1 fun g hg=>(hk g (h2 g hg) (AA h1 g hg).1).1,fun g hg=>(hk g (h2 g hg) (AA h1 g hg).1).2,h3.move hk⟩
def jK(o:dX):Prop:=(o.2.1.map fun t=>t.length+1).sum<=1000000/\(o.1≠1 -> ∃d x,dY d x top 1 o.2.2/\d<=500)
def GF(w:AI)(G:Nat->Prop)(iv:AS):eL->Prop
 | none=>iv=.slice none 0 0
 | some j=>Kc w G iv j/\(Br j).length<=8796093022208 /\ ∀o∈j,jK o
theorem GF.move{w:AI}{iv:AS}{j:eL}(h:GF w G iv j)(hk:∀k,G k->k<w.heap.size->w'.heap[k]? = w.heap[k]? /\ G' k):GF w' G' iv j:=by
 cases j with
 | none=>exact h
 | some j=>exact⟨h.1.move hk,h.2⟩
structure CX(w:AI)(D R:Nat)(wp jn iv:AS)(ch:Bool)(T a:dS)(x:To):Prop where
 db:DB w D (.pointer (some ⟨R,0,none⟩)) jn ch iv
 tr:Ad (top+1) w (.pointer (some ⟨R,0,none⟩)) T
 one:∃g,T=dW R g (.slice [a] [])
 sub:Ad top w wp a
 str:dV top a=x
 nd:(fp (top+1) T).Nodup
 nD:D ∉ fp (top+1) T
theorem CX.move{w:AI}{D:Nat}{jn iv:AS}{ch:Bool}(h:CX w D R wp jn iv ch T a x)(hD:w'.heap[D]? = w.heap[D]?)(hk:∀k∈fp (top+1) T,w'.heap[k]? = w.heap[k]?):CX w' D R wp jn iv ch T a x:=by
 obtain⟨g,e⟩:=h.one;refine⟨h.db.kept hD,h.tr.move hk,h.one,h.sub.move fun k q0=>hk k ?_,h.str,h.nd,h.nD⟩;rw[e,AP]
 grind
theorem CX.row{w:AI}{D:Nat}{jn iv:AS}{ch:Bool}(h:CX w D R wp jn iv ch T a x):∃sl,VB w R 5 n0 [] sl (.map none)/\w.ownsRow 0 80 1 sl 1 [wp]:=by
 obtain⟨g,e⟩:=h.one;have ht:=h.tr;rw[e] at ht;obtain⟨b2,g2,x2,e2,hv,ht⟩:=ht;unfold dW at e2;injection e2 with e2;injection e2 with e3 e2;injection e2 with e4 e2;injection e2 with e5 _;injection e3 with e3;injection e3 with _ e3;rcases ht with⟨j,_,_,rfl,_⟩|⟨n,_,rfl,_⟩|⟨s,_,rfl,_⟩|⟨al,sl,ps,rfl,hvb,ho,hs,ha⟩|⟨es,n,D,rfl,_⟩
 ·cases e5
 ·cases e5
 ·cases e5
 ·injection e5 with e5 _;subst e5;obtain rfl:R=b2:=by omega
  cases ps with
  | nil=>exact ha.elim
  | cons u r=>
   obtain⟨hu,ha⟩:=ha;cases r with
   | nil=>
    obtain rfl:=hu.uniq h.sub
    grind
   | cons _ _=>exact ha.elim
 ·cases e5
structure Eg(w:AI)(F:Nat->Prop)(D R:Nat)(wp:AS)(d e:Int)(v:To×eL):Prop where
 ex:∃T a iv,CX w D R wp (.slice none 0 0) iv v.2.isSome T a v.1/\(∀k∈fp (top+1) T,F k)/\GF w (fun k=>F k/\k≠D/\k ∉ fp (top+1) T) iv v.2
 fD:F D
 len:(dZ top v.1).length<=80000
 gd:dY d e top 1 v.1
theorem Eg.move{w:AI}{D:Nat}{d e:Int}{v:To×eL}(h:Eg w F D R wp d e v)(hF:∀k,F k->k<w.heap.size->w'.heap[k]? = w.heap[k]? /\ F' k):Eg w' F' D R wp d e v:=by
 obtain⟨T,a,iv,h1,h2,h3⟩:=h.ex;have hlt:=h1.tr.lt;refine⟨⟨T,a,iv,h1.move (hF D h.fD h1.db.lt).1 (by grind),by grind,h3.move fun k hk q0=>?_⟩,(hF D h.fD h1.db.lt).2,h.len,h.gd⟩
 grind
theorem Eg.rep{w:AI}{D:Nat}{d e:Int}{v:To×eL}(h:Eg w F D R wp d e v):Rep top F w wp v.1:=by
 obtain⟨T,a,iv,h1,h2,h3⟩:=h.ex;obtain⟨g,eT⟩:=h1.one;rw[<- h1.str];refine h1.sub.rep fun k hk=>h2 k ?_;rw[eT,AP]
 grind
def Bl(w:AI)(F:Nat->Prop)(p:AS)(d e:Int):gP->Prop
 | none=>p=.pointer none
 | some v=>∃D R wp,p=.pointer (some ⟨D,0,none⟩)/\Eg w F D R wp d e v
theorem Bl.move{w:AI}{p:AS}{d e:Int}{doc:gP}(h:Bl w F p d e doc)(hF:∀k,F k->k<w.heap.size->w'.heap[k]? = w.heap[k]? /\ F' k):Bl w' F' p d e doc:=by
 cases doc with
 | none=>exact h
 | some v=>
  obtain⟨D,R,wp,hp,h⟩:=h;exact⟨D,R,wp,hp,h.move hF⟩
theorem Ai.drew{w:AI}(h:Ai w):Ai w.drew:=⟨h.ng,h.esc,h.words,h.utf8,h.pow,h.pesc,h.rng,h.mx,h.otab⟩
def bB(wp:AS)(w:AI)(x:Ending)(w':AI):Prop:=∃D R g,x=.returned (.pointer (some ⟨D,0,none⟩))/\A6 w.heap.size w w'/\w.heap.size<=D/\w.heap.size<=R/\w.heap.size<=g/\D≠R/\D≠g/\R≠g /\
 DB w' D (.pointer (some ⟨R,0,none⟩)) (.slice none 0 0) false (.slice none 0 0)/\VB w' R 5 n0 [] (.slice (some ⟨g,0,none⟩) 1 1) (.map none)/\SI w' g wp
theorem Zs(p:Option Addr)(w:AI):CH AT 54 #[.pointer p] w fun x w'=>bB (.pointer p) w x w':=by
 go_enter func54,ntmps54
 go_wp2_with (fail)
 go_ret;refine⟨w.heap.size+1+1,w.heap.size+1,w.heap.size,rfl,?_,by omega,by omega,by omega,by omega,by omega,by omega,?_,?_,?_⟩
 ·exact (((BY _ w).alloc (A4 _) _).alloc (by simp) _).alloc (by simp;omega) _
 ·show (((w.heap.push _).push _).push _)[w.heap.size+1+1]? = _
  grind
 ·show (((w.heap.push _).push _).push _)[w.heap.size+1]? = _
  grind
 ·show (((w.heap.push _).push _).push _)[w.heap.size]? = _
  grind
theorem Dw{w:AI}{D:Nat}{jn iv:AS}{ch:Bool}(h:CX w D R wp jn iv ch T a x):CH AT 56 #[.pointer (some ⟨D,0,none⟩)] w fun x w'=>x=.returned wp/\A6 w.heap.size w w':=by
 obtain⟨sl,hvb,ho⟩:=h.row;have c0:=h.db.c0;have c5:=hvb.c5;obtain⟨g,cap,rfl,a1,a2,a3,hc⟩:=Bm ho (C1);have cg:w.cell? ⟨g,0,none⟩=some wp:=hc 0 C1;clear h ho hc
 go_enter func56,ntmps56
 go_wp2_with (fail)
 go_ret;exact⟨rfl,BY _ _⟩
theorem I1{w:AI}{D:Nat}{d e:Int}{v:To×eL}(h:Eg w F D R wp d e v):CH AT 56 #[.pointer (some ⟨D,0,none⟩)] w fun x w'=>x=.returned wp/\A6 w.heap.size w w':=by
 obtain⟨T,a,iv,h1,_⟩:=h.ex;exact Dw h1
theorem Rg(s:By)(d e:Int)(w:AI)(hT:Ai w):
  CH AT 77 #[.string ⟨s.toArray⟩,.int .i64 d,.int .i64 e] w fun x w'=>∃ (p:Option Addr) (c:Nat),x=.returned (.tuple #[.pointer p,.int .i64 c])/\A6 w.heap.size w w' /\
   ((0<c/\eH s d e=(c,none))\/(c=0 /\ ∃v,eH s d e=(0,some v)/\Tr top w.heap.size w' (.pointer p) v)):=by
 refine (XA ⟨s.toArray⟩ d e w hT).mono ?_;rintro x w' ⟨hb,hc⟩;rcases hc with⟨c,h1,h2,rfl⟩|⟨v,p,h1,rfl,h2⟩
 ·grind
 grind
theorem NV{S:Nat}{d e n:Int}{p:AS}{w:AI}(s:By)(h:SB w S d e n p)(hT:Ai w):
  CH AT 53 #[.pointer (some ⟨S,0,none⟩),.string ⟨s.toArray⟩] w fun x w'=>∃ (p:Option Addr) (c:Nat),x=.returned (.tuple #[.pointer p,.int .i64 c])/\A6 w.heap.size w w' /\
   ((0<c/\eH s d e=(c,none))\/(c=0 /\ ∃v,eH s d e=(0,some v)/\Tr top w.heap.size w' (.pointer p) v)):=by
 have c0:=h.c0;have c1:=h.c1;have HR:=Ab (fun (w0:AI) (hT:Ai w0)=>Rg s d e w0 hT);have HT:=Ab hT;clear hT h
 go_enter func53,ntmps53
 go_wp2_with (fail)
 go_region_with (go_at_call 77;refine (Aa HR _ ?_).mono ?_;exact (Aa HT).drew;rintro x w2 ⟨p2,c,rfl,hb2,hc⟩)
 all_goals (
  replace hb2:A6 w.heap.size w w2:=⟨hb2.os,hb2.tape,hb2.output,hb2.size,hb2.block⟩
  replace hc:(0<c/\eH s d e=(c,none))\/(c=0 /\ ∃v,eH s d e=(0,some v)/\Tr top w.heap.size w2 (.pointer p2) v):=hc
  have HB:=Ab hb2;have HC:=Ab hc;clear hb2 hc
  go_wp2_with (fail)
  go_ret2
  exact⟨p2,c,rfl,Aa HB,Aa HC⟩)
theorem Tg{S:Nat}{d e n:Int}{p:AS}{w:AI}(s:By)(h:SB w S d e n p)(hT:Ai w):
  CH AT 53 #[.pointer (some ⟨S,0,none⟩),.string ⟨s.toArray⟩] w fun x w'=>∃ (p:Option Addr) (c:Nat),x=.returned (.tuple #[.pointer p,.int .i64 c])/\A6 w.heap.size w w' /\
   ((0<c/\eH s d e=(c,none))\/(c=0 /\ ∃v,eH s d e=(0,some v)/\Rep top (fun k=>w.heap.size<=k) w' (.pointer p) v)):=by
 refine (NV s h hT).mono ?_;rintro x w' ⟨p,c,h1,h2,h3⟩;exact⟨p,c,h1,h2,h3.imp id fun ⟨a,v,b,c⟩=>⟨a,v,b,c.rep⟩⟩
def AB(w:AI)(g:Nat):Prop:=w.heap[g]? = some (.cells #[.int .i64 0,.int .i64 0,.string ⟨#[]⟩] 46 (0,0))
section
variable{w:AI}{g:Nat}
theorem AB.lt(h:AB w g):g<w.heap.size:=(A5.1 h).1
theorem AB.c0(h:AB w g):w.cell? ⟨g,0,none⟩=some (.int .i64 0):=by simp[A1,show w.heap[g]? = _ from h]
theorem AB.c1(h:AB w g):w.cell? ⟨g,1,none⟩=some (.int .i64 0):=by simp[A1,show w.heap[g]? = _ from h]
theorem AB.c2(h:AB w g):w.cell? ⟨g,2,none⟩=some (.string ⟨#[]⟩):=by simp[A1,show w.heap[g]? = _ from h]
theorem AB.fz(h:AB w g)(o:Nat):w.frozen? ⟨g,o,none⟩=false:=by simp[Bs,show w.heap[g]? = _ from h]
theorem AB.low(h:AB w g)(hb:A6 w.heap.size w w'):AB w' g:=(hb.block g h.lt).trans h
theorem AB.new(w:AI):AB (w.alloc (.cells #[.int .i64 0,.int .i64 0,.string ⟨#[]⟩] 46)) w.heap.size:=by
 show (w.heap.push _)[w.heap.size]? = _;simp
end
theorem Au{w:AI}(h:A6 B w w')(b o:Nat)(hb:B<=b)(u:AS):A6 B w (w'.setCell ⟨b,o,none⟩ u):=h.setCell (by exact hb) u
theorem Ze{w0 w3:AI}{lo D g:Nat}{p2:Option Addr}{v:To}{d e:Int}{s:By}(qd:0<lo)(qb:lo<=w0.heap.size)(q0:Tr top lo w0 (.pointer p2) v)(hb:A6 w0.heap.size w0 w3)(hD:w0.heap.size<=D)(hR:w0.heap.size<=R)(hg:w0.heap.size<=g)(q7:D≠R)(q8:D≠g)(q9:R≠g)(hF:∀k,lo<=k->k<w0.heap.size->F k)(fD:F D)(fR:F R)(fg:F g)(q5:DB w3 D (.pointer (some ⟨R,0,none⟩)) (.slice none 0 0) false (.slice none 0 0))(q6:VB w3 R 5 n0 [] (.slice (some ⟨g,0,none⟩) 1 1) (.map none))(hgb:SI w3 g (.pointer p2))(q4:eH s d e=(0,some v)):
  Eg w3 F D R (.pointer p2) d e (v,none):=by
 obtain⟨a,h1,h2,h3,h4⟩:=q0;have h5:=h1.lt;have h6:Ad top w3 (.pointer p2) a:=h1.move fun k hk=>hb.block k (h5 k hk);have ef:fp (top+1) (dW R g (.slice [a] []))=R::([g]++fp top a):=by
  rw[AP,if_neg (by omega)];simp
 refine⟨⟨dW R g (.slice [a] []),a,.slice none 0 0,⟨q5,?_,⟨g,rfl⟩,h6,h2,?_,?_⟩,?_,rfl⟩,fD,GI q4 top,Ej q4⟩
 ·refine⟨R,g,_,rfl,rfl,CD (CD (CD (D3 ⟨[a],_,[.pointer p2],rfl,q6,⟨rfl,CD ⟨g,1,#[.pointer p2],rfl,Nat.zero_le _,hgb,A4 _,by unfold maxLen;omega,rfl,rfl⟩⟩,?_,⟨h6,trivial⟩⟩)))⟩;rw[if_neg (by omega)];rfl
 ·grind
 ·grind
 grind
structure Av(F:Nat->Prop)(w w':AI):Prop where
 os:w'.os=w.os
 tape:w'.tape=w.tape
 output:w'.output=w.output
 size:w.heap.size<=w'.heap.size
 block:∀k,k<w.heap.size -> ¬ F k->w'.heap[k]? = w.heap[k]?
theorem Av.of_below{w:AI}(h:A6 w.heap.size w w'):Av F w w':=⟨h.os,h.tape,h.output,h.size,fun k hk _=>h.block k hk⟩
theorem Av.trans{a b c:AI}(h:Av F a b)(k:Av F' b c)(hF:∀k,k<a.heap.size->F' k->F k):Av F a c:=
 ⟨k.os.trans h.os,k.tape.trans h.tape,k.output.trans h.output,Nat.le_trans h.size k.size,fun i hi hx=>(k.block i (Nat.lt_of_lt_of_le hi h.size) fun h'=>hx (hF i hi h')).trans (h.block i hi hx)⟩
theorem Av.setCell{a w:AI}(h:Av F a w){p:Addr}(hp:F p.block\/a.heap.size<=p.block)(u:AS):Av F a (w.setCell p u):=
 ⟨h.os,h.tape,h.output,by simpa[Dp] using h.size,fun k hk hx=>by
  have hne:k≠p.block:=by
   grind
  exact (A3 _ _ _ _ hne).trans (h.block k hk hx)⟩
theorem Av.below{w:AI}(h:Av F w w')(hF:∀k,k<B -> ¬ F k)(hs:B<=w.heap.size):A6 B w w':=
 ⟨h.os,h.tape,h.output,h.size,fun k hk=>h.block k (by omega) (hF k hk)⟩
theorem Av.mono{w:AI}(h:Av F w w')(hF:∀k,F k->F' k):Av F' w w':=⟨h.os,h.tape,h.output,h.size,fun k hk hx=>h.block k hk fun h'=>hx (hF k h')⟩
theorem Wr{S lo:Nat}{d e n:Int}{p:AS}{w:AI}{v:To}{p2:Option Addr}{s:By}(h:SB w S d e n p)(hS:S<lo)(qo:lo<=w.heap.size)(q4:Tr top lo w (.pointer p2) v)(qg:eH s d e=(0,some v)):
  CH AT 43 #[.pointer (some ⟨S,0,none⟩),.pointer p2] w fun x w'=>x=.returned (Ax (0,0,[]))/\Av (fun k=>k=S) w w' /\ ∃p',SB w' S d e n p'/\Bl w' (fun k=>lo<=k) p' d e (some (v,none)):=by
 have hlt:=h.lt;have q6:A6 w.heap.size w (w.alloc (.cells #[.int .i64 0,.int .i64 0,.string ⟨#[]⟩] 46)):=(BY _ _).alloc (A4 _) _;have h0:=h.low q6;have HS:=Ab h0;have q0:=Ab q4;have qh:=Ab (AB.new w);have qi:=Ab q6;have hsz:(w.alloc (.cells #[.int .i64 0,.int .i64 0,.string ⟨#[]⟩] 46)).heap.size=w.heap.size+1:=by simp
 have qd:=Ab qg;clear h h0 q4 q6 qg
 go_enter func43,ntmps43
 go_wp2_with (fail);generalize w.alloc (.cells #[.int .i64 0,.int .i64 0,.string ⟨#[]⟩] 46)=wa at *
 refine (Zs p2 _).mono ?_;rintro x w3 ⟨D,R,g,rfl,hb3,hD,hR,hg,qj,qk,qm,qe,qf,hgb⟩;have s3:=(Aa HS).low hb3;have a3:=(Aa qh).low hb3;have g0:=a3.c0;have g1:=a3.c1;have g2:=a3.c2;have z:=a3.fz;have qn:S≠w.heap.size:=by omega
 have S3:=Ab s3;have q7:=Ab ((Aa qi).trans (hb3.mono (by omega)));have q8:=Ab qe;have qb:=Ab qf;have q9:=Ab hgb;have qp:=hb3.size;have zs:=s3.fz;have q3:=s3.c3;clear a3 s3 hb3 qe qf hgb;have q5:=Ab (show Eg w3 (fun k=>lo<=k/\k≠w.heap.size) D R (.pointer p2) d e (v,none) from Ze (by omega) qo (Aa q0) (Aa q7) (by omega) (by omega) (by omega) qj qk qm (by omega) ⟨by omega,by omega⟩ ⟨by omega,by omega⟩ ⟨by omega,by omega⟩ (Aa q8) (Aa qb) (Aa q9) (Aa qd));clear q0 q8 qb q9 qd hsz
 go_wp2_with (fail);refine bodyPost_ret (v:=Ax (0,0,[])) (by simp[results,results43,go_sem,Ax,g0,g1,g2]) rfl ?_
 have ho:∀k,k≠w.heap.size->((((w3.setCell ⟨S,3,none⟩ (.pointer (some ⟨D,0,none⟩))).setCell ⟨w.heap.size,0,none⟩ (.int .i64 0)).setCell ⟨w.heap.size,1,none⟩ (.int .i64 0)).setCell ⟨w.heap.size,2,none⟩ (.string ⟨#[]⟩)).heap[k]? = (w3.setCell ⟨S,3,none⟩ (.pointer (some ⟨D,0,none⟩))).heap[k]?:=fun k hk=>
  (A3 _ _ _ _ hk).trans ((A3 _ _ _ _ hk).trans (A3 _ _ _ _ hk))
 refine⟨rfl,((((Av.of_below (F:=fun k=>k=S) (Aa q7)).setCell (p:=⟨S,3,none⟩) (D3 rfl) _).setCell (p:=⟨w.heap.size,0,none⟩) (CD (A4 _)) _).setCell (p:=⟨w.heap.size,1,none⟩) (CD (A4 _)) _).setCell (p:=⟨w.heap.size,2,none⟩) (CD (A4 _)) _,_,(ho S qn).trans ((Aa S3).set3 _),D,R,.pointer p2,rfl,(Aa q5).move fun k h1 h2=>⟨(ho k h1.2).trans (A3 _ _ _ _ (by grind)),h1.1⟩⟩
theorem FM:(Tryz.prog.info? 80).map (fun i=>(i.zero,i.size,i.bytes))=some (some (.pointer none),1,8):=by kernel_rfl
theorem Et{P:Program}{e:DD}{z:AS}{s b:Nat}(h:(P.info? e).map (fun i=>(i.zero,i.size,i.bytes))=some (some z,s,b)):∃i,P.info? e=some i/\i.zero=some z/\i.size=s/\i.bytes=b:=by
 simp_all
theorem SA{P:Program}{ops:Array Oper}{Q:Exit->Act->AI->Prop}{rest:List Oper}{a:Act}{w:AI}{d:Option Nat}{x:Array Operand}{ts:Array DD}{ty:DD}{ps:String}{af:Array Edge}{g:Option (Nat×Bool)}(h:wpList P ops Q ({ dst:=d,op:=.call { callee:=.builtin .copy,args:=x,argTypes:=ts },type:=ty,pos:=ps,after:=af,guard:=g }::rest) a w):
  wpList P ops Q ({ dst:=d,op:=.call { callee:=.builtin .copy,args:=x,argTypes:=ts },type:=ty,pos:=ps,after:=af,guard:=g }::rest) a w:=h
theorem OM{α:Type}[Inhabited α](enc:α->AS)(w:AI)(g q:Nat)(d:Array α):w.grownBy (D1 enc (E0 w q) g 0 d) (some g):=
 ⟨rfl,rfl,rfl,by simp_all,fun k _ hne=>by
  grind [D1,Sort.mapBlock,E0]⟩
theorem bH{w:AI}{sl:AS}{l:List (Option Addr)}{i:Nat}(ho:w.ownsRow 0 80 1 sl l.length (l.map CL))(hi:i<l.length):
  ∃g cap,sl=.slice (some ⟨g,0,none⟩) l.length cap/\CH AT 290 #[sl,.int .i64 i,.int .i64 ((i+1:Nat):Int)] w fun e w'=>
   e=.returned (.slice (some ⟨g,0,none⟩) (l.length-1) cap)/\w'.ownsRow 0 80 1 (.slice (some ⟨g,0,none⟩) (l.length-1) cap) (l.length-1) ((fC i l).map CL)/\w.grownBy w' (some g):=by
 obtain⟨g,cap,rfl,_,hg,hn,hm,_,hH⟩:=Lib.holds_of_ownsRow ho (by
  rintro rfl;rcases ho.2 with⟨_,h⟩|⟨g,cap,cur,h,_⟩
  ·omega
  ·cases h)
 refine⟨g,cap,rfl,?_⟩;obtain⟨i0,q0,_,q5,_⟩:=Et FM;have hc:=AnyE.slices_Delete Tryz.eDelete (α:=Option Addr) CL (fun _=>rfl) none Tryz.zeroValue80 i0 q0 q5 g 0 cap i (i+1) l.toArray w hH (by omega) (by simp[maxLen] at hm;omega) (by omega) (by simp;omega);refine hc.mono ?_;rintro e w' ⟨rfl,q,rfl⟩;have q4:(fC i l).length=l.length-1:=by have:=JU hi;omega
 have e2:l.toArray.toList.take i++l.toArray.toList.drop (i+1)++List.replicate (i+1-i) (none:Option Addr)=fC i l++[none]:=by
  simp[fC,show i+1-i=1 by omega]
 rw[e2];refine⟨by grind,?_,OM _ _ _ _ _⟩;have h2:=Lib.ownsRow_putRow (q:=q) (k:=l.length-1) ho (ys:=fC i l++[none]) (by grind) (by omega)
 grind
theorem LC{w:AI}{g off n c:Nat}{x:AS}{cur:Array AS}{t t':DD}(hg:w.heap[g]? = some (.cells cur t (0,0)))(hq:w.heap[q]? = some (.cells #[x] t' (0,0)))(hne:q≠g):
  CR AT (A2 #[106,106] #[4] #[.slice (some ⟨q,0,none⟩) 1 1,.slice (some ⟨g,off,none⟩) n c]) w=.ok (.bool false) w:=by
 have f1:∀o,w.frozen? ⟨q,o,none⟩=false:=fun o=>by simp[Bs,hq]
 have f2:∀o,w.frozen? ⟨g,o,none⟩=false:=fun o=>by simp[Bs,hg]
 have q4:(q != g)=true:=by grind
 have q5:(q==g)=false:=by grind
 have r1:∀a,CR AT (Sem.frozen a D2) w=.ok (w.frozen? a) w:=fun a=>by rfl
 have r2:CR AT (Sem.shape q D2) w=.ok (some (t',1)) w:=by simp[CR,D0,hq]
 have r3:CR AT (Sem.shape g D2) w=.ok (some (t,cur.size)) w:=by simp[CR,D0,hg]
 obtain⟨i0,q0,_,q6,_⟩:=Et FM;have u:=underlying106;rw[show A2 #[106,106] #[4] #[.slice (some ⟨q,0,none⟩) 1 1,.slice (some ⟨g,off,none⟩) n c]=(underlying 106 >>= _) from rfl];simp[run_underlying u,r1,r2,r3,sizeOf,typeInfo,q0,q6,frozen,f1,f2,q4,q5,noView,viewAt,mayBeOne,stringish,shape,Result.andThen]
theorem Oi{w:AI}{g off n c:Nat}{x:AS}{cur:Array AS}{t t':DD}(hg:w.heap[g]? = some (.cells cur t (0,0)))(hq:w.heap[q]? = some (.cells #[x] t' (0,0)))(hne:q≠g):
  (callFunc 310 #[.slice (some ⟨q,0,none⟩) 1 1,.slice (some ⟨g,off,none⟩) n c]).run AT w=.ok (.value (.bool false)) w:=by
 rw[run_callFunc_extern (e:=A2 #[106,106] #[4]) func310 (by kernel_rfl) rfl (by kernel_rfl) (by kernel_rfl),LC hg hq hne];rfl
end Go.Proofs.YtdpomdelmdofmaaGreatDoor
