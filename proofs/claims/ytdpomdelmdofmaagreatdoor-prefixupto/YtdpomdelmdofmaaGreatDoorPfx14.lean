import Derived.Test.YtdpomdelmdofmaaGreatDoorPfx13
open List renaming nodup_append->AI,nodup_cons->AS,mem_append_right->AT,mem_append_left->A1,flatMap_append->A2,flatMap_cons->A4,mem_flatMap->A5
open Or renaming inr->A3
open Go renaming Value->A6,World->CD
open Go.Maps renaming has->Bs
open Go.DataW renaming map->BY
open Go.Proofs.Tryz renaming prog->CH
open Nat renaming le_refl->CL
open Go.RowKit.Below renaming refl->CR
set_option maxHeartbeats 1000000
namespace Go.Proofs.YtdpomdelmdofmaaGreatDoor
open Go.Proofs.Tryz Go.RowKit Go.Maps
abbrev Zk:=Nat×List By×To
abbrev ZG:=Option (List Zk)
abbrev aF:=Option (To×ZG)
abbrev St:=Int×By×By
abbrev ZK:=Nat×Nat×By
abbrev ZT:=Nat×List By×List By×To
def NM:By:=[97,100,100]
def F7:By:=[114,101,109,111,118,101]
def Fh:By:=[114,101,112,108,97,99,101]
def LX:By:=[109,111,118,101]
def cG:By:=[99,111,112,121]
def LW:By:=[116,101,115,116]
def ZP:By:=[111,112]
def Bc:By:=[112,97,116,104]
def Ex:By:=[102,114,111,109]
def Ba:By:=[118,97,108,117,101]
def A0(d:To)(k:By):Option To:=match d with
 | .map es=>if Bs (.map es:To) (.string k)=true then some ((BY es).atKey (.string k) .nil) else none
 | _=>none
def B7:Option To->Option By
 | some (.lit (.string s))=>some s
 | _=>none
def Cf(d:Option To):Option (List By):=match B7 d with
 | some s=>ZW s
 | none=>none
def Gf(nm:By)(hv hf:Bool):Option Nat:=
 if nm=F7 then some 1
 else if nm=NM then (if hv then some 0 else none)
 else if nm=Fh then (if hv then some 2 else none)
 else if nm=LW then (if hv then some 5 else none)
 else if nm=LX then (if hf then some 3 else none)
 else if nm=cG then (if hf then some 4 else none)
 else none
def Dz(d:To):Option ZT:=match Cf (A0 d Bc) with
 | none=>none
 | some p=>match Gf ((B7 (A0 d ZP)).getD []) (A0 d Ba).isSome (Cf (A0 d Ex)).isSome with
  | none=>none
  | some k=>some (k,p,(Cf (A0 d Ex)).getD [],(A0 d Ba).getD .nil)
def CC:Nat->List To->Except Nat (List ZT)
 | _,[]=>.ok []
 | i,d::r=>match Dz d with
  | none=>.error i
  | some o=>match CC (i+1) r with
   | .ok l=>.ok (o::l)
   | .error c=>.error c
def Eu(d:To):Except Nat (List ZT):=match d with
 | .slice es _=>CC 0 es
 | _=>.error 0
def bL(d:To)(s:List By):List Nat:=(Dq d s).getD []
def bS:By:=[]
def Dm(d:To)(s:List By)(t:By)(n x:To):Except Nat (To×List Zk):=match n with
 | .map es=>if Bs (.map es:To) (.string t)=true then .ok (Cd (bL d s) (Hc 0 t x (.map es)) d,[(2,s++[t],(BY es).atKey (.string t) .nil)])
   else .ok (Cd (bL d s) (FV 0 t x (.map es)) d,[(1,s++[t],.nil)])
 | .slice es y=>match ER es.length t with
  | .error c=>.error c
  | .ok i=>.ok (Cd (bL d s) (FV i bS x (.slice es y)) d,[(1,s++[Lib.itoa (i:Int)],.nil)])
 | _=>.error 11
def EG(p:List By):Option (List By×By):=match p.getLast? with
 | none=>none
 | some t=>some (p.dropLast,t)
def CP(d:To)(p:List By)(x:To):Except Nat (To×List Zk):=match EG p with
 | none=>.ok (x,[(2,[],d)])
 | some (s,t)=>match Ak d s with
  | .error c=>.error c
  | .ok n=>Dm d s t n x
def Ds(d:To)(p:List By):Except Nat (To×List Zk):=match EG p with
 | none=>.error 11
 | some (s,t)=>match Ak d s with
  | .error c=>.error c
  | .ok n=>match AF n t with
   | .error c=>.error c
   | .ok e=>.ok (Cd (bL d s) (Kk ((ZO t).getD 0) t n) d,[(0,p,e)])
def Fw(d:To)(p:List By)(x:To):Except Nat (To×List Zk):=match EG p with
 | none=>.ok (x,[(2,[],d)])
 | some (s,t)=>match Ak d s with
  | .error c=>.error c
  | .ok n=>match AF n t with
   | .error c=>.error c
   | .ok e=>.ok (Cd (bL d s) (Hc ((ZO t).getD 0) t x n) d,[(2,p,e)])
def E2(p q:List By):Bool:=decide (q.length<p.length) && (p.take q.length==q)
def J0(d:To)(q p:List By):Except Nat (To×List Zk):=match Ak d q with
 | .error c=>.error c
 | .ok e=>if q=p then .ok (d,[]) else if E2 p q then .error 13 else match Ds d q with
  | .error c=>.error c
  | .ok (d1,j1)=>match CP d1 p e with
   | .error c=>.error c
   | .ok (d2,j2)=>.ok (d2,j1++j2)
def J5(d:To)(q p:List By):Except Nat (To×List Zk):=match Ak d q with
 | .error c=>.error c
 | .ok e=>CP d p e
noncomputable def JY(d:To)(p:List By)(x:To):Except Nat (To×List Zk):=match Ak d p with
 | .error c=>.error c
 | .ok e=>if veq e x=true then .ok (d,[]) else .error 14
noncomputable def aX(d:To)(o:ZT):Except Nat (To×List Zk):=
 if o.1=0 then CP d o.2.1 o.2.2.2 else if o.1=1 then Ds d o.2.1 else if o.1=2 then Fw d o.2.1 o.2.2.2
 else if o.1=3 then J0 d o.2.2.1 o.2.1 else if o.1=4 then J5 d o.2.2.1 o.2.1 else JY d o.2.1 o.2.2.2
noncomputable def GG(dp:Int)(d:To):Nat:=if dp<ZC top d then 7 else if 20000<(Zm top d).length then 4 else 0
noncomputable def DQ(dp:Int):Nat->To->List Zk->List ZT->Except (Nat×Nat) (To×List Zk)
 | _,d,j,[]=>.ok (d,j)
 | i,d,j,o::r=>match aX d o with
  | .error c=>.error (c,i)
  | .ok (d',j')=>if GG dp d'=0 then DQ dp (i+1) d' (j++j') r else .error (GG dp d',i)
def FM(c:UInt8):By:=if c=126 then [126,48] else if c=47 then [126,49] else [c]
def FS(t:By):By:=t.flatMap FM
def AV(p:List By):By:=p.flatMap fun t=>47::FS t
def AQ(k:Nat):By:=if k=0 then NM else if k=1 then F7 else Fh
def B3(o:Zk):To:=if o.1=1 then Ay [(.string ZP,Aq (AQ o.1)),(.string Bc,Aq (AV o.2.1))]
 else Ay [(.string ZP,Aq (AQ o.1)),(.string Bc,Aq (AV o.2.1)),(.string Ba,o.2.2)]
def Ck(l:List Zk):By:=Zm top (Ap (l.map B3))
def ZQ(d:To):Bool:=match d with
 | .map _=>true
 | _=>false
def ZZ(d:To):Bool:=match d with
 | .lit (.int _ k)=>k==0
 | _=>false
def Bp:Nat->To->To
 | 0,_=>.nil
 | f+1,p=>match p with
  | .map ps=>.map ((ps.filter fun q=>!ZZ q.2).map fun q=>(q.1,Bp f q.2))
  | p=>p
def As(es:List (Lit×To))(k:Lit):Option To:=if Bs (.map es:To) k=true then some ((BY es).atKey k .nil) else none
def ES(k:Lit):By:=match k with
 | .string s=>s
 | _=>[]
def GD(m:Option To->List By->To->To×List Zk)(s:List By):List (Lit×To)->List (Lit×To)->To×List Zk
 | [],es=>(.map es,[])
 | (k,q)::r,es=>
  if ZZ q then (match As es k with
   | none=>GD m s r es
   | some o=>((GD m s r (ZF k es)).1,(0,s++[ES k],o)::(GD m s r (ZF k es)).2))
  else ((GD m s r (Zr k (m (As es k) (s++[ES k]) q).1 es)).1,(m (As es k) (s++[ES k]) q).2++(GD m s r (Zr k (m (As es k) (s++[ES k]) q).1 es)).2)
def Zp:Nat->Option To->List By->To->To×List Zk
 | 0,_,_,_=>(.nil,[])
 | f+1,v,s,p=>match v,p with
  | some (.map es),.map ps=>GD (Zp f) s ps es
  | some o,p=>(Bp (f+1) p,[(2,s,o)])
  | none,p=>(Bp (f+1) p,[(1,s,.nil)])
def BS(xs bs:List (Lit×To)):List By:=(bs.foldl (fun (l:List (Lit×To)) q=>Zr q.1 .nil l) xs).map fun p=>ES p.1
noncomputable def Zq:List To->List To->Nat
 | [],_=>0
 | _::_,[]=>0
 | x::a,y::b=>if veq x y=true then 1+Zq a b else max (Zq a (y::b)) (Zq (x::a) b)
termination_by a b=>a.length+b.length
noncomputable def ZL:Nat->List To->List To->Nat->Nat->List Nat×List Nat
 | 0,_,_,_,_=>([],[])
 | _+1,[],[],_,_=>([],[])
 | n+1,_::a,[],k,j=>((k::(ZL n a [] k j).1),(ZL n a [] k j).2)
 | n+1,[],_::b,k,j=>((ZL n [] b k (j+1)).1,j::(ZL n [] b k (j+1)).2)
 | n+1,x::a,y::b,k,j=>if Zq a (y::b)=Zq (x::a) (y::b) then ((k::(ZL n a (y::b) k j).1),(ZL n a (y::b) k j).2)
   else if Zq (x::a) b=Zq (x::a) (y::b) then ((ZL n (x::a) b k (j+1)).1,j::(ZL n (x::a) b k (j+1)).2)
   else ZL n a b (k+1) (j+1)
def Fj(s:List By)(i:Nat):List By:=s++[Lib.itoa (i:Int)]
noncomputable def CX(s:List By)(a b:List To):List Zk:=
 ((ZL (a.length+b.length) a b 0 0).1.map fun (i:Nat)=>((1,Fj s i,.nil):Zk))++(ZL (a.length+b.length) a b 0 0).2.map fun (i:Nat)=>((0,Fj s i,(b[i]?).getD .nil):Zk)
def AY(m:List By->To->To->List Zk)(s:List By)(xs bs:List (Lit×To)):List By->List Zk
 | []=>[]
 | k::r=>(match As xs (.string k),As bs (.string k) with
  | _,none=>[(1,s++[k],.nil)]
  | none,some y=>[(0,s++[k],y)]
  | some x,some y=>m (s++[k]) x y)++AY m s xs bs r
noncomputable def BQ(n:Int):Nat->List By->To->To->List Zk
 | 0,_,_,_=>[]
 | f+1,s,a,b=>match a,b with
  | .map xs,.map bs=>AY (BQ n f) s xs bs (BS xs bs)
  | .slice xs x,.slice bs y=>if ((xs.length:Int)+1)*((bs.length:Int)+1)<=n then CX s xs bs else if veq (.slice xs x) (.slice bs y)=true then [] else [(2,s,.slice bs y)]
  | a,b=>if veq a b=true then [] else [(2,s,b)]
def AG(a:To):List (Lit×To):=match a with
 | .map es=>es
 | _=>[]
noncomputable def DM(m:To->To->Option To)(xs:List (Lit×To)):List (Lit×To)->List (Lit×To)->Option (List (Lit×To))
 | [],out=>some out
 | (k,y)::r,out=>match As xs k with
  | some x=>if veq x y=true then DM m xs r out else if ZZ y then none else (match m x y with
   | none=>none
   | some z=>DM m xs r (Zr k z out))
  | none=>if ZZ y then none else (match m (.map []) y with
   | none=>none
   | some z=>DM m xs r (Zr k z out))
noncomputable def Z3:Nat->To->To->Option To
 | 0,_,_=>none
 | f+1,a,b=>match b with
  | .map bs=>(DM (Z3 f) (AG a) bs (((AG a).filter fun p=>!Bs (.map bs:To) p.1).map fun p=>(p.1,AO 0))).map .map
  | b=>some b
noncomputable def bE(d e:Int)(v:To×ZG)(s:By):ZK×(To×ZG):=match Zy s (d+2) e with
 | (c,none)=>((c,0,[]),v)
 | (_,some p)=>match Eu p with
  | .error i=>((10,i,[]),v)
  | .ok l=>match DQ d 0 v.1 [] l with
   | .error (c,i)=>((c,i,[]),v)
   | .ok (x,j)=>((0,0,[]),(x,some j.reverse))
noncomputable def aY(v:To×ZG)(p:To):ZK×(To×ZG):=
 if 20000<(Zm top (Zp top (some v.1) [] p).1).length then ((4,0,[]),v) else ((0,0,[]),((Zp top (some v.1) [] p).1,some (Zp top (some v.1) [] p).2.reverse))
noncomputable def bT(d e:Int)(v:To×ZG)(s:By):ZK×(To×ZG):=match Zy s d e with
 | (c,none)=>((c,0,[]),v)
 | (_,some p)=>aY v p
def bM(v:To×ZG):ZK:=match v.2 with
 | none=>(3,0,[])
 | some j=>(0,0,Ck j)
noncomputable def cP(n:Int)(v p:To):ZK:=(0,0,Ck (BQ n top [] v p))
noncomputable def bY(d e n:Int)(v:To×ZG)(s:By):ZK:=match Zy s d e with
 | (c,none)=>(c,0,[])
 | (_,some p)=>cP n v.1 p
noncomputable def bU(v p:To):ZK:=match Z3 top v p with
 | none=>(15,0,[])
 | some x=>(0,0,Zm top x)
noncomputable def bZ(d e:Int)(v:To×ZG)(s:By):ZK:=match Zy s d e with
 | (c,none)=>(c,0,[])
 | (_,some p)=>bU v.1 p
noncomputable def bI(d e n:Int)(v:To×ZG)(o:St):ZK×(To×ZG):=
 if o.1=5 then bE d e v o.2.1 else if o.1=6 then bT d e v o.2.1 else if o.1=7 then (bM v,v)
 else if o.1=8 then (bY d e n v o.2.1,v) else (bZ d e v o.2.1,v)
def aL(n a b:Int):Bool:=decide (a<=n) && decide (n<=b)
def aG(d e n:Int):Bool:=aL d 1 20 && (aL e 0 400 && aL n 0 2000)
def cI(r:Nat×Option To)(doc:aF):ZK×aF:=
 match r.2 with
 | some v=>((r.1,0,[]),some (v,none))
 | none=>((r.1,0,[]),doc)
def bJ(v:To)(s:By):ZK:=match ZW s with
 | none=>(9,0,[])
 | some l=>match Ak v l with
  | .ok e=>(0,0,Zm top e)
  | .error c=>(c,0,[])
noncomputable def aU(d e:Int)(v:To)(s t:By):Nat:=match ZW s with
 | none=>9
 | some l=>match Zy t d e with
  | (c,none)=>c
  | (_,some x)=>match Ak v l with
   | .error c=>c
   | .ok y=>if veq y x=true then 0 else 14
noncomputable def cA(d e:Int)(v:To)(o:St):ZK:=
 if o.1=2 then (0,0,Zm top v) else if o.1=3 then bJ v o.2.1 else if o.1=4 then (aU d e v o.2.1 o.2.2,0,[]) else (1,0,[])
noncomputable def ZR(d e n:Int)(doc:aF)(o:St):ZK×aF:=
 if aG d e n then
  (if o.1<1\/9<o.1 then ((1,0,[]),doc)
   else if o.1=1 then cI (Zy o.2.1 d e) doc
   else match doc with
    | none=>((3,0,[]),doc)
    | some v=>if o.1<5 then (cA d e v.1 o,doc) else ((bI d e n v o).1,some (bI d e n v o).2))
 else ((2,0,[]),doc)
noncomputable def ZX(d e n:Int):aF->List St->List ZK
 | _,[]=>[]
 | doc,o::r=>(ZR d e n doc o).1::ZX d e n (ZR d e n doc o).2 r
noncomputable def aB(d e n:Int):aF->List St->aF
 | doc,[]=>doc
 | doc,o::r=>aB d e n (ZR d e n doc o).2 r
theorem cQ(d e n:Int):∀ (l:List St) (doc:aF),(ZX d e n doc l).length=l.length:=by
 intro l;induction l with
 | nil=>intro doc;rfl
 | cons o r ih=>intro doc;simp[ZX,ih]
theorem dJ(d e n:Int):∀ (l:List St) (doc:aF) (k:Nat),ZX d e n doc (l.take k)=(ZX d e n doc l).take k:=by
 intro l;induction l with
 | nil=>intro doc k;simp[ZX]
 | cons o r ih=>
  intro doc k;cases k with
  | zero=>rfl
  | succ k=>simp[ZX,ih]
theorem dK(d e n:Int):∀ (l:List St) (doc:aF) (o:St),ZX d e n doc (l++[o])=ZX d e n doc l++[(ZR d e n (aB d e n doc l) o).1]:=by
 intro l;induction l with
 | nil=>intro doc o;rfl
 | cons x r ih=>intro doc o;simp[ZX,aB,ih]
theorem dL(d e n:Int):∀ (l:List St) (doc:aF) (o:St),aB d e n doc (l++[o])=(ZR d e n (aB d e n doc l) o).2:=by
 intro l;induction l with
 | nil=>intro doc o;rfl
 | cons x r ih=>intro doc o;simp[aB,ih]
def Ai(a:ZK):A6:=.agg #[.int .i64 a.1,.int .i64 a.2.1,.string ⟨a.2.2.toArray⟩]
def AW(c:Nat)(t:By):A6:=.agg #[.int .i64 c,.int .i64 0,.string ⟨t.toArray⟩]
theorem Gr(n a b:Int)(w:CD):Calls CH 52 #[.int .i64 n,.int .i64 a,.int .i64 b] w fun e w'=>e=.returned (.bool (aL n a b))/\w'=w:=by
 by_cases h1:a<=n
 ·by_cases h2:n<=b
  ·have e1:decide (a<=n)=true:=by simpa using h1
   have e2:decide (n<=b)=true:=by simpa using h2
   have HE:=Ab (show aL n a b=true by unfold aL;rw[e1,e2];rfl);clear h1 h2
   go_enter func52,ntmps52
   go_wp2_with (fail)
   go_ret;exact⟨by rw[Aa HE];rfl,rfl⟩
  ·have e1:decide (a<=n)=true:=by simpa using h1
   have e2:decide (n<=b)=false:=by simpa using h2
   have HE:=Ab (show aL n a b=false by unfold aL;rw[e1,e2];rfl);clear h1 h2
   go_enter func52,ntmps52
   go_wp2_with (fail)
   go_ret;exact⟨by rw[Aa HE];rfl,rfl⟩
 ·have e1:decide (a<=n)=false:=by simpa using h1
  have HE:=Ab (show aL n a b=false by unfold aL;rw[e1];rfl);clear h1
  go_enter func52,ntmps52
  go_wp2_with (fail)
  go_ret;exact⟨by rw[Aa HE];rfl,rfl⟩
theorem M8(d e n:Int)(w:CD):Calls CH 40 #[.agg #[.int .i64 d,.int .i64 e,.int .i64 n]] w fun x w'=>x=.returned (.bool (aG d e n))/\Below w.heap.size w w':=by
 have hb:Below w.heap.size w (w.alloc (.cells #[.int .i64 d,.int .i64 e,.int .i64 n] 23)):=(CR _ _).alloc (CL _) _
 go_enter func40,ntmps40
 go_wp2_with (fail);refine (Gr d 1 20 _).mono ?_
 rintro x w1 ⟨rfl,rfl⟩;cases h1:aL d 1 20 with
 | false=>
  have H1:=Ab h1;clear h1;simp only
  go_wp2_with (fail)
  go_ret;exact⟨by unfold aG;rw[Aa H1];rfl,hb⟩
 | true=>
  have H1:=Ab h1;clear h1;simp only
  go_wp2_with (fail);refine (Gr e 0 400 _).mono ?_
  rintro x w1 ⟨rfl,rfl⟩;cases h2:aL e 0 400 with
  | false=>
   have H2:=Ab h2;clear h2;simp only
   go_wp2_with (fail)
   go_ret;exact⟨by unfold aG;rw[Aa H1,Aa H2];rfl,hb⟩
  | true=>
   have H2:=Ab h2;clear h2;simp only
   go_wp2_with (fail);refine (Gr n 0 2000 _).mono ?_
   rintro x w1 ⟨rfl,rfl⟩
   go_wp2_with (fail)
   go_ret;exact⟨by unfold aG;rw[Aa H1,Aa H2];simp,hb⟩
theorem Bj(c:Nat)(w:CD):Calls CH 41 #[.int .i64 c] w fun x w'=>x=.returned (AW c [])/\Below w.heap.size w w':=by
 unfold AW
 go_enter func41,ntmps41
 go_wp2_with (fail);refine bodyPost_ret (v:=.agg #[.int .i64 c,.int .i64 0,.string ⟨([]:By).toArray⟩]) (by simp[results,results41,go_sem]) rfl ⟨rfl,?_⟩
 exact (CR _ w).alloc (CL _) _
def CQ(w:CD)(g o:Nat)(l:List By):Prop:=g<w.heap.size /\ ∀k (hk:k<l.length),w.cell? ⟨g,o+k,none⟩=some (.string ⟨l[k].toArray⟩)
def CI(w:CD)(v:A6)(l:List By):Prop:=
 (l=[] /\ ∃a c,v=.slice a 0 c/\c<=maxLen) \/ ∃g o cap,v=.slice (some ⟨g,o,none⟩) l.length cap/\l.length<=cap/\cap<=maxLen/\CQ w g o l
theorem CI.bel{w w':CD}{v:A6}{l:List By}(h:CI w v l)(hb:Below w.heap.size w w'):CI w' v l:=by
 rcases h with h|⟨g,o,cap,rfl,h1,h2,hg,hc⟩
 ·exact Or.inl h
 ·exact A3 ⟨g,o,cap,rfl,h1,h2,Nat.lt_of_lt_of_le hg hb.size,fun k hk=>(hb.cell (p:=⟨g,o+k,none⟩) hg).trans (hc k hk)⟩
def AH(a:Zf):List Zf:=match a with
 | .agg [.lit (.int _ _),.lit (.int _ _),x]=>(match x with
  | .slice al _=>al
  | .map es=>es.map Prod.snd
  | _=>[])
 | _=>[]
def Z6(a:Zf)(i:Nat)(c:Zf):Zf:=match a with
 | .agg [.lit (.int k b),.lit (.int l g),x]=>(match x with
  | .slice al _=>.agg [.lit (.int k b),.lit (.int l g),.slice (al.set i c) []]
  | .map es=>.agg [.lit (.int k b),.lit (.int l g),.map (es.modify i fun p=>(p.1,c))]
  | y=>.agg [.lit (.int k b),.lit (.int l g),y])
 | y=>y
theorem BO(b g:Nat)(al:List Zf):AH (Zj b g (.slice al []))=al:=rfl
theorem Bx(b g:Nat)(es:List (Lit×Zf)):AH (Zj b g (.map es))=es.map Prod.snd:=rfl
theorem EI(b g k:Nat):AH (Zj b g (AO k))=[]:=rfl
theorem Fo(b g:Nat)(n:Nm):AH (Zj b g (Bv n))=[]:=rfl
theorem Fm(b g:Nat)(s:By):AH (Zj b g (Aq s))=[]:=rfl
theorem Kx(b g i:Nat)(al:List Zf)(c:Zf):Z6 (Zj b g (.slice al [])) i c=Zj b g (.slice (al.set i c) []):=rfl
theorem Kw(b g i:Nat)(es:List (Lit×Zf))(c:Zf):Z6 (Zj b g (.map es)) i c=Zj b g (.map (es.modify i fun p=>(p.1,c))):=rfl
theorem CN{α β:Type}(q:α->List β):∀ (l:List α) (i:Nat) (a:α),l[i]? = some a -> ∃l1 l2,l=l1++a::l2/\l1.length=i
 | [],i,a,h=>by simp at h
 | x::r,0,a,h=>⟨[],r,by grind,rfl⟩
 | x::r,i+1,a,h=>by
  obtain⟨l1,l2,e,e2⟩:=CN q r i a (by grind)
  grind
theorem Al.app{α β:Type}{P:α->β->Prop}:∀ {l:List α} {m1 m2:List β},Al P l (m1++m2) -> ∃l1 l2,l=l1++l2/\Al P l1 m1/\Al P l2 m2
 | l,[],m2,h=>⟨[],l,rfl,trivial,h⟩
 | [],_::_,_,h=>h.elim
 | a::r,b::m1,m2,⟨h1,h2⟩=>by
  obtain⟨l1,l2,e,h3,h4⟩:=Al.app h2;exact⟨a::l1,l2,by rw[e];rfl,⟨h1,h3⟩,h4⟩
theorem Al.append{α β:Type}{P:α->β->Prop}:∀ {l1 l2:List α} {m1 m2:List β},Al P l1 m1->Al P l2 m2->Al P (l1++l2) (m1++m2)
 | [],_,[],_,_,h=>h
 | _::_,_,_::_,_,⟨a,b⟩,h=>⟨a,Al.append b h⟩
theorem Pt.app{P:A6->To->Prop}:∀ {l:List (Lit×DataW A6)} {m1 m2:List (Lit×To)},Pt P l (m1++m2) -> ∃l1 l2,l=l1++l2/\Pt P l1 m1/\Pt P l2 m2
 | l,[],m2,h=>⟨[],l,rfl,trivial,h⟩
 | [],_::_,_,h=>h.elim
 | a::r,b::m1,m2,⟨h1,h2⟩=>by
  obtain⟨l1,l2,e,h3,h4⟩:=Pt.app h2;exact⟨a::l1,l2,by rw[e];rfl,⟨h1,h3⟩,h4⟩
theorem Pt.append{P:A6->To->Prop}:∀ {l1 l2:List (Lit×DataW A6)} {m1 m2:List (Lit×To)},Pt P l1 m1->Pt P l2 m2->Pt P (l1++l2) (m1++m2)
 | [],_,[],_,_,h=>h
 | _::_,_,_::_,_,⟨a,b⟩,h=>⟨a,Pt.append b h⟩
theorem EH{α:Type}(q:α->α)(a:α)(l2:List α):∀l1:List α,(l1++a::l2).modify l1.length q=l1++q a::l2
 | []=>rfl
 | x::r=>by simp only[List.cons_append,List.length_cons,List.modify_succ_cons,EH q a l2 r]
theorem Ad.kid{f i:Nat}{w w':CD}{v:A6}{a c c':Zf}(h:Ad (f+1) w v a)(hi:(AH a)[i]? = some c)(hn:(fp (f+1) a).Nodup)
  (hk:∀k∈fp (f+1) a,k ∉ fp f c->w'.heap[k]? = w.heap[k]?) (hc:∀u,Ad f w u c->Ad f w' u c'):Ad (f+1) w' v (Z6 a i c'):=by
 obtain⟨b,g,x,rfl,hv,h⟩:=h;rcases h with⟨k,h1,h2,rfl,h⟩|⟨n,h2,rfl,h,qd⟩|⟨s,h2,rfl,h⟩|⟨al,sl,ps,rfl,h,ho,hs,ha⟩|⟨es,n,D,rfl,h,ho,hp⟩
 ·rw[EI] at hi;simp at hi
 ·rw[Fo] at hi;simp at hi
 ·rw[Fm] at hi;simp at hi
 ·rw[BO] at hi;obtain⟨l1,l2,rfl,hl⟩:=CN (fp f) al i c hi;rw[AN,A2,A4] at hn hk;obtain⟨q1,q2,rfl,q6,q0⟩:=ha.app;cases q2 with
  | nil=>exact q0.elim
  | cons u q2=>
   obtain⟨hu,q0⟩:=q0;rw[Kx,List.set_append_right _ _ (by omega),show i-l1.length=0 by omega,List.set_cons_zero];obtain⟨n1,n2⟩:=AS.1 hn;obtain⟨n3,n4,n5⟩:=AI.1 n2;obtain⟨n6,n7,n8⟩:=AI.1 n4;obtain⟨n9,q8,q7⟩:=AI.1 n7;refine⟨b,g,_,rfl,hv,A3 (A3 (A3 (Or.inl ⟨_,sl,q1++u::q2,rfl,h.kept (hk b (by simp) fun hb=>n1 ?_),AX ho fun g' qb=>hk g' ?_ fun hb=>?_,hs,Al.append (Al.mem (fun u' d hd q4=>Ad.move (fun k q5=>hk k ?_ fun hb=>?_) q4) q6) ⟨hc u hu,Al.mem (fun u' d hd q4=>Ad.move (fun k q5=>hk k ?_ fun hb=>?_) q4) q0⟩⟩)))⟩
   ·grind
   ·obtain⟨rfl,h0⟩:=Gb hs qb;simp[h0]
   ·simp_all
   ·exact List.mem_cons_of_mem _ (AT _ (by grind))
   ·exact n8 k (A5.2 ⟨d,hd,q5⟩) k (A1 _ hb) rfl
   ·grind
   grind
 ·rw[Bx] at hi;rw[List.getElem?_map] at hi;obtain⟨⟨key,c2⟩,q9,rfl⟩:=Option.map_eq_some_iff.1 hi;obtain⟨l1,l2,rfl,hl⟩:=CN (fun p=>fp f p.2) es i _ q9;rw[Bi,A2,A4] at hn hk;obtain⟨q1,q2,rfl,q6,q0⟩:=hp.app;cases q2 with
  | nil=>exact q0.elim
  | cons u q2=>
   obtain⟨⟨ku,xu,eu,hu⟩,q0⟩:=q0;have em:(l1++(key,c2)::l2).modify i (fun p=>(p.1,c'))=l1++(key,c')::l2:=by
    rw[<- hl];exact EH _ _ _ _
   rw[Kw,em];obtain⟨n1,n2⟩:=AS.1 hn;obtain⟨n3,n4⟩:=AS.1 n2;obtain⟨n6,n7,n8⟩:=AI.1 n4;obtain⟨n9,q8,q7⟩:=AI.1 n7;refine⟨b,g,_,rfl,hv,A3 (A3 (A3 (A3 ⟨_,n,q1++u::q2,rfl,h.kept (hk b (by simp) fun hb=>n1 ?_),Aj ho (hk g (by simp) fun hb=>n3 ?_),Pt.append (Pt.mem (fun u' d hd q4=>Ad.move (fun k q5=>hk k ?_ fun hb=>?_) q4) q6) ⟨⟨ku,xu,eu,hc xu hu⟩,Pt.mem (fun u' d hd q4=>Ad.move (fun k q5=>hk k ?_ fun hb=>?_) q4) q0⟩⟩)))⟩
   ·grind
   ·exact AT _ (A1 _ hb)
   ·grind
   ·grind
   ·grind
   ·exact q7 k hb k (A5.2 ⟨d,hd,q5⟩) rfl
end Go.Proofs.YtdpomdelmdofmaaGreatDoor
