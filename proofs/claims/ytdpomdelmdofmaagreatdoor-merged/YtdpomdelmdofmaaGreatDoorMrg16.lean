/-
  Plain functions: merging, what leads from one value to another, a merge patch that does; a step of a script, whatever its kind.
-/
import Derived.Test.YtdpomdelmdofmaaGreatDoorMrg15
import Derived.Test.YtdpomdelmdofmaaGreatDoorProg
import Derived.Shelf.SlicesE.Delete
import Derived.Shelf.SlicesE.Clone
import Derived.Shelf.SlicesE.Equal
import Derived.Test.YtdpomdelmdofmaaGreatDoorMrg07
namespace Go.Proofs.YtdpomdelmdofmaaGreatDoor
open Go.RowKit Go.Maps
namespace Sp
def isObj (d:V):Bool:=match d with
 | .map _=>true
 | _=>false
def isNull (d:V):Bool:=match d with
 | .lit (.int _ k)=>k == 0
 | _=>false
def pure_:Nat→V→V
 | 0,_=>.nil
 | f+1,p=>match p with
  | .map ps=>.map ((ps.filter fun q=>!isNull q.2).map fun q=>(q.1,pure_ f q.2))
  | p=>p
def get? (es:List (Lit×V)) (k:Lit):Option V:=if Maps.has (.map es:V) k=true then some ((DataW.map es).atKey k .nil) else none
def keyB (k:Lit):By:=match k with
 | .string s=>s
 | _=>[]
def mrgs (m:Option V→List By→V→V×List Opn) (s:List By):List (Lit×V)→List (Lit×V)→V×List Opn
 | [],es=>(.map es,[])
 | (k,q)::r,es =>
  if isNull q then (match get? es k with
   | none=>mrgs m s r es
   | some o=>((mrgs m s r (mdel k es)).1,(0,s++[keyB k],o)::(mrgs m s r (mdel k es)).2))
  else ((mrgs m s r (mput k (m (get? es k) (s++[keyB k]) q).1 es)).1,(m (get? es k) (s++[keyB k]) q).2++(mrgs m s r (mput k (m (get? es k) (s++[keyB k]) q).1 es)).2)
def mrg:Nat→Option V→List By→V→V×List Opn
 | 0,_,_,_=>(.nil,[])
 | f+1,v,s,p=>match v,p with
  | some (.map es),.map ps=>mrgs (mrg f) s ps es
  | some o,p=>(pure_ (f+1) p,[(2,s,o)])
  | none,p=>(pure_ (f+1) p,[(1,s,.nil)])
def ukeys (xs bs:List (Lit×V)):List By:=(bs.foldl (fun (l:List (Lit×V)) q=>mput q.1 .nil l) xs).map fun p=>keyB p.1
noncomputable def lcs:List V→List V→Nat
 | [],_=>0
 | _::_,[]=>0
 | x::a,y::b=>if veq x y=true then 1+lcs a b else max (lcs a (y::b)) (lcs (x::a) b)
termination_by a b=>a.length+b.length
noncomputable def apart:Nat→List V→List V→Nat→Nat→List Nat×List Nat
 | 0,_,_,_,_=>([],[])
 | _+1,[],[],_,_=>([],[])
 | n+1,_::a,[],k,j=>((k::(apart n a [] k j).1),(apart n a [] k j).2)
 | n+1,[],_::b,k,j=>((apart n [] b k (j+1)).1,j::(apart n [] b k (j+1)).2)
 | n+1,x::a,y::b,k,j=>if lcs a (y::b)=lcs (x::a) (y::b) then ((k::(apart n a (y::b) k j).1),(apart n a (y::b) k j).2)
   else if lcs (x::a) b=lcs (x::a) (y::b) then ((apart n (x::a) b k (j+1)).1,j::(apart n (x::a) b k (j+1)).2)
   else apart n a b (k+1) (j+1)
def numb (s:List By) (i:Nat):List By:=s++[Lib.itoa (i:Int)]
noncomputable def diffA (s:List By) (a b:List V):List Opn :=
 ((apart (a.length+b.length) a b 0 0).1.map fun (i:Nat)=>((1,numb s i,.nil):Opn))++(apart (a.length+b.length) a b 0 0).2.map fun (i:Nat)=>((0,numb s i,(b[i]?).getD .nil):Opn)
def diffO (m:List By→V→V→List Opn) (s:List By) (xs bs:List (Lit×V)):List By→List Opn
 | []=>[]
 | k::r=>(match get? xs (.string k),get? bs (.string k) with
  | _,none=>[(1,s++[k],.nil)]
  | none,some y=>[(0,s++[k],y)]
  | some x,some y=>m (s++[k]) x y)++diffO m s xs bs r
noncomputable def diff (n:Int):Nat→List By→V→V→List Opn
 | 0,_,_,_=>[]
 | f+1,s,a,b=>match a,b with
  | .map xs,.map bs=>diffO (diff n f) s xs bs (ukeys xs bs)
  | .slice xs x,.slice bs y=>if ((xs.length:Int)+1)*((bs.length:Int)+1)≤n then diffA s xs bs else if veq (.slice xs x) (.slice bs y)=true then [] else [(2,s,.slice bs y)]
  | a,b=>if veq a b=true then [] else [(2,s,b)]
def memsOf (a:V):List (Lit×V):=match a with
 | .map es=>es
 | _=>[]
noncomputable def mdfs (m:V→V→Option V) (xs:List (Lit×V)):List (Lit×V)→List (Lit×V)→Option (List (Lit×V))
 | [],out=>some out
 | (k,y)::r,out=>match get? xs k with
  | some x=>if veq x y=true then mdfs m xs r out else if isNull y then none else (match m x y with
   | none=>none
   | some z=>mdfs m xs r (mput k z out))
  | none=>if isNull y then none else (match m (.map []) y with
   | none=>none
   | some z=>mdfs m xs r (mput k z out))
noncomputable def mdf:Nat→V→V→Option V
 | 0,_,_=>none
 | f+1,a,b=>match b with
  | .map bs=>(mdfs (mdf f) (memsOf a) bs (((memsOf a).filter fun p=>!Maps.has (.map bs:V) p.1).map fun p=>(p.1,vWord 0))).map .map
  | b=>some b
end Sp
noncomputable def Sp.stPatch (d e:Int) (v:Sp.V×Sp.Inv) (s:Sp.By):Sp.Ans×(Sp.V×Sp.Inv):=match Sp.readTo s (d+2) e with
 | (c,none)=>((c,0,[]),v)
 | (_,some p)=>match Sp.pread p with
  | .error i=>((10,i,[]),v)
  | .ok l=>match Sp.dops d 0 v.1 [] l with
   | .error (c,i)=>((c,i,[]),v)
   | .ok (x,j)=>((0,0,[]),(x,some j.reverse))
noncomputable def Sp.mergeA (v:Sp.V×Sp.Inv) (p:Sp.V):Sp.Ans×(Sp.V×Sp.Inv) :=
 if 20000<(Sp.can top (Sp.mrg top (some v.1) [] p).1).length then ((4,0,[]),v) else ((0,0,[]),((Sp.mrg top (some v.1) [] p).1,some (Sp.mrg top (some v.1) [] p).2.reverse))
noncomputable def Sp.stMerge (d e:Int) (v:Sp.V×Sp.Inv) (s:Sp.By):Sp.Ans×(Sp.V×Sp.Inv):=match Sp.readTo s d e with
 | (c,none)=>((c,0,[]),v)
 | (_,some p)=>Sp.mergeA v p
def Sp.stInvert (v:Sp.V×Sp.Inv):Sp.Ans:=match v.2 with
 | none=>(3,0,[])
 | some j=>(0,0,Sp.ptext j)
noncomputable def Sp.diffAns (n:Int) (v p:Sp.V):Sp.Ans:=(0,0,Sp.ptext (Sp.diff n top [] v p))
noncomputable def Sp.stDiff (d e n:Int) (v:Sp.V×Sp.Inv) (s:Sp.By):Sp.Ans:=match Sp.readTo s d e with
 | (c,none)=>(c,0,[])
 | (_,some p)=>Sp.diffAns n v.1 p
noncomputable def Sp.mdiffAns (v p:Sp.V):Sp.Ans:=match Sp.mdf top v p with
 | none=>(15,0,[])
 | some x=>(0,0,Sp.can top x)
noncomputable def Sp.stMergeDiff (d e:Int) (v:Sp.V×Sp.Inv) (s:Sp.By):Sp.Ans:=match Sp.readTo s d e with
 | (c,none)=>(c,0,[])
 | (_,some p)=>Sp.mdiffAns v.1 p
noncomputable def Sp.amend (d e n:Int) (v:Sp.V×Sp.Inv) (o:Sp.St):Sp.Ans×(Sp.V×Sp.Inv) :=
 if o.1=5 then Sp.stPatch d e v o.2.1 else if o.1=6 then Sp.stMerge d e v o.2.1 else if o.1=7 then (Sp.stInvert v,v)
 else if o.1=8 then (Sp.stDiff d e n v o.2.1,v) else (Sp.stMergeDiff d e v o.2.1,v)
end Go.Proofs.YtdpomdelmdofmaaGreatDoor

set_option maxRecDepth 100000
set_option maxHeartbeats 8000000
namespace Go.Proofs.YtdpomdelmdofmaaGreatDoor
open Go.RowKit Go.Maps
def MergedAt (f:Nat) (a:Sp.V):Prop:=∀ (F:Nat→Prop) (w:World) (v:Value),Rep f F w v a→Calls Tryz.prog 161 #[v] w fun e w'=>∃p,e = .returned (.pointer (some p))∧Below w.heap.size w w'∧Tr f w.heap.size w' (.pointer (some p)) (Sp.pure_ f a)
theorem rep_kind {f:Nat} {F:Nat→Prop} {w:World} {v:Value} {d:Sp.V} (h:Rep f F w v d):∃b x n s sl mv,v = .pointer (some ⟨b,0,none⟩)∧VB w b x n s sl mv∧(x != 0) = !Sp.isNull d∧(x != 6) = !Sp.isObj d:=by
 cases f with
 | zero=>exact h.elim
 | succ f =>
  obtain⟨b,rfl,_,h⟩:=h
  rcases h with⟨k,hk,rfl,h⟩|⟨n,rfl,h,_⟩|⟨s,rfl,h⟩|⟨es,sl,ps,rfl,h,_⟩|⟨es,m,n,D,rfl,h,_⟩
  ·refine⟨b,k,_,_,_,_,rfl,h,?_⟩
   match k,hk with
   | 0,_=>exact⟨rfl,rfl⟩
   | 1,_=>exact⟨rfl,rfl⟩
   | 2,_=>exact⟨rfl,rfl⟩
  ·exact⟨b,3,_,_,_,_,rfl,h,rfl,rfl⟩
  ·exact⟨b,4,_,_,_,_,rfl,h,rfl,rfl⟩
  ·exact⟨b,5,_,_,_,_,rfl,h,rfl,rfl⟩
  ·exact⟨b,6,_,_,_,_,rfl,h,rfl,rfl⟩
theorem pure_leaf {f:Nat} {d:Sp.V} (h:Sp.isObj d=false):Sp.pure_ (f+1) d=d:=by
 cases d<;>first|rfl|cases h
theorem merged_leaf {f:Nat} {F:Nat→Prop} {w:World} {v:Value} {d:Sp.V} (h:Rep (f+1) F w v d) (hd:Sp.isObj d=false) (hn:Sp.nar (f+1) d) :
  Calls Tryz.prog 161 #[v] w fun e w'=>∃p,e = .returned (.pointer (some p))∧Below w.heap.size w w'∧Tr (f+1) w.heap.size w' (.pointer (some p)) (Sp.pure_ (f+1) d):=by
 obtain⟨b,x,n,s,sl,mv,rfl,hv,_,e6⟩:=rep_kind h
 rw[hd] at e6
 have e1:(x != 6)=true:=e6
 have c0:=hv.c0
 have HC:=hide (vClone_any (f+1) d hn F w _ h)
 obtain⟨E,hE⟩:∃E,E=Sp.pure_ (f+1) d:=⟨_,rfl⟩
 have HE:=hide (show E=d by rw[hE,pure_leaf hd])
 rw[← hE]
 clear h hd hn e6 hE hv
 go_enter Tryz.func161,Tryz.ntmps161
 go_wp2_with (fail)
 refine (unhide HC).mono ?_
 rintro e w' ⟨p,rfl,hb,ht⟩
 have HB:=hide hb
 have HT:=hide ht
 clear hb ht
 go_wp2_with (fail)
 go_ret
 refine⟨p,rfl,unhide HB,?_⟩
 rw[unhide HE]
 exact unhide HT
structure MrO (f:Nat) (w:World) (es:List (Lit×Sp.V)) (left:Lit→Bool) (cnt:Nat) (wr:World):Prop where
 bel:Below w.heap.size w wr
 sz:w.heap.size+2≤wr.heap.size
 el:∃n' D' es',n'+cnt≤es.length∧wr.ownsMap Tryz.prog 9 RV w.heap.size n' (.map D')∧TrM f (w.heap.size+2) wr D' es' ∧
  (∀k,Maps.has (.map es':DataW Unit) k=(Maps.has (.map es:DataW Unit) k && !left k && !Sp.isNull ((DataW.map es).atKey k .nil)))∧(∀k,Maps.has (.map es':DataW Unit) k=true→(DataW.map es').atKey k .nil=Sp.pure_ f ((DataW.map es).atKey k .nil))
theorem MrO.next {f cnt:Nat} {w wr w1:World} {es:List (Lit×Sp.V)} {left:Lit→Bool} (h:MrO f w es left cnt wr) (hg:wr.grownBy w1 (some (w.heap.size+1))):MrO f w es left cnt w1:=by
 have hs:=h.sz
 have hs1:=hg.size
 have hk:∀j,j<wr.heap.size→j≠w.heap.size+1→w1.heap[j]? = wr.heap[j]?:=fun j h1 h2=>hg.block j h1 (fun e=>h2 (Option.some.inj e))
 refine⟨⟨hg.os.trans h.bel.os,hg.tape.trans h.bel.tape,hg.output.trans h.bel.output,by omega,fun j hj=>(hk j (by omega) (by omega)).trans (h.bel.block j hj)⟩,by omega,?_⟩
 obtain⟨n',D',es',h1,h2,h3,h4,h5⟩:=h.el
 exact⟨n',D',es',h1,map_kept h2 (hk _ (by omega) (by omega)),h3.move (fun j hj hl=>hk j hl (by omega)),h4,h5⟩
theorem mgKey_ne {k kl:Lit} (h:k≠kl):k.sameKey kl=false:=by
 cases hx:k.sameKey kl
 ·rfl
 ·exact absurd (WideAt.sameKey_eq hx) h
theorem MrO.skip {f cnt cnt1:Nat} {w wr:World} {es:List (Lit×Sp.V)} {left:Lit→Bool} {kl:Lit} (h:MrO f w es left cnt wr) (hc:cnt1<cnt) (hn:Sp.isNull ((DataW.map es).atKey kl .nil)=true):MrO f w es (fun z=>left z && !z.sameKey kl) cnt1 wr:=by
 obtain⟨n',D',es',h1,h2,h3,h4,h5⟩:=h.el
 refine⟨h.bel,h.sz,n',D',es',by omega,h2,h3,fun k=>?_,h5⟩
 rw[h4]
 by_cases hkk:k=kl
 ·subst hkk
  rw[hn];simp
 ·rw[mgKey_ne hkk];simp
theorem MrO.step {f cnt cnt1:Nat} {w w1 w2:World} {es:List (Lit×Sp.V)} {left:Lit→Bool} (h:MrO f w es left cnt w1) (c:Maps.Canon (.map es:DataW Unit)) (hc:cnt1<cnt) (hsm:es.length<maxLen)
  {x:Value} {kl:Lit} (hkey:keyOf Tryz.prog 9 x=some kl) (hl:left kl=true) (hh:Maps.has (.map es:DataW Unit) kl=true) (hn:Sp.isNull ((DataW.map es).atKey kl .nil)=false) {p:Addr} (hb:Below w1.heap.size w1 w2) (hv:Tr f w1.heap.size w2 (.pointer (some p)) (Sp.pure_ f ((DataW.map es).atKey kl .nil))) :
  ∃w3,(Instr.mapUpdate 109 (.map (some w.heap.size)) x (.pointer (some p))).run Tryz.prog w2 = .ok () w3 ∧
   MrO f w es (fun z=>left z && !z.sameKey kl) cnt1 w3∧w2.grownBy w3 (some w.heap.size):=by
 have hs:=h.sz
 have hs2:=hb.size
 obtain⟨n',D',es',h1,h2,h3,h4,h5⟩:=h.el
 have h2':=map_kept h2 (hb.block _ (map_lt h2))
 obtain⟨w3,hrun,ho3,hg⟩:=h2'.update mlaw Tryz.underlying109 (by omega) hkey (val:=.pointer (some p)) (d:=.held (.pointer (some p))) (ps:=[]) rfl
 have hs3:=hg.size
 have hk:∀j,j<w2.heap.size→j≠w.heap.size→w3.heap[j]? = w2.heap[j]?:=fun j h1 h2=>hg.block j h1 (fun e=>h2 (Option.some.inj e))
 refine⟨w3,hrun,⟨⟨hg.os.trans (hb.os.trans h.bel.os),hg.tape.trans (hb.tape.trans h.bel.tape),hg.output.trans (hb.output.trans h.bel.output),by omega,fun j hj=>(hk j (by omega) (by omega)).trans ((hb.block j (by omega)).trans (h.bel.block j hj))⟩,by omega,?_⟩,hg⟩
 have kk:=key_lit c hh
 obtain⟨D2,es2,e1,e2,ht⟩:=h3.put (k:=kl) (w6:=w3) hv (by omega) (fun j j1 j2=>(hk j (by omega) (by omega)).trans (hb.block j j2)) (fun j j1 j2=>hk j j2 (by omega))
 rw[e1] at ho3
 refine⟨n'+1,D2,es2,by omega,ho3,ht,?_,?_⟩
 ·intro k
  rw[← e2]
  by_cases hkk:k=kl
  ·subst hkk
   rw[has_put_same ⟨_,rfl⟩ kk,hh,hl,WideAt.sameKey_self kk,hn];rfl
  ·rw[has_put_other hkk,h4,mgKey_ne hkk];simp
 ·intro k
  rw[← e2]
  by_cases hkk:k=kl
  ·subst hkk
   intro _
   rw[atKey_put_same ⟨_,rfl⟩ kk]
  ·rw[has_put_other hkk,atKey_put_other hkk]
   exact h5 k
def Sp.pureM (f:Nat) (es:List (Lit×Sp.V)):List (Lit×Sp.V):=(es.filter fun q=>!Sp.isNull q.2).map fun q=>(q.1,Sp.pure_ f q.2)
theorem pureM_canon {f:Nat} {es:List (Lit×Sp.V)} (c:Maps.Canon (.map es:DataW Unit)):Maps.Canon (.map (Sp.pureM f es):DataW Unit):=by
 obtain⟨_,he,hp,hk⟩:=c
 injection he with he
 subst he
 refine⟨_,rfl,?_,fun p hp'=>?_⟩
 ·unfold Sp.pureM
  rw[List.pairwise_map]
  exact hp.filter _
 ·unfold Sp.pureM at hp'
  obtain⟨q,hq,rfl⟩:=List.mem_map.1 hp'
  exact hk q (List.mem_filter.1 hq).1
theorem pureM_has {f:Nat} {es:List (Lit×Sp.V)} (c:Maps.Canon (.map es:DataW Unit)) (k:Lit):Maps.has (.map (Sp.pureM f es):DataW Unit) k=(Maps.has (.map es:DataW Unit) k && !Sp.isNull ((DataW.map es).atKey k .nil))∧(Maps.has (.map (Sp.pureM f es):DataW Unit) k=true→(DataW.map (Sp.pureM f es)).atKey k .nil=Sp.pure_ f ((DataW.map es).atKey k .nil)):=by
 have c2:=pureM_canon (f:=f) c
 obtain⟨_,he,hp,hk⟩:=c
 injection he with he
 subst he
 have hap:=apart_of_rising hp
 obtain⟨_,he2,hp2,hk2⟩:=c2
 injection he2 with he2
 subst he2
 have hap2:=apart_of_rising hp2
 have key:∀q∈Sp.pureM f es,∃p∈es,q.1=p.1∧Sp.isNull p.2=false∧q.2=Sp.pure_ f p.2:=fun q hq=>by
  unfold Sp.pureM at hq
  obtain⟨p,hp,rfl⟩:=List.mem_map.1 hq
  have h2:=List.mem_filter.1 hp
  exact⟨p,h2.1,rfl,by simpa using h2.2,rfl⟩
 constructor
 ·rw[Bool.eq_iff_iff,Bool.and_eq_true]
  constructor
  ·intro h
   obtain⟨q,hq,hs⟩:=List.any_eq_true.1 (show (Sp.pureM f es).any (fun q=>q.1.sameKey k)=true from h)
   obtain⟨p,hp1,e1,e2,_⟩:=key q hq
   have ek:p.1=k:=by rw[← e1];exact WideAt.sameKey_eq hs
   refine⟨List.any_eq_true.2 ⟨p,hp1,by rw[← e1];exact hs⟩,?_⟩
   have:=WideAt.atKey_mem .nil (hk p hp1) hap (show (p.1,p.2)∈es from hp1)
   rw[← ek,this,e2];rfl
  ·rintro⟨h1,h2⟩
   obtain⟨p,hp1,hs⟩:=List.any_eq_true.1 (show es.any (fun q=>q.1.sameKey k)=true from h1)
   have ek:p.1=k:=WideAt.sameKey_eq hs
   have:=WideAt.atKey_mem .nil (hk p hp1) hap (show (p.1,p.2)∈es from hp1)
   rw[← ek,this] at h2
   exact List.any_eq_true.2 ⟨(p.1,Sp.pure_ f p.2),List.mem_map.2 ⟨p,List.mem_filter.2 ⟨hp1,h2⟩,rfl⟩,hs⟩
 ·intro h
  obtain⟨q,hq,hs⟩:=List.any_eq_true.1 (show (Sp.pureM f es).any (fun q=>q.1.sameKey k)=true from h)
  obtain⟨p,hp1,e1,e2,e3⟩:=key q hq
  have ek:q.1=k:=WideAt.sameKey_eq hs
  have h1:=WideAt.atKey_mem .nil (hk2 q hq) hap2 (show (q.1,q.2)∈Sp.pureM f es from hq)
  have h2:=WideAt.atKey_mem .nil (hk p hp1) hap (show (p.1,p.2)∈es from hp1)
  rw[ek] at h1
  rw[← e1,ek] at h2
  rw[h1,h2,e3]
theorem MrO.done {f cnt:Nat} {w wr w2:World} {es:List (Lit×Sp.V)} {left:Lit→Bool} (h:MrO f w es left cnt wr) (c:Maps.Canon (.map es:DataW Unit)) (hl:∀k,left k=false) (hb:Below wr.heap.size wr w2) (hv:VB w2 wr.heap.size 6 n0 [] (.slice none 0 0) (.map (some w.heap.size))):Tr (f+1) w.heap.size w2 (.pointer (some ⟨wr.heap.size,0,none⟩)) (Sp.pure_ (f+1) (.map es)):=by
 obtain⟨n',D',es',h1,h2,h3,h4,h5⟩:=h.el
 have hs:=h.sz
 have c':=h3.pt.canon (h2.canon mlaw)
 have e:es'=Sp.pureM f es:=obj_eq c' (pureM_canon c) (fun k=>by rw[h4,hl,(pureM_has c k).1];simp) (fun k hk=>by
  rw[h5 k hk,(pureM_has c k).2 (by rw[(pureM_has c k).1];rw[h4,hl] at hk;simpa using hk)])
 subst e
 have h3':=h3.move (w':=w2) fun j _ hj=>hb.block j hj
 obtain⟨al,g1,g2,g3,g4⟩:=h3
 have hlt:=g1.lts
 have g1':Pt (TRep f w2) D' al:=Pt.mem (fun u p hp hu=>hu.move fun k hkc=>hb.block k (hlt k (List.mem_flatMap.2 ⟨p,hp,hkc⟩))) g1
 refine⟨Sp.nd wr.heap.size w.heap.size (.map al),⟨wr.heap.size,w.heap.size,_,rfl,rfl,Or.inr (Or.inr (Or.inr (Or.inr ⟨al,n',D',rfl,hv,map_kept h2 (hb.block _ (map_lt h2)),g1'⟩)))⟩,?_,?_,?_⟩
 ·rw[Sp.str_obj,g2];rfl
 ·rw[Sp.fp_obj,List.nodup_cons,List.nodup_cons]
  refine⟨fun hx=>?_,fun hx=>by have:=g4 _ hx;omega,g3⟩
  rcases List.mem_cons.1 hx with e|hx
  ·omega
  ·have:=hlt _ hx;omega
 ·rw[Sp.fp_obj]
  intro k hk
  rcases List.mem_cons.1 hk with rfl|hk
  ·omega
  ·rcases List.mem_cons.1 hk with rfl|hk
   ·omega
   ·have:=g4 k hk;omega
theorem merged_obj {f:Nat} {F:Nat→Prop} {w:World} {b m n:Nat} {D:List (Lit×DataW Value)} {es:List (Lit×Sp.V)} (hS:∀k,Maps.has (.map es:DataW Unit) k=true→MergedAt f ((DataW.map es).atKey k .nil)) (h:VB w b 6 n0 [] (.slice none 0 0) (.map (some m))) (ho:w.ownsMap Tryz.prog 9 RV m n (.map D)) (hp:Pt (Rep f F w) D es) (hsm:es.length<maxLen) :
  Calls Tryz.prog 161 #[.pointer (some ⟨b,0,none⟩)] w fun e w'=>∃p,e = .returned (.pointer (some p))∧Below w.heap.size w w'∧Tr (f+1) w.heap.size w' (.pointer (some p)) (Sp.pure_ (f+1) (.map es)):=by
 have hml:=mlaw
 have hmm:=@run_makeMap Tryz.prog
 have c0:=h.c0
 have c6:=h.c6
 have hbl:=h.lt
 have hmb:=map_lt ho
 have hl:=hp.size
 have hsz:Maps.size (.map D:DataW Value)=es.length:=hl
 have C1:=hide (hp.canon (ho.canon hml))
 have HO1:Hid ((w.alloc (.map #[] 0)).ownsMap Tryz.prog 9 RV m n (.map D)):=hide (ho.alloc _)
 have d6:(w.alloc (.map #[] 0)).cell? ⟨b,6,none⟩=some (.map (some m)):=(World.cell?_of_block (w:=w) (a:=⟨b,6,none⟩) (Below.heap_alloc w _ b hbl)).trans c6
 have hstart:Hid (∀w0,(w.alloc (.map #[] 0)).grownBy w0 none→w0.heap.size=w.heap.size+2→MrO f w es (has (.map D:DataW Value)) (Maps.size (.map D:DataW Value)) w0):=by
  intro w0 hg hs
  have hmade:=World.ownsMap_made w Tryz.prog 9 RV
  have hk:∀j,j<w.heap.size+1→w0.heap[j]? = (w.alloc (.map #[] 0)).heap[j]?:=fun j hj=>hg.block j (by simp;omega) (by simp)
  have hb2:Below w.heap.size w (w.alloc (.map #[] 0)):=(Below.refl _ _).alloc (Nat.le_refl _) _
  refine⟨⟨hg.os.trans hb2.os,hg.tape.trans hb2.tape,hg.output.trans hb2.output,by omega,fun j hj=>(hk j (by omega)).trans (hb2.block j hj)⟩,by omega,0,[],[],by omega,map_kept hmade (hk _ (by omega)),TrM.nil _ _ _,?_,?_⟩
  ·intro k
   rw[hp.has k]
   cases Maps.has (.map es:DataW Unit) k<;>rfl
  ·intro k hk;cases hk
 have HP:=hide hp
 have HS:=hide hS
 have HSM:=hide hsm
 obtain⟨E,hE⟩:∃E,E=Sp.pure_ (f+1) (.map es):=⟨_,rfl⟩
 rw[← hE]
 have HE:=hide hE
 clear hp hS h ho hsm hl hE
 go_enter Tryz.func161,Tryz.ntmps161
 go_wp2_with (first
  | (at_range;refine wpList_range_own _ rfl _ 109 rfl 9 80 hml Tryz.underlying109 RV m n _ rfl (unhide HO1) ?_;intro w0 hrg0 hg0 hs0)
  | go_in)
 have e0:(w.alloc (.map #[] 0)).heap.size=w.heap.size+1:=by simp
 have hcl:=hide (unhide hstart w0 hg0 (by rw[hs0];simp))
 rw[e0] at hrg0
 clear hg0 hs0 hstart
 simp only[Act.put,List.setIfInBounds_toArray,List.set_cons_zero,List.set_cons_succ,e0]
 go_loopw [4] (fun _ wr=>∃ (left:Lit→Bool) (cnt:Nat),wr.ranges Tryz.prog 9 RV m (w.heap.size+1) n (.map D) left cnt∧Hid (MrO f w es left cnt wr))
  (fun _ wr=>wr.rangeLeft m (w.heap.size+1))
 case atStart=>exact⟨_,_,hrg0,hcl⟩
 case round =>
  obtain⟨left,cnt,hrg,G⟩:=hrel
  go_wp2_with (first
   | (at_next;refine wpList_next_ranges _ rfl _ rfl 9 hml RV id id (fun key _ _=>⟨key,rfl⟩) (fun v _ _=>⟨v,rfl⟩) m (w.heap.size+1) n _ _ _ rfl hrg ?_ ?_)
   | go_in)
  ·intro _ hl0
   have HD:=hide (fun (w2:World) (hb:Below wr.heap.size wr w2) (hv:VB w2 wr.heap.size 6 n0 [] (.slice none 0 0) (.map (some w.heap.size)))=>(unhide G).done (unhide C1) hl0 hb hv)
   have HB:=hide (unhide G).bel
   clear hrg0 hrg
   go_wp2_with (fail)
   go_ret
   have hnew:∀o:Obj,Below wr.heap.size wr (wr.alloc o):=fun o=>(Below.refl _ _).alloc (Nat.le_refl _) _
   refine⟨_,rfl,(unhide HB).trans ((hnew _).mono (unhide HB).size),?_⟩
   rw[unhide HE]
   exact unhide HD _ (hnew _) (heap_alloc_new wr _)
  ·intro x c kl yd yp w1 cnt1 hkey hlx hv hat hrg1 hlt hg1 hs1 hen
   have hv2:DataW.held c=yd:=congrArg Prod.fst (Option.some.inj hv)
   subst hv2
   have hasD:Maps.has (.map D:DataW Value) kl=true:=has_true_of_atKey hat
   obtain⟨c',e1,hrep⟩:=(unhide HP).at kl hasD
   have e2:c'=c:=by
    have e3:=(e1 .nil).symm.trans (hat .nil)
    injection e3
   subst e2
   have hasE:Maps.has (.map es:DataW Unit) kl=true:=by rw[← (unhide HP).has kl];exact hasD
   have G1:=hide ((unhide G).next hg1)
   obtain⟨pb,pk,pn,ps,psl,pmv,hcp,hpv,hk0,_⟩:=rep_kind hrep
   subst hcp
   have ck:w1.cell? ⟨pb,0,none⟩=some (.int .i64 pk):=(hpv.kept ((unhide G1).bel.block pb hpv.lt)).c0
   have HREP:=hide hrep
   have HAS:=hide hasE
   have HHK:=hide hkey
   have HLX:=hide hlx
   have HLT:=hide hlt
   cases hnl:Sp.isNull ((DataW.map es).atKey kl .nil) with
   | true =>
    rw[hnl] at hk0
    have ek:(pk != 0)=false:=hk0
    have G2:=hide ((unhide G1).skip hlt hnl)
    clear hat hrep hasE e1 hasD hv hk0 hnl hpv
    go_wp2_with (fail)
    go_roundw
    case rel=>exact⟨_,cnt1,hrg1,G2⟩
    case measure=>rw[hrg1.left_eq,hrg.left_eq];exact hlt
   | false =>
    rw[hnl] at hk0
    have ek:(pk != 0)=true:=hk0
    have HUP:=hide (fun (w2:World) (p:Addr) (hb:Below w1.heap.size w1 w2) (hv:Tr f w1.heap.size w2 (.pointer (some p)) (Sp.pure_ f ((DataW.map es).atKey kl .nil)))=>(unhide G1).step (unhide C1) hlt (unhide HSM) hkey hlx hasE hnl hb hv)
    have HC:=hide (unhide HS kl hasE F w1 _ (hrep.bel (unhide G1).bel))
    clear hat hrep hasE e1 hasD hv hk0 hnl hpv
    go_wp2_with (fail)
    refine (unhide HC).mono ?_
    rintro e w2 ⟨p,rfl,hb2,hv2⟩
    obtain⟨w3,hrun,hcl3,hg3⟩:=unhide HUP w2 p hb2 hv2
    have hrg3:=(hrg1.kept (grown_of_below hb2) (by simp) (by simp)).kept hg3 (fun e=>by have:=Option.some.inj e;omega) (fun e=>by have:=Option.some.inj e;omega)
    have HCL:=hide hcl3
    clear hb2 hv2 hcl3 hg3 HC HUP
    go_wp2_with (fail)
    go_roundw
    case rel=>exact⟨_,cnt1,hrg3,HCL⟩
    case measure=>rw[hrg3.left_eq,hrg.left_eq];exact unhide HLT
theorem merged_any:∀ (f:Nat) (a:Sp.V),Sp.nar f a→MergedAt f a
 | 0,_,_=>fun _ _ _ h=>h.elim
 | f+1,a,hn=>fun F w v h=>by
  cases hob:Sp.isObj a with
  | false=>exact merged_leaf h hob hn
  | true =>
   obtain⟨es,rfl⟩:∃es,a = .map es:=by
    cases a<;>first|exact⟨_,rfl⟩|cases hob
   obtain⟨b,rfl,_,h⟩:=h
   obtain⟨n1,n2⟩:=hn
   rcases h with⟨k,_,e,_⟩|⟨n,e,_⟩|⟨s,e,_⟩|⟨es',sl,ps,e,_⟩|⟨es',m,n,D,e,hv,_,ho,hp⟩
   ·cases e
   ·cases e
   ·cases e
   ·cases e
   ·injection e with e
    subst e
    exact merged_obj (fun k hk=>by
     obtain⟨p,hpm,e⟩:=at_mem hk
     rw[e];exact merged_any f _ (n2 p hpm)) hv ho hp (by unfold maxLen;omega)
end Go.Proofs.YtdpomdelmdofmaaGreatDoor

namespace Go.Proofs
open Go.Shelf
def Tryz.eDelete_ren:Go.Shelf.Ren:=⟨fun|45=>290|n=>n,fun|22=>106|23=>80|3=>3|4=>4|0=>0|n=>n,fun|n=>n⟩
theorem Tryz.eDelete:Go.Proofs.SlLaysE.n45 Tryz.prog Tryz.eDelete_ren:={
 mixed:=by kernel_rfl
 f45:=⟨Tryz.f290.name,by decide,Tryz.func290.trans (congrArg some (by kernel_rfl))⟩
 t0:=Tryz.underlying0
 a0:=Tryz.isAgg0
 z0:=Tryz.sizeOf0
 v0:=Tryz.zeroValue0
 t3:=Tryz.underlying3
 a3:=Tryz.isAgg3
 z3:=Tryz.sizeOf3
 v3:=Tryz.zeroValue3
 t4:=Tryz.underlying4
 a4:=Tryz.isAgg4
 z4:=Tryz.sizeOf4
 v4:=Tryz.zeroValue4
 t22:=Tryz.underlying106
 a22:=Tryz.isAgg106
 z22:=Tryz.sizeOf106
 v22:=Tryz.zeroValue106
 a23:=Tryz.isAgg80
 z23:=Tryz.sizeOf80 }
end Go.Proofs

namespace Go.Proofs.YtdpomdelmdofmaaGreatDoor
open Go.RowKit
namespace Sp
def kids (a:A):List A:=match a with
 | .agg [.lit (.int _ _),.lit (.int _ _),x]=>(match x with
  | .slice al _=>al
  | .map es=>es.map Prod.snd
  | _=>[])
 | _=>[]
def kid (a:A) (i:Nat) (c:A):A:=match a with
 | .agg [.lit (.int k b),.lit (.int l g),x]=>(match x with
  | .slice al _=>.agg [.lit (.int k b),.lit (.int l g),.slice (al.set i c) []]
  | .map es=>.agg [.lit (.int k b),.lit (.int l g),.map (es.modify i fun p=>(p.1,c))]
  | y=>.agg [.lit (.int k b),.lit (.int l g),y])
 | y=>y
theorem kids_arr (b g:Nat) (al:List A):kids (nd b g (.slice al []))=al:=rfl
theorem kids_obj (b g:Nat) (es:List (Lit×A)):kids (nd b g (.map es))=es.map Prod.snd:=rfl
theorem kids_word (b g k:Nat):kids (nd b g (vWord k))=[]:=rfl
theorem kids_num (b g:Nat) (n:Nm):kids (nd b g (vNum n))=[]:=rfl
theorem kids_str (b g:Nat) (s:By):kids (nd b g (vStr s))=[]:=rfl
theorem kid_arr (b g i:Nat) (al:List A) (c:A):kid (nd b g (.slice al [])) i c=nd b g (.slice (al.set i c) []):=rfl
theorem kid_obj (b g i:Nat) (es:List (Lit×A)) (c:A):kid (nd b g (.map es)) i c=nd b g (.map (es.modify i fun p=>(p.1,c))):=rfl
end Sp
theorem flat_split {α β:Type} (q:α→List β):∀ (l:List α) (i:Nat) (a:α),l[i]? = some a → ∃l1 l2,l=l1++a::l2∧l1.length=i
 | [],i,a,h=>by simp at h
 | x::r,0,a,h=>⟨[],r,by simpa using h,rfl⟩
 | x::r,i+1,a,h=>by
  obtain⟨l1,l2,e,e2⟩:=flat_split q r i a (by simpa using h)
  exact⟨x::l1,l2,by rw[e];rfl,by simp[e2]⟩
theorem Al.app {α β:Type} {P:α→β→Prop}:∀ {l:List α} {m1 m2:List β},Al P l (m1++m2) → ∃l1 l2,l=l1++l2∧Al P l1 m1∧Al P l2 m2
 | l,[],m2,h=>⟨[],l,rfl,trivial,h⟩
 | [],_::_,_,h=>h.elim
 | a::r,b::m1,m2,⟨h1,h2⟩=>by
  obtain⟨l1,l2,e,h3,h4⟩:=Al.app h2
  exact⟨a::l1,l2,by rw[e];rfl,⟨h1,h3⟩,h4⟩
theorem Al.append {α β:Type} {P:α→β→Prop}:∀ {l1 l2:List α} {m1 m2:List β},Al P l1 m1→Al P l2 m2→Al P (l1++l2) (m1++m2)
 | [],_,[],_,_,h=>h
 | _::_,_,_::_,_,⟨a,b⟩,h=>⟨a,Al.append b h⟩
theorem Pt.app {P:Value→Sp.V→Prop}:∀ {l:List (Lit×DataW Value)} {m1 m2:List (Lit×Sp.V)},Pt P l (m1++m2) → ∃l1 l2,l=l1++l2∧Pt P l1 m1∧Pt P l2 m2
 | l,[],m2,h=>⟨[],l,rfl,trivial,h⟩
 | [],_::_,_,h=>h.elim
 | a::r,b::m1,m2,⟨h1,h2⟩=>by
  obtain⟨l1,l2,e,h3,h4⟩:=Pt.app h2
  exact⟨a::l1,l2,by rw[e];rfl,⟨h1,h3⟩,h4⟩
theorem Pt.append {P:Value→Sp.V→Prop}:∀ {l1 l2:List (Lit×DataW Value)} {m1 m2:List (Lit×Sp.V)},Pt P l1 m1→Pt P l2 m2→Pt P (l1++l2) (m1++m2)
 | [],_,[],_,_,h=>h
 | _::_,_,_::_,_,⟨a,b⟩,h=>⟨a,Pt.append b h⟩
theorem modify_at {α:Type} (q:α→α) (a:α) (l2:List α):∀l1:List α,(l1++a::l2).modify l1.length q=l1++q a::l2
 | []=>rfl
 | x::r=>by simp only[List.cons_append,List.length_cons,List.modify_succ_cons,modify_at q a l2 r]
theorem TRep.kid {f i:Nat} {w w':World} {v:Value} {a c c':Sp.A} (h:TRep (f+1) w v a) (hi:(Sp.kids a)[i]? = some c) (hn:(Sp.fp (f+1) a).Nodup)
  (hk:∀k∈Sp.fp (f+1) a,k ∉ Sp.fp f c→w'.heap[k]? = w.heap[k]?) (hc:∀u,TRep f w u c→TRep f w' u c'):TRep (f+1) w' v (Sp.kid a i c'):=by
 obtain⟨b,g,x,rfl,hv,h⟩:=h
 rcases h with⟨k,h1,h2,rfl,h⟩|⟨n,h2,rfl,h,hbd⟩|⟨s,h2,rfl,h⟩|⟨al,sl,ps,rfl,h,ho,hs,ha⟩|⟨es,n,D,rfl,h,ho,hp⟩
 ·rw[Sp.kids_word] at hi;simp at hi
 ·rw[Sp.kids_num] at hi;simp at hi
 ·rw[Sp.kids_str] at hi;simp at hi
 ·rw[Sp.kids_arr] at hi
  obtain⟨l1,l2,rfl,hl⟩:=flat_split (Sp.fp f) al i c hi
  rw[Sp.fp_arr,List.flatMap_append,List.flatMap_cons] at hn hk
  obtain⟨q1,q2,rfl,ha1,ha2⟩:=ha.app
  cases q2 with
  | nil=>exact ha2.elim
  | cons u q2 =>
   obtain⟨hu,ha2⟩:=ha2
   rw[Sp.kid_arr,List.set_append_right _ _ (by omega),show i-l1.length=0 by omega,List.set_cons_zero]
   obtain⟨n1,n2⟩:=List.nodup_cons.1 hn
   obtain⟨n3,n4,n5⟩:=List.nodup_append.1 n2
   obtain⟨n6,n7,n8⟩:=List.nodup_append.1 n4
   obtain⟨n9,n10,n11⟩:=List.nodup_append.1 n7
   refine⟨b,g,_,rfl,hv,Or.inr (Or.inr (Or.inr (Or.inl ⟨_,sl,q1++u::q2,rfl,h.kept (hk b (by simp) fun hb=>n1 ?_),owns_kept ho fun g' hg'=>hk g' ?_ fun hb=>?_,hs,Al.append (Al.mem (fun u' d hd hu'=>TRep.move (fun k hkc=>hk k ?_ fun hb=>?_) hu') ha1) ⟨hc u hu,Al.mem (fun u' d hd hu'=>TRep.move (fun k hkc=>hk k ?_ fun hb=>?_) hu') ha2⟩⟩)))⟩
   ·exact List.mem_append_right _ (List.mem_append_right _ (List.mem_append_left _ hb))
   ·obtain⟨rfl,h0⟩:=own_if hs hg'
    simp[h0]
   ·obtain⟨rfl,h0⟩:=own_if hs hg'
    exact n5 g' (by simp[h0]) g' (List.mem_append_right _ (List.mem_append_left _ hb)) rfl
   ·exact List.mem_cons_of_mem _ (List.mem_append_right _ (List.mem_append_left _ (List.mem_flatMap.2 ⟨d,hd,hkc⟩)))
   ·exact n8 k (List.mem_flatMap.2 ⟨d,hd,hkc⟩) k (List.mem_append_left _ hb) rfl
   ·exact List.mem_cons_of_mem _ (List.mem_append_right _ (List.mem_append_right _ (List.mem_append_right _ (List.mem_flatMap.2 ⟨d,hd,hkc⟩))))
   ·exact n11 k hb k (List.mem_flatMap.2 ⟨d,hd,hkc⟩) rfl
 ·rw[Sp.kids_obj] at hi
  rw[List.getElem?_map] at hi
  obtain⟨⟨key,c2⟩,hi2,rfl⟩:=Option.map_eq_some_iff.1 hi
  obtain⟨l1,l2,rfl,hl⟩:=flat_split (fun p=>Sp.fp f p.2) es i _ hi2
  rw[Sp.fp_obj,List.flatMap_append,List.flatMap_cons] at hn hk
  obtain⟨q1,q2,rfl,ha1,ha2⟩:=hp.app
  cases q2 with
  | nil=>exact ha2.elim
  | cons u q2 =>
   obtain⟨⟨ku,xu,eu,hu⟩,ha2⟩:=ha2
   have em:(l1++(key,c2)::l2).modify i (fun p=>(p.1,c'))=l1++(key,c')::l2:=by
    rw[← hl];exact modify_at _ _ _ _
   rw[Sp.kid_obj,em]
   obtain⟨n1,n2⟩:=List.nodup_cons.1 hn
   obtain⟨n3,n4⟩:=List.nodup_cons.1 n2
   obtain⟨n6,n7,n8⟩:=List.nodup_append.1 n4
   obtain⟨n9,n10,n11⟩:=List.nodup_append.1 n7
   refine⟨b,g,_,rfl,hv,Or.inr (Or.inr (Or.inr (Or.inr ⟨_,n,q1++u::q2,rfl,h.kept (hk b (by simp) fun hb=>n1 ?_),map_kept ho (hk g (by simp) fun hb=>n3 ?_),Pt.append (Pt.mem (fun u' d hd hu'=>TRep.move (fun k hkc=>hk k ?_ fun hb=>?_) hu') ha1) ⟨⟨ku,xu,eu,hc xu hu⟩,Pt.mem (fun u' d hd hu'=>TRep.move (fun k hkc=>hk k ?_ fun hb=>?_) hu') ha2⟩⟩)))⟩
   ·exact List.mem_cons_of_mem _ (List.mem_append_right _ (List.mem_append_left _ hb))
   ·exact List.mem_append_right _ (List.mem_append_left _ hb)
   ·exact List.mem_cons_of_mem _ (List.mem_cons_of_mem _ (List.mem_append_left _ (List.mem_flatMap.2 ⟨d,hd,hkc⟩)))
   ·exact n8 k (List.mem_flatMap.2 ⟨d,hd,hkc⟩) k (List.mem_append_left _ hb) rfl
   ·exact List.mem_cons_of_mem _ (List.mem_cons_of_mem _ (List.mem_append_right _ (List.mem_append_right _ (List.mem_flatMap.2 ⟨d,hd,hkc⟩))))
   ·exact n11 k hb k (List.mem_flatMap.2 ⟨d,hd,hkc⟩) rfl
end Go.Proofs.YtdpomdelmdofmaaGreatDoor

namespace Go.Proofs.YtdpomdelmdofmaaGreatDoor
open Go.RowKit
namespace Sp
def sub:List Nat→A→Option A
 | [],a=>some a
 | i::r,a=>match (kids a)[i]? with
  | some c=>sub r c
  | none=>none
def put:List Nat→A→A→A
 | [],n,_=>n
 | i::r,n,a=>match (kids a)[i]? with
  | some c=>kid a i (put r n c)
  | none=>a
theorem sub_cons {i:Nat} {r:List Nat} {a n:A} (h:sub (i::r) a=some n):∃c,(kids a)[i]? = some c∧sub r c=some n:=by
 unfold sub at h
 split at h
 ·rename_i c hc;exact⟨c,hc,h⟩
 ·cases h
theorem put_cons {i:Nat} {r:List Nat} {a c:A} (n:A) (h:(kids a)[i]? = some c):put (i::r) n a=kid a i (put r n c):=by
 rw[put,h]
theorem kids_form {a c:A} {i:Nat} (h:(kids a)[i]? = some c):(∃k b l g al x,a = .agg [.lit (.int k b),.lit (.int l g),.slice al x]∧al[i]? = some c)∨(∃k b l g es key,a = .agg [.lit (.int k b),.lit (.int l g),.map es]∧es[i]? = some (key,c)):=by
 unfold kids at h
 split at h
 ·rename_i k b l g x
  split at h
  ·rename_i al y;exact Or.inl ⟨_,_,_,_,al,y,rfl,h⟩
  ·rename_i es
   rw[List.getElem?_map] at h
   obtain⟨⟨key,c2⟩,h2,rfl⟩:=Option.map_eq_some_iff.1 h
   exact Or.inr ⟨_,_,_,_,es,key,rfl,h2⟩
  ·simp at h
 ·simp at h
theorem fp_kid {f i:Nat} {a c:A} (h:(kids a)[i]? = some c):∃rest,(fp (f+1) a).Perm (rest++fp f c) ∧ ∀c',(fp (f+1) (kid a i c')).Perm (rest++fp f c'):=by
 rcases kids_form h with⟨k,b,l,g,al,x,rfl,h7⟩|⟨k,b,l,g,es,key,rfl,h7⟩
 ·obtain⟨l1,l2,rfl,hl⟩:=flat_split (fp f) al i c h7
  have e (y:List A) (z:List A):fp (f+1) (.agg [.lit (.int k b),.lit (.int l g),.slice y z])=b.toNat::((if g=0 then [] else [g.toNat])++y.flatMap (fp f)):=rfl
  have p (c':A):(b.toNat::((if g=0 then [] else [g.toNat])++(l1++c'::l2).flatMap (fp f))).Perm ((b.toNat::((if g=0 then [] else [g.toNat])++(l1.flatMap (fp f)++l2.flatMap (fp f))))++fp f c'):=by
   rw[List.flatMap_append,List.flatMap_cons,List.cons_append,List.append_assoc,List.append_assoc]
   exact ((((List.perm_append_comm).append_left _)).append_left _).cons _
  refine⟨_,by rw[e];exact p c,fun c'=>?_⟩
  have e2:kid (.agg [.lit (.int k b),.lit (.int l g),.slice (l1++c::l2) x]) i c' = .agg [.lit (.int k b),.lit (.int l g),.slice (l1++c'::l2) []]:=by
   show DataW.agg [.lit (.int k b),.lit (.int l g),.slice ((l1++c::l2).set i c') []]=_
   rw[List.set_append_right _ _ (by omega),show i-l1.length=0 by omega,List.set_cons_zero]
  rw[e2,e]
  exact p c'
 ·obtain⟨l1,l2,rfl,hl⟩:=flat_split (fun p=>fp f p.2) es i (key,c) h7
  have e (y:List (Lit×A)):fp (f+1) (.agg [.lit (.int k b),.lit (.int l g),.map y])=b.toNat::g.toNat::y.flatMap (fun p=>fp f p.2):=rfl
  have p (c':A):(b.toNat::g.toNat::(l1++(key,c')::l2).flatMap (fun p=>fp f p.2)).Perm ((b.toNat::g.toNat::(l1.flatMap (fun p=>fp f p.2)++l2.flatMap (fun p=>fp f p.2)))++fp f c'):=by
   rw[List.flatMap_append,List.flatMap_cons,List.cons_append,List.cons_append,List.append_assoc]
   exact (((List.perm_append_comm).append_left _).cons _).cons _
  refine⟨_,by rw[e];exact p c,fun c'=>?_⟩
  have e2:kid (.agg [.lit (.int k b),.lit (.int l g),.map (l1++(key,c)::l2)]) i c' = .agg [.lit (.int k b),.lit (.int l g),.map (l1++(key,c')::l2)]:=by
   show DataW.agg [.lit (.int k b),.lit (.int l g),.map ((l1++(key,c)::l2).modify i fun p=>(p.1,c'))]=_
   rw[← hl,modify_at]
  rw[e2,e]
  exact p c'
theorem fp_put {f:Nat}:∀ {p:List Nat} {a n:A},sub p a=some n → ∃rest,(fp (f+p.length) a).Perm (rest++fp f n) ∧ ∀n',(fp (f+p.length) (put p n' a)).Perm (rest++fp f n')
 | [],a,n,h=>by
  injection h with h
  subst h
  exact⟨[],List.Perm.refl _,fun n'=>List.Perm.refl _⟩
 | i::r,a,n,h=>by
  obtain⟨c,hc,h2⟩:=sub_cons h
  obtain⟨rest,h3,h4⟩:=fp_put (f:=f) h2
  obtain⟨rest2,h5,h6⟩:=fp_kid (f:=f+r.length) hc
  refine⟨rest2++rest,?_,fun n'=>?_⟩
  ·rw[List.append_assoc];exact h5.trans (h3.append_left _)
  ·rw[List.append_assoc,put_cons n' hc];exact (h6 _).trans ((h4 n').append_left _)
theorem sub_fp {f:Nat} {p:List Nat} {a n:A} (h:sub p a=some n):∀k∈fp f n,k∈fp (f+p.length) a:=by
 obtain⟨rest,h1,_⟩:=fp_put (f:=f) h
 exact fun k hk=>h1.mem_iff.2 (List.mem_append_right _ hk)
theorem sub_nodup {f:Nat} {p:List Nat} {a n:A} (h:sub p a=some n) (hn:(fp (f+p.length) a).Nodup):(fp f n).Nodup:=by
 obtain⟨rest,h1,_⟩:=fp_put (f:=f) h
 exact (List.nodup_append.1 (h1.nodup_iff.1 hn)).2.1
theorem put_nodup {f:Nat} {p:List Nat} {a n n':A} (h:sub p a=some n) (hn:(fp (f+p.length) a).Nodup) (hn':(fp f n').Nodup) (hd:∀k∈fp f n',k∈fp (f+p.length) a→k∈fp f n):(fp (f+p.length) (put p n' a)).Nodup:=by
 obtain⟨rest,h1,h2⟩:=fp_put (f:=f) h
 have h3:=List.nodup_append.1 (h1.nodup_iff.1 hn)
 refine (h2 n').nodup_iff.2 (List.nodup_append.2 ⟨h3.1,hn',fun x hx y hy e=>?_⟩)
 subst e
 exact h3.2.2 x hx x (hd x hy (h1.mem_iff.2 (List.mem_append_left _ hx))) rfl
theorem put_fp {f:Nat} {p:List Nat} {a n n':A} (h:sub p a=some n):∀k∈fp (f+p.length) (put p n' a),k∈fp (f+p.length) a∨k∈fp f n':=by
 obtain⟨rest,h1,h2⟩:=fp_put (f:=f) h
 intro k hk
 rcases List.mem_append.1 ((h2 n').mem_iff.1 hk) with hk|hk
 ·exact Or.inl (h1.mem_iff.2 (List.mem_append_left _ hk))
 ·exact Or.inr hk
end Sp
theorem TRep.at {f:Nat} {w:World}:∀ {p:List Nat} {v:Value} {a n:Sp.A},TRep (f+p.length) w v a→Sp.sub p a=some n → ∃u,TRep f w u n
 | [],v,a,n,h,hs=>by
  injection hs with hs
  subst hs
  exact⟨v,h⟩
 | i::r,v,a,n,h,hs=>by
  obtain⟨c,hc,h2⟩:=Sp.sub_cons hs
  obtain⟨b,g,x,rfl,hv,h⟩:=(show TRep ((f+r.length)+1) w v a from h)
  rcases h with⟨k,_,_,rfl,h⟩|⟨n,_,rfl,h,hbd⟩|⟨s,_,rfl,h⟩|⟨al,sl,ps,rfl,h,ho,hs,ha⟩|⟨es,n,D,rfl,h,ho,hp⟩
  ·rw[Sp.kids_word] at hc;simp at hc
  ·rw[Sp.kids_num] at hc;simp at hc
  ·rw[Sp.kids_str] at hc;simp at hc
  ·rw[Sp.kids_arr] at hc
   obtain⟨u,hu⟩:=ha.right (List.mem_of_getElem? hc)
   exact TRep.at hu h2
  ·rw[Sp.kids_obj,List.getElem?_map] at hc
   obtain⟨q,hq,rfl⟩:=Option.map_eq_some_iff.1 hc
   obtain⟨u,hu⟩:=hp.right (List.mem_of_getElem? hq)
   exact TRep.at hu h2
theorem TRep.put {f:Nat} {w w':World} {n':Sp.A}:∀ {p:List Nat} {v:Value} {a n:Sp.A},TRep (f+p.length) w v a→Sp.sub p a=some n→(Sp.fp (f+p.length) a).Nodup →
  (∀k∈Sp.fp (f+p.length) a,k ∉ Sp.fp f n→w'.heap[k]? = w.heap[k]?)→(∀u,TRep f w u n→TRep f w' u n')→TRep (f+p.length) w' v (Sp.put p n' a)
 | [],v,a,n,h,hs,_,_,hc=>by
  injection hs with hs
  subst hs
  exact hc v h
 | i::r,v,a,n,h,hs,hn,hk,hc=>by
  obtain⟨c,hci,h2⟩:=Sp.sub_cons hs
  rw[Sp.put_cons n' hci]
  obtain⟨rest,h5,h6⟩:=Sp.fp_kid (f:=f+r.length) hci
  have hcn:=(List.nodup_append.1 (h5.nodup_iff.1 hn)).2.1
  refine TRep.kid (f:=f+r.length) h hci hn (fun k hk1 hk2=>hk k hk1 fun hk3=>hk2 (Sp.sub_fp h2 k hk3)) fun u hu=>?_
  exact TRep.put hu h2 hcn (fun k hk1 hk2=>hk k (h5.mem_iff.2 (List.mem_append_right _ hk1)) hk2) hc
end Go.Proofs.YtdpomdelmdofmaaGreatDoor
