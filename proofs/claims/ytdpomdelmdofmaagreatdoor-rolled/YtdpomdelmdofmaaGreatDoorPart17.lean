/-
  Plain functions: merging, what leads from one value to another, a merge patch that does; a step of a script, whatever its kind.
-/
import Derived.Test.YtdpomdelmdofmaaGreatDoorPart16
import Derived.Test.YtdpomdelmdofmaaGreatDoorProg
import Derived.Shelf.SlicesE.Delete
import Derived.Shelf.SlicesE.Clone
import Derived.Shelf.SlicesE.Equal
namespace Go.Proofs.YtdpomdelmdofmaaGreatDoor
open Go.RowKit Go.Maps
namespace Sp
def isObj (d:V):Bool:=match d with
 | .map _=>true
 | _=>false
def isNull (d:V):Bool:=match d with
 | .lit (.int _ k)=>k == 0
 | _=>false
def pure_:Nat → V → V
 | 0,_=>.nil
 | f + 1,p=>match p with
  | .map ps=>.map ((ps.filter fun q=>!isNull q.2).map fun q=>(q.1,pure_ f q.2))
  | p=>p
def get? (es:List (Lit × V)) (k:Lit):Option V:=if Maps.has (.map es:V) k = true then some ((DataW.map es).atKey k .nil) else none
def keyB (k:Lit):By:=match k with
 | .string s=>s
 | _=>[]
def mrgs (m:Option V → List By → V → V × List Opn) (s:List By):List (Lit × V) → List (Lit × V) → V × List Opn
 | [],es=>(.map es,[])
 | (k,q) :: r,es =>
  if isNull q then (match get? es k with
   | none=>mrgs m s r es
   | some o=>((mrgs m s r (mdel k es)).1,(0,s ++ [keyB k],o) :: (mrgs m s r (mdel k es)).2))
  else ((mrgs m s r (mput k (m (get? es k) (s ++ [keyB k]) q).1 es)).1,(m (get? es k) (s ++ [keyB k]) q).2 ++ (mrgs m s r (mput k (m (get? es k) (s ++ [keyB k]) q).1 es)).2)
def mrg:Nat → Option V → List By → V → V × List Opn
 | 0,_,_,_=>(.nil,[])
 | f + 1,v,s,p=>match v,p with
  | some (.map es),.map ps=>mrgs (mrg f) s ps es
  | some o,p=>(pure_ (f + 1) p,[(2,s,o)])
  | none,p=>(pure_ (f + 1) p,[(1,s,.nil)])
def ukeys (xs bs:List (Lit × V)):List By:=(bs.foldl (fun (l:List (Lit × V)) q=>mput q.1 .nil l) xs).map fun p=>keyB p.1
noncomputable def lcs:List V → List V → Nat
 | [],_=>0
 | _ :: _,[]=>0
 | x :: a,y :: b=>if veq x y = true then 1 + lcs a b else max (lcs a (y :: b)) (lcs (x :: a) b)
termination_by a b=>a.length + b.length
noncomputable def apart:Nat → List V → List V → Nat → Nat → List Nat × List Nat
 | 0,_,_,_,_=>([],[])
 | _ + 1,[],[],_,_=>([],[])
 | n + 1,_ :: a,[],k,j=>((k :: (apart n a [] k j).1),(apart n a [] k j).2)
 | n + 1,[],_ :: b,k,j=>((apart n [] b k (j + 1)).1,j :: (apart n [] b k (j + 1)).2)
 | n + 1,x :: a,y :: b,k,j=>if lcs a (y :: b) = lcs (x :: a) (y :: b) then ((k :: (apart n a (y :: b) k j).1),(apart n a (y :: b) k j).2)
   else if lcs (x :: a) b = lcs (x :: a) (y :: b) then ((apart n (x :: a) b k (j + 1)).1,j :: (apart n (x :: a) b k (j + 1)).2)
   else apart n a b (k + 1) (j + 1)
def numb (s:List By) (i:Nat):List By:=s ++ [Lib.itoa (i:Int)]
noncomputable def diffA (s:List By) (a b:List V):List Opn :=
 ((apart (a.length + b.length) a b 0 0).1.map fun (i:Nat)=>((1,numb s i,.nil):Opn)) ++ (apart (a.length + b.length) a b 0 0).2.map fun (i:Nat)=>((0,numb s i,(b[i]?).getD .nil):Opn)
def diffO (m:List By → V → V → List Opn) (s:List By) (xs bs:List (Lit × V)):List By → List Opn
 | []=>[]
 | k :: r=>(match get? xs (.string k),get? bs (.string k) with
  | _,none=>[(1,s ++ [k],.nil)]
  | none,some y=>[(0,s ++ [k],y)]
  | some x,some y=>m (s ++ [k]) x y) ++ diffO m s xs bs r
noncomputable def diff (n:Int):Nat → List By → V → V → List Opn
 | 0,_,_,_=>[]
 | f + 1,s,a,b=>match a,b with
  | .map xs,.map bs=>diffO (diff n f) s xs bs (ukeys xs bs)
  | .slice xs x,.slice bs y=>if ((xs.length:Int) + 1) * ((bs.length:Int) + 1) ≤ n then diffA s xs bs else if veq (.slice xs x) (.slice bs y) = true then [] else [(2,s,.slice bs y)]
  | a,b=>if veq a b = true then [] else [(2,s,b)]
def memsOf (a:V):List (Lit × V):=match a with
 | .map es=>es
 | _=>[]
noncomputable def mdfs (m:V → V → Option V) (xs:List (Lit × V)):List (Lit × V) → List (Lit × V) → Option (List (Lit × V))
 | [],out=>some out
 | (k,y) :: r,out=>match get? xs k with
  | some x=>if veq x y = true then mdfs m xs r out else if isNull y then none else (match m x y with
   | none=>none
   | some z=>mdfs m xs r (mput k z out))
  | none=>if isNull y then none else (match m (.map []) y with
   | none=>none
   | some z=>mdfs m xs r (mput k z out))
noncomputable def mdf:Nat → V → V → Option V
 | 0,_,_=>none
 | f + 1,a,b=>match b with
  | .map bs=>(mdfs (mdf f) (memsOf a) bs (((memsOf a).filter fun p=>!Maps.has (.map bs:V) p.1).map fun p=>(p.1,vWord 0))).map .map
  | b=>some b
end Sp
noncomputable def Sp.stPatch (d e:Int) (v:Sp.V × Sp.Inv) (s:Sp.By):Sp.Ans × (Sp.V × Sp.Inv):=match Sp.readTo s (d + 2) e with
 | (c,none)=>((c,0,[]),v)
 | (_,some p)=>match Sp.pread p with
  | .error i=>((10,i,[]),v)
  | .ok l=>match Sp.dops d 0 v.1 [] l with
   | .error (c,i)=>((c,i,[]),v)
   | .ok (x,j)=>((0,0,[]),(x,some j.reverse))
noncomputable def Sp.mergeA (v:Sp.V × Sp.Inv) (p:Sp.V):Sp.Ans × (Sp.V × Sp.Inv) :=
 if 20000 < (Sp.can top (Sp.mrg top (some v.1) [] p).1).length then ((4,0,[]),v) else ((0,0,[]),((Sp.mrg top (some v.1) [] p).1,some (Sp.mrg top (some v.1) [] p).2.reverse))
noncomputable def Sp.stMerge (d e:Int) (v:Sp.V × Sp.Inv) (s:Sp.By):Sp.Ans × (Sp.V × Sp.Inv):=match Sp.readTo s d e with
 | (c,none)=>((c,0,[]),v)
 | (_,some p)=>Sp.mergeA v p
def Sp.stInvert (v:Sp.V × Sp.Inv):Sp.Ans:=match v.2 with
 | none=>(3,0,[])
 | some j=>(0,0,Sp.ptext j)
noncomputable def Sp.diffAns (n:Int) (v p:Sp.V):Sp.Ans:=(0,0,Sp.ptext (Sp.diff n top [] v p))
noncomputable def Sp.stDiff (d e n:Int) (v:Sp.V × Sp.Inv) (s:Sp.By):Sp.Ans:=match Sp.readTo s d e with
 | (c,none)=>(c,0,[])
 | (_,some p)=>Sp.diffAns n v.1 p
noncomputable def Sp.mdiffAns (v p:Sp.V):Sp.Ans:=match Sp.mdf top v p with
 | none=>(15,0,[])
 | some x=>(0,0,Sp.can top x)
noncomputable def Sp.stMergeDiff (d e:Int) (v:Sp.V × Sp.Inv) (s:Sp.By):Sp.Ans:=match Sp.readTo s d e with
 | (c,none)=>(c,0,[])
 | (_,some p)=>Sp.mdiffAns v.1 p
noncomputable def Sp.amend (d e n:Int) (v:Sp.V × Sp.Inv) (o:Sp.St):Sp.Ans × (Sp.V × Sp.Inv) :=
 if o.1 = 5 then Sp.stPatch d e v o.2.1 else if o.1 = 6 then Sp.stMerge d e v o.2.1 else if o.1 = 7 then (Sp.stInvert v,v)
 else if o.1 = 8 then (Sp.stDiff d e n v o.2.1,v) else (Sp.stMergeDiff d e v o.2.1,v)
end Go.Proofs.YtdpomdelmdofmaaGreatDoor

namespace Go.Proofs.YtdpomdelmdofmaaGreatDoor
open Go.RowKit
def Sp.inB (n a b:Int):Bool:=decide (a ≤ n) && decide (n ≤ b)
def Sp.cfg (d e n:Int):Bool:=Sp.inB d 1 20 && (Sp.inB e 0 400 && Sp.inB n 0 2000)
def Sp.ldd (r:Nat × Option Sp.V) (doc:Sp.Doc):Sp.Ans × Sp.Doc :=
 match r.2 with
 | some v=>((r.1,0,[]),some (v,none))
 | none=>((r.1,0,[]),doc)
def Sp.gotA (v:Sp.V) (s:Sp.By):Sp.Ans:=match Sp.toks s with
 | none=>(9,0,[])
 | some l=>match Sp.find v l with
  | .ok e=>(0,0,Sp.can top e)
  | .error c=>(c,0,[])
noncomputable def Sp.tst (d e:Int) (v:Sp.V) (s t:Sp.By):Nat:=match Sp.toks s with
 | none=>9
 | some l=>match Sp.readTo t d e with
  | (c,none)=>c
  | (_,some x)=>match Sp.find v l with
   | .error c=>c
   | .ok y=>if veq y x = true then 0 else 14
noncomputable def Sp.ask (d e:Int) (v:Sp.V) (o:Sp.St):Sp.Ans :=
 if o.1 = 2 then (0,0,Sp.can top v) else if o.1 = 3 then Sp.gotA v o.2.1 else if o.1 = 4 then (Sp.tst d e v o.2.1 o.2.2,0,[]) else (1,0,[])
noncomputable def Sp.step (d e n:Int) (doc:Sp.Doc) (o:Sp.St):Sp.Ans × Sp.Doc :=
 if Sp.cfg d e n then
  (if o.1 < 1 ∨ 9 < o.1 then ((1,0,[]),doc)
   else if o.1 = 1 then Sp.ldd (Sp.readTo o.2.1 d e) doc
   else match doc with
    | none=>((3,0,[]),doc)
    | some v=>if o.1 < 5 then (Sp.ask d e v.1 o,doc) else ((Sp.amend d e n v o).1,some (Sp.amend d e n v o).2))
 else ((2,0,[]),doc)
noncomputable def Sp.run (d e n:Int):Sp.Doc → List Sp.St → List Sp.Ans
 | _,[]=>[]
 | doc,o :: r=>(Sp.step d e n doc o).1 :: Sp.run d e n (Sp.step d e n doc o).2 r
noncomputable def Sp.docAfter (d e n:Int):Sp.Doc → List Sp.St → Sp.Doc
 | doc,[]=>doc
 | doc,o :: r=>Sp.docAfter d e n (Sp.step d e n doc o).2 r
theorem Sp.run_len (d e n:Int):∀ (l:List Sp.St) (doc:Sp.Doc),(Sp.run d e n doc l).length = l.length:=by
 intro l
 induction l with
 | nil=>intro doc; rfl
 | cons o r ih=>intro doc; simp [Sp.run,ih]
theorem Sp.run_snoc (d e n:Int):∀ (l:List Sp.St) (doc:Sp.Doc) (o:Sp.St),Sp.run d e n doc (l ++ [o]) = Sp.run d e n doc l ++ [(Sp.step d e n (Sp.docAfter d e n doc l) o).1]:=by
 intro l
 induction l with
 | nil=>intro doc o; rfl
 | cons x r ih=>intro doc o; simp [Sp.run,Sp.docAfter,ih]
theorem Sp.after_snoc (d e n:Int):∀ (l:List Sp.St) (doc:Sp.Doc) (o:Sp.St),Sp.docAfter d e n doc (l ++ [o]) = (Sp.step d e n (Sp.docAfter d e n doc l) o).2:=by
 intro l
 induction l with
 | nil=>intro doc o; rfl
 | cons x r ih=>intro doc o; simp [Sp.docAfter,ih]
def ansA (a:Sp.Ans):Value:=.agg #[.int .i64 a.1,.int .i64 a.2.1,.string ⟨a.2.2.toArray⟩]
def ansV (c:Nat) (t:Sp.By):Value:=.agg #[.int .i64 c,.int .i64 0,.string ⟨t.toArray⟩]
set_option maxHeartbeats 1000000 in
theorem within_any (n a b:Int) (w:World):Calls Tryz.prog 52 #[.int .i64 n,.int .i64 a,.int .i64 b] w fun e w'=>e = .returned (.bool (Sp.inB n a b)) ∧ w' = w:=by
 by_cases h1:a ≤ n
 ·by_cases h2:n ≤ b
  ·have e1:decide (a ≤ n) = true:=by simpa using h1
   have e2:decide (n ≤ b) = true:=by simpa using h2
   have HE:=hide (show Sp.inB n a b = true by unfold Sp.inB; rw [e1,e2]; rfl)
   clear h1 h2
   go_enter Tryz.func52,Tryz.ntmps52
   go_wp2_with (fail)
   go_ret
   exact ⟨by rw [unhide HE]; rfl,rfl⟩
  ·have e1:decide (a ≤ n) = true:=by simpa using h1
   have e2:decide (n ≤ b) = false:=by simpa using h2
   have HE:=hide (show Sp.inB n a b = false by unfold Sp.inB; rw [e1,e2]; rfl)
   clear h1 h2
   go_enter Tryz.func52,Tryz.ntmps52
   go_wp2_with (fail)
   go_ret
   exact ⟨by rw [unhide HE]; rfl,rfl⟩
 ·have e1:decide (a ≤ n) = false:=by simpa using h1
  have HE:=hide (show Sp.inB n a b = false by unfold Sp.inB; rw [e1]; rfl)
  clear h1
  go_enter Tryz.func52,Tryz.ntmps52
  go_wp2_with (fail)
  go_ret
  exact ⟨by rw [unhide HE]; rfl,rfl⟩
set_option maxHeartbeats 1000000 in
theorem isConfig_any (d e n:Int) (w:World):Calls Tryz.prog 40 #[.agg #[.int .i64 d,.int .i64 e,.int .i64 n]] w fun x w'=>x = .returned (.bool (Sp.cfg d e n)) ∧ Below w.heap.size w w':=by
 have hb:Below w.heap.size w (w.alloc (.cells #[.int .i64 d,.int .i64 e,.int .i64 n] 23)):=(Below.refl _ _).alloc (Nat.le_refl _) _
 go_enter Tryz.func40,Tryz.ntmps40
 go_wp2_with (fail)
 refine (within_any d 1 20 _).mono ?_
 rintro x w1 ⟨rfl,rfl⟩
 cases h1:Sp.inB d 1 20 with
 | false =>
  have H1:=hide h1
  clear h1
  simp only
  go_wp2_with (fail)
  go_ret
  exact ⟨by unfold Sp.cfg; rw [unhide H1]; rfl,hb⟩
 | true =>
  have H1:=hide h1
  clear h1
  simp only
  go_wp2_with (fail)
  refine (within_any e 0 400 _).mono ?_
  rintro x w1 ⟨rfl,rfl⟩
  cases h2:Sp.inB e 0 400 with
  | false =>
   have H2:=hide h2
   clear h2
   simp only
   go_wp2_with (fail)
   go_ret
   exact ⟨by unfold Sp.cfg; rw [unhide H1,unhide H2]; rfl,hb⟩
  | true =>
   have H2:=hide h2
   clear h2
   simp only
   go_wp2_with (fail)
   refine (within_any n 0 2000 _).mono ?_
   rintro x w1 ⟨rfl,rfl⟩
   go_wp2_with (fail)
   go_ret
   exact ⟨by unfold Sp.cfg; rw [unhide H1,unhide H2]; simp,hb⟩
set_option maxHeartbeats 1000000 in
theorem failed_any (c:Nat) (w:World):Calls Tryz.prog 41 #[.int .i64 c] w fun x w'=>x = .returned (ansV c []) ∧ Below w.heap.size w w':=by
 unfold ansV
 go_enter Tryz.func41,Tryz.ntmps41
 go_wp2_with (fail)
 refine bodyPost_ret (v:=.agg #[.int .i64 c,.int .i64 0,.string ⟨([]:Sp.By).toArray⟩]) (by simp [results,Tryz.results41,go_sem]) rfl ⟨rfl,?_⟩
 exact (Below.refl _ w).alloc (Nat.le_refl _) _
end Go.Proofs.YtdpomdelmdofmaaGreatDoor

namespace Go.Proofs.YtdpomdelmdofmaaGreatDoor
def Sp.p1:Sp.By:=[91,49,44,50,93]
def Sp.p2:Sp.By:=[91,123,34,111,112,34,58,34,97,100,100,34,44,34,112,97,116,104,34,58,34,47,49,34,44,34,118,97,108,117,101,34,58,57,125,93]
def Sp.p3:Sp.By:=[47,49]
def Sp.p4:Sp.By:=[91,49,44,57,44,50,93]
def Sp.pv1:Sp.V:=Sp.vArr [Sp.vNum (false,[49],0),Sp.vNum (false,[50],0)]
def Sp.pv2:Sp.V:=Sp.vArr [Sp.vNum (false,[49],0),Sp.vNum (false,[57],0),Sp.vNum (false,[50],0)]
def Sp.ppv:Sp.V:=Sp.vArr [Sp.vObj [(.string Sp.op_,Sp.vStr Sp.add_),(.string Sp.path_,Sp.vStr Sp.p3),(.string Sp.value_,Sp.vNum (false,[57],0))]]
def Sp.pops:List Sp.Op2:=[(0,[[49]],[],Sp.vNum (false,[57],0))]
def Sp.pinv:List Sp.Opn:=[(1,[[49]],.nil)]
def Sp.ps:List Sp.St:=[(1,Sp.p1,[]),(5,Sp.p2,[]),(2,[],[]),(7,[],[]),(3,Sp.p3,[])]
set_option maxRecDepth 100000 in
theorem read_p1:Sp.readTo Sp.p1 3 9 = (0,some Sp.pv1):=by kernel_rfl
set_option maxRecDepth 100000 in
theorem read_p2:Sp.readTo Sp.p2 5 9 = (0,some Sp.ppv):=by kernel_rfl
set_option maxRecDepth 100000 in
theorem pread_p2:Sp.pread Sp.ppv = .ok Sp.pops:=by kernel_rfl
set_option maxRecDepth 100000 in
theorem do_p2:Sp.do1 Sp.pv1 (0,[[49]],[],Sp.vNum (false,[57],0)) = .ok (Sp.pv2,Sp.pinv):=by kernel_rfl
set_option maxRecDepth 100000 in
theorem meas_p2:Sp.meas 3 Sp.pv2 = 0:=by kernel_rfl
set_option maxRecDepth 100000 in
theorem can_p2:Sp.can top Sp.pv2 = Sp.p4:=by kernel_rfl
set_option maxRecDepth 100000 in
theorem got_p3:Sp.gotA Sp.pv2 Sp.p3 = (0,0,[57]):=by kernel_rfl
theorem step_dump {d e n:Int} (hc:Sp.cfg d e n = true) (v:Sp.V × Sp.Inv) (s t:Sp.By):Sp.step d e n (some v) (2,s,t) = ((0,0,Sp.can top v.1),some v):=by
 unfold Sp.step; rw [hc,if_pos rfl,if_neg (by simp),if_neg (by simp)]; rfl
theorem step_get {d e n:Int} (hc:Sp.cfg d e n = true) (v:Sp.V × Sp.Inv) (s t:Sp.By):Sp.step d e n (some v) (3,s,t) = (Sp.gotA v.1 s,some v):=by
 unfold Sp.step; rw [hc,if_pos rfl,if_neg (by simp),if_neg (by simp)]; rfl
theorem step_load {d e n:Int} (hc:Sp.cfg d e n = true) (doc:Sp.Doc) (s t:Sp.By):Sp.step d e n doc (1,s,t) = Sp.ldd (Sp.readTo s d e) doc:=by
 unfold Sp.step; rw [hc,if_pos rfl,if_neg (by simp),if_pos rfl]
theorem step_patch {d e n:Int} (hc:Sp.cfg d e n = true) (v:Sp.V × Sp.Inv) (s t:Sp.By):Sp.step d e n (some v) (5,s,t) = ((Sp.stPatch d e v s).1,some (Sp.stPatch d e v s).2):=by
 unfold Sp.step; rw [hc,if_pos rfl,if_neg (by simp),if_neg (by simp)]; rfl
theorem step_invert {d e n:Int} (hc:Sp.cfg d e n = true) (v:Sp.V × Sp.Inv) (s t:Sp.By):Sp.step d e n (some v) (7,s,t) = (Sp.stInvert v,some v):=by
 unfold Sp.step; rw [hc,if_pos rfl,if_neg (by simp),if_neg (by simp)]; rfl
theorem step_none {d e n:Int} (hc:Sp.cfg d e n = true) (k:Int) (h1:1 < k) (h9:k ≤ 9) (s t:Sp.By):Sp.step d e n none (k,s,t) = ((3,0,[]),none):=by
 unfold Sp.step; rw [hc,if_pos rfl,if_neg (by simp; omega),if_neg (by simp; omega)]
theorem run_ps:Sp.run 3 9 100 none Sp.ps = [(0,0,[]),(0,0,[]),(0,0,Sp.p4),(0,0,Sp.ptext Sp.pinv.reverse),(0,0,[57])]:=by
 have hc:Sp.cfg 3 9 100 = true:=by decide
 have hd:Sp.dops 3 0 Sp.pv1 [] Sp.pops = .ok (Sp.pv2,Sp.pinv):=by
  unfold Sp.pops Sp.dops
  rw [do_p2]
  simp only [meas_p2,if_true]
  rfl
 have h5:Sp.stPatch 3 9 (Sp.pv1,none) Sp.p2 = ((0,0,[]),(Sp.pv2,some Sp.pinv.reverse)):=by
  unfold Sp.stPatch
  rw [show (3:Int) + 2 = 5 from rfl,read_p2]
  simp only
  rw [pread_p2]
  simp only
  rw [hd]
 simp only [Sp.ps,Sp.run,step_load hc,read_p1,Sp.ldd,step_patch hc,h5,step_dump hc,can_p2,step_invert hc,step_get hc,got_p3,Sp.stInvert]
end Go.Proofs.YtdpomdelmdofmaaGreatDoor

namespace Go.Proofs
open Go.Shelf
def Tryz.eDelete_ren:Go.Shelf.Ren:=⟨fun | 45=>290 | n=>n,fun | 22=>106 | 23=>80 | 3=>3 | 4=>4 | 0=>0 | n=>n,fun | n=>n⟩
theorem Tryz.eDelete:Go.Proofs.SlLaysE.n45 Tryz.prog Tryz.eDelete_ren:={
 mixed:=by kernel_rfl
 f45:=⟨Tryz.f290.name,by decide,Tryz.func290.trans (congrArg some (by kernel_rfl))⟩
 t0:=Tryz.underlying0
 a0:=Tryz.isAgg0
 z0:=Tryz.sizeOf0
 v0:=Tryz.zeroValue0
 t3:=Tryz.underlying3
 a3:=Tryz.isAgg3
 z3:=Tryz.sizeOf3
 v3:=Tryz.zeroValue3
 t4:=Tryz.underlying4
 a4:=Tryz.isAgg4
 z4:=Tryz.sizeOf4
 v4:=Tryz.zeroValue4
 t22:=Tryz.underlying106
 a22:=Tryz.isAgg106
 z22:=Tryz.sizeOf106
 v22:=Tryz.zeroValue106
 a23:=Tryz.isAgg80
 z23:=Tryz.sizeOf80 }
def Tryz.eClone_ren:Go.Shelf.Ren:=⟨fun | 41=>289 | n=>n,fun | 22=>121 | 23=>9 | 4=>4 | n=>n,fun | n=>n⟩
theorem Tryz.eClone:Go.Proofs.SlLaysE0.n41 Tryz.prog Tryz.eClone_ren:={
 mixed:=by kernel_rfl
 f41:=⟨Tryz.f289.name,by decide,Tryz.func289.trans (congrArg some (by kernel_rfl))⟩
 t4:=Tryz.underlying4
 a4:=Tryz.isAgg4
 z4:=Tryz.sizeOf4
 v4:=Tryz.zeroValue4
 t22:=Tryz.underlying121
 a22:=Tryz.isAgg121
 z22:=Tryz.sizeOf121
 v22:=Tryz.zeroValue121 }
def Tryz.eEqual_ren:Go.Shelf.Ren:=⟨fun | 33=>202 | n=>n,fun | 22=>121 | 23=>9 | 4=>4 | 3=>3 | 0=>0 | n=>n,fun | n=>n⟩
theorem Tryz.eEqual:Go.Proofs.SlLaysE.n33 Tryz.prog Tryz.eEqual_ren:={
 mixed:=by kernel_rfl
 f33:=⟨Tryz.f202.name,by decide,Tryz.func202.trans (congrArg some (by kernel_rfl))⟩
 t0:=Tryz.underlying0
 a0:=Tryz.isAgg0
 z0:=Tryz.sizeOf0
 v0:=Tryz.zeroValue0
 t3:=Tryz.underlying3
 a3:=Tryz.isAgg3
 z3:=Tryz.sizeOf3
 v3:=Tryz.zeroValue3
 t4:=Tryz.underlying4
 a4:=Tryz.isAgg4
 z4:=Tryz.sizeOf4
 v4:=Tryz.zeroValue4
 t22:=Tryz.underlying121
 a22:=Tryz.isAgg121
 z22:=Tryz.sizeOf121
 v22:=Tryz.zeroValue121
 a23:=Tryz.isAgg9
 z23:=Tryz.sizeOf9 }
end Go.Proofs
