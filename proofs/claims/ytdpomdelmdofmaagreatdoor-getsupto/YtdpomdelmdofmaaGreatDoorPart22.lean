/-
  Plain functions: what is put in, taken away, put in another's place; ways within a value; how deep it is.
-/
import Derived.Test.YtdpomdelmdofmaaGreatDoorPart21
namespace Go.Proofs.YtdpomdelmdofmaaGreatDoor
open Go.RowKit Go.Maps
namespace Sp
def pos (d : V) (t : By) : Option Nat := match d with
 | .map es => es.findIdx? (fun p => p.1.sameKey (.string t))
 | .slice es _ => match idx t with
  | none => none
  | some i => if i < es.length then some i else none
 | _ => none
def vkids (d : V) : List V := match d with
 | .map es => es.map Prod.snd
 | .slice es _ => es
 | _ => []
def posn : V → List By → Option (List Nat)
 | _, [] => some []
 | d, t :: r => match pos d t with
  | none => none
  | some i => match (vkids d)[i]? with
   | none => none
   | some e => (posn e r).map (i :: ·)
def vsub : List Nat → V → Option V
 | [], d => some d
 | i :: r, d => match (vkids d)[i]? with
  | none => none
  | some e => vsub r e
def slot (n : Nat) (t : By) : Except Nat Nat :=
 if t = [45] then .ok n else match idx t with
  | none => .error 12
  | some i => if n < i then .error 11 else .ok i
def lins {α : Type} (i : Nat) (c : α) (l : List α) : List α := l.take i ++ c :: l.drop i
def ldel {α : Type} (i : Nat) (l : List α) : List α := l.take i ++ l.drop (i + 1)
def mput {α : Type} (k : Lit) (c : DataW α) (es : List (Lit × DataW α)) : List (Lit × DataW α) := DataW.insert (k, c) (es.filter fun p => !p.1.sameKey k)
def mdel {α : Type} (k : Lit) (es : List (Lit × DataW α)) : List (Lit × DataW α) := es.filter fun p => !p.1.sameKey k
def ved (F : List V → List V) (G : List (Lit × V) → List (Lit × V)) (d : V) : V := match d with
 | .slice es y => .slice (F es) y
 | .map es => .map (G es)
 | d => d
def insV (i : Nat) (k : By) (x : V) : V → V := ved (lins i x) (mput (.string k) x)
def remV (i : Nat) (k : By) : V → V := ved (ldel i) (mdel (.string k))
def setV (i : Nat) (k : By) (x : V) : V → V := ved (fun es => es.set i x) (mput (.string k) x)
def vkid (i : Nat) (x : V) (d : V) : V := match d with
 | .slice es y => .slice (es.set i x) y
 | .map es => .map (es.modify i fun p => (p.1, x))
 | d => d
def vput : List Nat → V → V → V
 | [], x, _ => x
 | i :: r, x, d => match (vkids d)[i]? with
  | some e => vkid i (vput r x e) d
  | none => d
def dmax : List Int → Int
 | [] => 0
 | x :: r => max x (dmax r)
def dep : Nat → V → Int
 | 0, _ => 0
 | f + 1, d => match d with
  | .slice es _ => 1 + dmax (es.map (dep f))
  | .map es => 1 + dmax (es.map fun p => dep f p.2)
  | _ => 1
end Sp
end Go.Proofs.YtdpomdelmdofmaaGreatDoor

namespace Go.Proofs.YtdpomdelmdofmaaGreatDoor
open Go.RowKit Go.Maps
namespace Sp
abbrev Opn := Nat × List By × V
abbrev Inv := Option (List Opn)
abbrev Doc := Option (V × Inv)
abbrev St := Int × By × By
abbrev Ans := Nat × Nat × By
abbrev Op2 := Nat × List By × List By × V
def add_ : By := [97, 100, 100]
def remove_ : By := [114, 101, 109, 111, 118, 101]
def replace_ : By := [114, 101, 112, 108, 97, 99, 101]
def move_ : By := [109, 111, 118, 101]
def copy_ : By := [99, 111, 112, 121]
def test_ : By := [116, 101, 115, 116]
def op_ : By := [111, 112]
def path_ : By := [112, 97, 116, 104]
def from_ : By := [102, 114, 111, 109]
def value_ : By := [118, 97, 108, 117, 101]
def pMem (d : V) (k : By) : Option V := match d with
 | .map es => if Maps.has (.map es : V) (.string k) = true then some ((DataW.map es).atKey (.string k) .nil) else none
 | _ => none
def pStrOf : Option V → Option By
 | some (.lit (.string s)) => some s
 | _ => none
def pPtrOf (d : Option V) : Option (List By) := match pStrOf d with
 | some s => toks s
 | none => none
def kindOf (nm : By) (hv hf : Bool) : Option Nat :=
 if nm = remove_ then some 1
 else if nm = add_ then (if hv then some 0 else none)
 else if nm = replace_ then (if hv then some 2 else none)
 else if nm = test_ then (if hv then some 5 else none)
 else if nm = move_ then (if hf then some 3 else none)
 else if nm = copy_ then (if hf then some 4 else none)
 else none
def pItem (d : V) : Option Op2 := match pPtrOf (pMem d path_) with
 | none => none
 | some p => match kindOf ((pStrOf (pMem d op_)).getD []) (pMem d value_).isSome (pPtrOf (pMem d from_)).isSome with
  | none => none
  | some k => some (k, p, (pPtrOf (pMem d from_)).getD [], (pMem d value_).getD .nil)
def pItems : Nat → List V → Except Nat (List Op2)
 | _, [] => .ok []
 | i, d :: r => match pItem d with
  | none => .error i
  | some o => match pItems (i + 1) r with
   | .ok l => .ok (o :: l)
   | .error c => .error c
def pread (d : V) : Except Nat (List Op2) := match d with
 | .slice es _ => pItems 0 es
 | _ => .error 0
def way (d : V) (s : List By) : List Nat := (posn d s).getD []
def noB : By := []
def addAt (d : V) (s : List By) (t : By) (n x : V) : Except Nat (V × List Opn) := match n with
 | .map es => if Maps.has (.map es : V) (.string t) = true then .ok (vput (way d s) (setV 0 t x (.map es)) d, [(2, s ++ [t], (DataW.map es).atKey (.string t) .nil)])
   else .ok (vput (way d s) (insV 0 t x (.map es)) d, [(1, s ++ [t], .nil)])
 | .slice es y => match slot es.length t with
  | .error c => .error c
  | .ok i => .ok (vput (way d s) (insV i noB x (.slice es y)) d, [(1, s ++ [Lib.itoa (i : Int)], .nil)])
 | _ => .error 11
def pSplit (p : List By) : Option (List By × By) := match p.getLast? with
 | none => none
 | some t => some (p.dropLast, t)
def dadd (d : V) (p : List By) (x : V) : Except Nat (V × List Opn) := match pSplit p with
 | none => .ok (x, [(2, [], d)])
 | some (s, t) => match find d s with
  | .error c => .error c
  | .ok n => addAt d s t n x
def taken (d : V) (p : List By) : Except Nat V := find d p
def drem (d : V) (p : List By) : Except Nat (V × List Opn) := match pSplit p with
 | none => .error 11
 | some (s, t) => match find d s with
  | .error c => .error c
  | .ok n => match child n t with
   | .error c => .error c
   | .ok e => .ok (vput (way d s) (remV ((idx t).getD 0) t n) d, [(0, p, e)])
def drep (d : V) (p : List By) (x : V) : Except Nat (V × List Opn) := match pSplit p with
 | none => .ok (x, [(2, [], d)])
 | some (s, t) => match find d s with
  | .error c => .error c
  | .ok n => match child n t with
   | .error c => .error c
   | .ok e => .ok (vput (way d s) (setV ((idx t).getD 0) t x n) d, [(2, p, e)])
def leads (p q : List By) : Bool := decide (q.length < p.length) && (p.take q.length == q)
def dmove (d : V) (q p : List By) : Except Nat (V × List Opn) := match find d q with
 | .error c => .error c
 | .ok e => if q = p then .ok (d, []) else if leads p q then .error 13 else match drem d q with
  | .error c => .error c
  | .ok (d1, j1) => match dadd d1 p e with
   | .error c => .error c
   | .ok (d2, j2) => .ok (d2, j1 ++ j2)
def dcopy (d : V) (q p : List By) : Except Nat (V × List Opn) := match find d q with
 | .error c => .error c
 | .ok e => dadd d p e
noncomputable def dtest (d : V) (p : List By) (x : V) : Except Nat (V × List Opn) := match find d p with
 | .error c => .error c
 | .ok e => if veq e x = true then .ok (d, []) else .error 14
noncomputable def do1 (d : V) (o : Op2) : Except Nat (V × List Opn) :=
 if o.1 = 0 then dadd d o.2.1 o.2.2.2 else if o.1 = 1 then drem d o.2.1 else if o.1 = 2 then drep d o.2.1 o.2.2.2
 else if o.1 = 3 then dmove d o.2.2.1 o.2.1 else if o.1 = 4 then dcopy d o.2.2.1 o.2.1 else dtest d o.2.1 o.2.2.2
noncomputable def meas (dp : Int) (d : V) : Nat := if dp < dep top d then 7 else if 20000 < (can top d).length then 4 else 0
noncomputable def dops (dp : Int) : Nat → V → List Opn → List Op2 → Except (Nat × Nat) (V × List Opn)
 | _, d, j, [] => .ok (d, j)
 | i, d, j, o :: r => match do1 d o with
  | .error c => .error (c, i)
  | .ok (d', j') => if meas dp d' = 0 then dops dp (i + 1) d' (j ++ j') r else .error (meas dp d', i)
def escT1 (c : UInt8) : By := if c = 126 then [126, 48] else if c = 47 then [126, 49] else [c]
def tokT (t : By) : By := t.flatMap escT1
def ptxt (p : List By) : By := p.flatMap fun t => 47 :: tokT t
def opName (k : Nat) : By := if k = 0 then add_ else if k = 1 then remove_ else replace_
def elemV (o : Opn) : V := if o.1 = 1 then vObj [(.string op_, vStr (opName o.1)), (.string path_, vStr (ptxt o.2.1))]
 else vObj [(.string op_, vStr (opName o.1)), (.string path_, vStr (ptxt o.2.1)), (.string value_, o.2.2)]
def ptext (l : List Opn) : By := can top (vArr (l.map elemV))
end Sp
end Go.Proofs.YtdpomdelmdofmaaGreatDoor

namespace Go.Proofs.YtdpomdelmdofmaaGreatDoor
open Go.RowKit Go.Maps
namespace Sp
def isObj (d : V) : Bool := match d with
 | .map _ => true
 | _ => false
def isNull (d : V) : Bool := match d with
 | .lit (.int _ k) => k == 0
 | _ => false
def pure_ : Nat → V → V
 | 0, _ => .nil
 | f + 1, p => match p with
  | .map ps => .map ((ps.filter fun q => !isNull q.2).map fun q => (q.1, pure_ f q.2))
  | p => p
def get? (es : List (Lit × V)) (k : Lit) : Option V := if Maps.has (.map es : V) k = true then some ((DataW.map es).atKey k .nil) else none
def keyB (k : Lit) : By := match k with
 | .string s => s
 | _ => []
def mrgs (m : Option V → List By → V → V × List Opn) (s : List By) : List (Lit × V) → List (Lit × V) → V × List Opn
 | [], es => (.map es, [])
 | (k, q) :: r, es =>
  if isNull q then (match get? es k with
   | none => mrgs m s r es
   | some o => ((mrgs m s r (mdel k es)).1, (0, s ++ [keyB k], o) :: (mrgs m s r (mdel k es)).2))
  else ((mrgs m s r (mput k (m (get? es k) (s ++ [keyB k]) q).1 es)).1, (m (get? es k) (s ++ [keyB k]) q).2 ++ (mrgs m s r (mput k (m (get? es k) (s ++ [keyB k]) q).1 es)).2)
def mrg : Nat → Option V → List By → V → V × List Opn
 | 0, _, _, _ => (.nil, [])
 | f + 1, v, s, p => match v, p with
  | some (.map es), .map ps => mrgs (mrg f) s ps es
  | some o, p => (pure_ (f + 1) p, [(2, s, o)])
  | none, p => (pure_ (f + 1) p, [(1, s, .nil)])
def ukeys (xs bs : List (Lit × V)) : List By := (bs.foldl (fun (l : List (Lit × V)) q => mput q.1 .nil l) xs).map fun p => keyB p.1
noncomputable def lcs : List V → List V → Nat
 | [], _ => 0
 | _ :: _, [] => 0
 | x :: a, y :: b => if veq x y = true then 1 + lcs a b else max (lcs a (y :: b)) (lcs (x :: a) b)
termination_by a b => a.length + b.length
noncomputable def apart : Nat → List V → List V → Nat → Nat → List Nat × List Nat
 | 0, _, _, _, _ => ([], [])
 | _ + 1, [], [], _, _ => ([], [])
 | n + 1, _ :: a, [], k, j => ((k :: (apart n a [] k j).1), (apart n a [] k j).2)
 | n + 1, [], _ :: b, k, j => ((apart n [] b k (j + 1)).1, j :: (apart n [] b k (j + 1)).2)
 | n + 1, x :: a, y :: b, k, j => if lcs a (y :: b) = lcs (x :: a) (y :: b) then ((k :: (apart n a (y :: b) k j).1), (apart n a (y :: b) k j).2)
   else if lcs (x :: a) b = lcs (x :: a) (y :: b) then ((apart n (x :: a) b k (j + 1)).1, j :: (apart n (x :: a) b k (j + 1)).2)
   else apart n a b (k + 1) (j + 1)
def numb (s : List By) (i : Nat) : List By := s ++ [Lib.itoa (i : Int)]
noncomputable def diffA (s : List By) (a b : List V) : List Opn :=
 ((apart (a.length + b.length) a b 0 0).1.map fun (i : Nat) => ((1, numb s i, .nil) : Opn)) ++ (apart (a.length + b.length) a b 0 0).2.map fun (i : Nat) => ((0, numb s i, (b[i]?).getD .nil) : Opn)
def diffO (m : List By → V → V → List Opn) (s : List By) (xs bs : List (Lit × V)) : List By → List Opn
 | [] => []
 | k :: r => (match get? xs (.string k), get? bs (.string k) with
  | _, none => [(1, s ++ [k], .nil)]
  | none, some y => [(0, s ++ [k], y)]
  | some x, some y => m (s ++ [k]) x y) ++ diffO m s xs bs r
noncomputable def diff (n : Int) : Nat → List By → V → V → List Opn
 | 0, _, _, _ => []
 | f + 1, s, a, b => match a, b with
  | .map xs, .map bs => diffO (diff n f) s xs bs (ukeys xs bs)
  | .slice xs x, .slice bs y => if ((xs.length : Int) + 1) * ((bs.length : Int) + 1) ≤ n then diffA s xs bs else if veq (.slice xs x) (.slice bs y) = true then [] else [(2, s, .slice bs y)]
  | a, b => if veq a b = true then [] else [(2, s, b)]
def memsOf (a : V) : List (Lit × V) := match a with
 | .map es => es
 | _ => []
noncomputable def mdfs (m : V → V → Option V) (xs : List (Lit × V)) : List (Lit × V) → List (Lit × V) → Option (List (Lit × V))
 | [], out => some out
 | (k, y) :: r, out => match get? xs k with
  | some x => if veq x y = true then mdfs m xs r out else if isNull y then none else (match m x y with
   | none => none
   | some z => mdfs m xs r (mput k z out))
  | none => if isNull y then none else (match m (.map []) y with
   | none => none
   | some z => mdfs m xs r (mput k z out))
noncomputable def mdf : Nat → V → V → Option V
 | 0, _, _ => none
 | f + 1, a, b => match b with
  | .map bs => (mdfs (mdf f) (memsOf a) bs (((memsOf a).filter fun p => !Maps.has (.map bs : V) p.1).map fun p => (p.1, vWord 0))).map .map
  | b => some b
end Sp
noncomputable def Sp.stPatch (d e : Int) (v : Sp.V × Sp.Inv) (s : Sp.By) : Sp.Ans × (Sp.V × Sp.Inv) := match Sp.readTo s (d + 2) e with
 | (c, none) => ((c, 0, []), v)
 | (_, some p) => match Sp.pread p with
  | .error i => ((10, i, []), v)
  | .ok l => match Sp.dops d 0 v.1 [] l with
   | .error (c, i) => ((c, i, []), v)
   | .ok (x, j) => ((0, 0, []), (x, some j.reverse))
noncomputable def Sp.mergeA (v : Sp.V × Sp.Inv) (p : Sp.V) : Sp.Ans × (Sp.V × Sp.Inv) :=
 if 20000 < (Sp.can top (Sp.mrg top (some v.1) [] p).1).length then ((4, 0, []), v) else ((0, 0, []), ((Sp.mrg top (some v.1) [] p).1, some (Sp.mrg top (some v.1) [] p).2.reverse))
noncomputable def Sp.stMerge (d e : Int) (v : Sp.V × Sp.Inv) (s : Sp.By) : Sp.Ans × (Sp.V × Sp.Inv) := match Sp.readTo s d e with
 | (c, none) => ((c, 0, []), v)
 | (_, some p) => Sp.mergeA v p
def Sp.stInvert (v : Sp.V × Sp.Inv) : Sp.Ans := match v.2 with
 | none => (3, 0, [])
 | some j => (0, 0, Sp.ptext j)
noncomputable def Sp.diffAns (n : Int) (v p : Sp.V) : Sp.Ans := (0, 0, Sp.ptext (Sp.diff n top [] v p))
noncomputable def Sp.stDiff (d e n : Int) (v : Sp.V × Sp.Inv) (s : Sp.By) : Sp.Ans := match Sp.readTo s d e with
 | (c, none) => (c, 0, [])
 | (_, some p) => Sp.diffAns n v.1 p
noncomputable def Sp.mdiffAns (v p : Sp.V) : Sp.Ans := match Sp.mdf top v p with
 | none => (15, 0, [])
 | some x => (0, 0, Sp.can top x)
noncomputable def Sp.stMergeDiff (d e : Int) (v : Sp.V × Sp.Inv) (s : Sp.By) : Sp.Ans := match Sp.readTo s d e with
 | (c, none) => (c, 0, [])
 | (_, some p) => Sp.mdiffAns v.1 p
noncomputable def Sp.amend (d e n : Int) (v : Sp.V × Sp.Inv) (o : Sp.St) : Sp.Ans × (Sp.V × Sp.Inv) :=
 if o.1 = 5 then Sp.stPatch d e v o.2.1 else if o.1 = 6 then Sp.stMerge d e v o.2.1 else if o.1 = 7 then (Sp.stInvert v, v)
 else if o.1 = 8 then (Sp.stDiff d e n v o.2.1, v) else (Sp.stMergeDiff d e v o.2.1, v)
end Go.Proofs.YtdpomdelmdofmaaGreatDoor
