/-
  Plain functions: what is put in, taken away, put in another's place; ways within a value; how deep it is.
-/
import Derived.Test.YtdpomdelmdofmaaGreatDoorPart21
import Derived.Test.YtdpomdelmdofmaaGreatDoorPart01
import Derived.Test.YtdpomdelmdofmaaGreatDoorPart11
namespace Go.Proofs.YtdpomdelmdofmaaGreatDoor
open Go.RowKit Go.Maps
namespace Sp
def pos (d : V) (t : By) : Option Nat := match d with
 | .map es => es.findIdx? (fun p => p.1.sameKey (.string t))
 | .slice es _ => match idx t with
  | none => none
  | some i => if i < es.length then some i else none
 | _ => none
def vkids (d : V) : List V := match d with
 | .map es => es.map Prod.snd
 | .slice es _ => es
 | _ => []
def posn : V → List By → Option (List Nat)
 | _, [] => some []
 | d, t :: r => match pos d t with
  | none => none
  | some i => match (vkids d)[i]? with
   | none => none
   | some e => (posn e r).map (i :: ·)
def vsub : List Nat → V → Option V
 | [], d => some d
 | i :: r, d => match (vkids d)[i]? with
  | none => none
  | some e => vsub r e
def slot (n : Nat) (t : By) : Except Nat Nat :=
 if t = [45] then .ok n else match idx t with
  | none => .error 12
  | some i => if n < i then .error 11 else .ok i
def lins {α : Type} (i : Nat) (c : α) (l : List α) : List α := l.take i ++ c :: l.drop i
def ldel {α : Type} (i : Nat) (l : List α) : List α := l.take i ++ l.drop (i + 1)
def mput {α : Type} (k : Lit) (c : DataW α) (es : List (Lit × DataW α)) : List (Lit × DataW α) := DataW.insert (k, c) (es.filter fun p => !p.1.sameKey k)
def mdel {α : Type} (k : Lit) (es : List (Lit × DataW α)) : List (Lit × DataW α) := es.filter fun p => !p.1.sameKey k
def ved (F : List V → List V) (G : List (Lit × V) → List (Lit × V)) (d : V) : V := match d with
 | .slice es y => .slice (F es) y
 | .map es => .map (G es)
 | d => d
def insV (i : Nat) (k : By) (x : V) : V → V := ved (lins i x) (mput (.string k) x)
def remV (i : Nat) (k : By) : V → V := ved (ldel i) (mdel (.string k))
def setV (i : Nat) (k : By) (x : V) : V → V := ved (fun es => es.set i x) (mput (.string k) x)
def vkid (i : Nat) (x : V) (d : V) : V := match d with
 | .slice es y => .slice (es.set i x) y
 | .map es => .map (es.modify i fun p => (p.1, x))
 | d => d
def vput : List Nat → V → V → V
 | [], x, _ => x
 | i :: r, x, d => match (vkids d)[i]? with
  | some e => vkid i (vput r x e) d
  | none => d
def dmax : List Int → Int
 | [] => 0
 | x :: r => max x (dmax r)
def dep : Nat → V → Int
 | 0, _ => 0
 | f + 1, d => match d with
  | .slice es _ => 1 + dmax (es.map (dep f))
  | .map es => 1 + dmax (es.map fun p => dep f p.2)
  | _ => 1
end Sp
end Go.Proofs.YtdpomdelmdofmaaGreatDoor

namespace Go.Proofs.YtdpomdelmdofmaaGreatDoor
open Go.RowKit Go.Maps
namespace Sp
abbrev Opn := Nat × List By × V
abbrev Inv := Option (List Opn)
abbrev Doc := Option (V × Inv)
abbrev St := Int × By × By
abbrev Ans := Nat × Nat × By
abbrev Op2 := Nat × List By × List By × V
def add_ : By := [97, 100, 100]
def remove_ : By := [114, 101, 109, 111, 118, 101]
def replace_ : By := [114, 101, 112, 108, 97, 99, 101]
def move_ : By := [109, 111, 118, 101]
def copy_ : By := [99, 111, 112, 121]
def test_ : By := [116, 101, 115, 116]
def op_ : By := [111, 112]
def path_ : By := [112, 97, 116, 104]
def from_ : By := [102, 114, 111, 109]
def value_ : By := [118, 97, 108, 117, 101]
def pMem (d : V) (k : By) : Option V := match d with
 | .map es => if Maps.has (.map es : V) (.string k) = true then some ((DataW.map es).atKey (.string k) .nil) else none
 | _ => none
def pStrOf : Option V → Option By
 | some (.lit (.string s)) => some s
 | _ => none
def pPtrOf (d : Option V) : Option (List By) := match pStrOf d with
 | some s => toks s
 | none => none
def kindOf (nm : By) (hv hf : Bool) : Option Nat :=
 if nm = remove_ then some 1
 else if nm = add_ then (if hv then some 0 else none)
 else if nm = replace_ then (if hv then some 2 else none)
 else if nm = test_ then (if hv then some 5 else none)
 else if nm = move_ then (if hf then some 3 else none)
 else if nm = copy_ then (if hf then some 4 else none)
 else none
def pItem (d : V) : Option Op2 := match pPtrOf (pMem d path_) with
 | none => none
 | some p => match kindOf ((pStrOf (pMem d op_)).getD []) (pMem d value_).isSome (pPtrOf (pMem d from_)).isSome with
  | none => none
  | some k => some (k, p, (pPtrOf (pMem d from_)).getD [], (pMem d value_).getD .nil)
def pItems : Nat → List V → Except Nat (List Op2)
 | _, [] => .ok []
 | i, d :: r => match pItem d with
  | none => .error i
  | some o => match pItems (i + 1) r with
   | .ok l => .ok (o :: l)
   | .error c => .error c
def pread (d : V) : Except Nat (List Op2) := match d with
 | .slice es _ => pItems 0 es
 | _ => .error 0
def way (d : V) (s : List By) : List Nat := (posn d s).getD []
def noB : By := []
def addAt (d : V) (s : List By) (t : By) (n x : V) : Except Nat (V × List Opn) := match n with
 | .map es => if Maps.has (.map es : V) (.string t) = true then .ok (vput (way d s) (setV 0 t x (.map es)) d, [(2, s ++ [t], (DataW.map es).atKey (.string t) .nil)])
   else .ok (vput (way d s) (insV 0 t x (.map es)) d, [(1, s ++ [t], .nil)])
 | .slice es y => match slot es.length t with
  | .error c => .error c
  | .ok i => .ok (vput (way d s) (insV i noB x (.slice es y)) d, [(1, s ++ [Lib.itoa (i : Int)], .nil)])
 | _ => .error 11
def pSplit (p : List By) : Option (List By × By) := match p.getLast? with
 | none => none
 | some t => some (p.dropLast, t)
def dadd (d : V) (p : List By) (x : V) : Except Nat (V × List Opn) := match pSplit p with
 | none => .ok (x, [(2, [], d)])
 | some (s, t) => match find d s with
  | .error c => .error c
  | .ok n => addAt d s t n x
def taken (d : V) (p : List By) : Except Nat V := find d p
def drem (d : V) (p : List By) : Except Nat (V × List Opn) := match pSplit p with
 | none => .error 11
 | some (s, t) => match find d s with
  | .error c => .error c
  | .ok n => match child n t with
   | .error c => .error c
   | .ok e => .ok (vput (way d s) (remV ((idx t).getD 0) t n) d, [(0, p, e)])
def drep (d : V) (p : List By) (x : V) : Except Nat (V × List Opn) := match pSplit p with
 | none => .ok (x, [(2, [], d)])
 | some (s, t) => match find d s with
  | .error c => .error c
  | .ok n => match child n t with
   | .error c => .error c
   | .ok e => .ok (vput (way d s) (setV ((idx t).getD 0) t x n) d, [(2, p, e)])
def leads (p q : List By) : Bool := decide (q.length < p.length) && (p.take q.length == q)
def dmove (d : V) (q p : List By) : Except Nat (V × List Opn) := match find d q with
 | .error c => .error c
 | .ok e => if q = p then .ok (d, []) else if leads p q then .error 13 else match drem d q with
  | .error c => .error c
  | .ok (d1, j1) => match dadd d1 p e with
   | .error c => .error c
   | .ok (d2, j2) => .ok (d2, j1 ++ j2)
def dcopy (d : V) (q p : List By) : Except Nat (V × List Opn) := match find d q with
 | .error c => .error c
 | .ok e => dadd d p e
noncomputable def dtest (d : V) (p : List By) (x : V) : Except Nat (V × List Opn) := match find d p with
 | .error c => .error c
 | .ok e => if veq e x = true then .ok (d, []) else .error 14
noncomputable def do1 (d : V) (o : Op2) : Except Nat (V × List Opn) :=
 if o.1 = 0 then dadd d o.2.1 o.2.2.2 else if o.1 = 1 then drem d o.2.1 else if o.1 = 2 then drep d o.2.1 o.2.2.2
 else if o.1 = 3 then dmove d o.2.2.1 o.2.1 else if o.1 = 4 then dcopy d o.2.2.1 o.2.1 else dtest d o.2.1 o.2.2.2
noncomputable def meas (dp : Int) (d : V) : Nat := if dp < dep top d then 7 else if 20000 < (can top d).length then 4 else 0
noncomputable def dops (dp : Int) : Nat → V → List Opn → List Op2 → Except (Nat × Nat) (V × List Opn)
 | _, d, j, [] => .ok (d, j)
 | i, d, j, o :: r => match do1 d o with
  | .error c => .error (c, i)
  | .ok (d', j') => if meas dp d' = 0 then dops dp (i + 1) d' (j ++ j') r else .error (meas dp d', i)
def escT1 (c : UInt8) : By := if c = 126 then [126, 48] else if c = 47 then [126, 49] else [c]
def tokT (t : By) : By := t.flatMap escT1
def ptxt (p : List By) : By := p.flatMap fun t => 47 :: tokT t
def opName (k : Nat) : By := if k = 0 then add_ else if k = 1 then remove_ else replace_
def elemV (o : Opn) : V := if o.1 = 1 then vObj [(.string op_, vStr (opName o.1)), (.string path_, vStr (ptxt o.2.1))]
 else vObj [(.string op_, vStr (opName o.1)), (.string path_, vStr (ptxt o.2.1)), (.string value_, o.2.2)]
def ptext (l : List Opn) : By := can top (vArr (l.map elemV))
end Sp
end Go.Proofs.YtdpomdelmdofmaaGreatDoor

namespace Go.Proofs.YtdpomdelmdofmaaGreatDoor
open Go.RowKit Go.Maps
namespace Sp
def isObj (d : V) : Bool := match d with
 | .map _ => true
 | _ => false
def isNull (d : V) : Bool := match d with
 | .lit (.int _ k) => k == 0
 | _ => false
def pure_ : Nat → V → V
 | 0, _ => .nil
 | f + 1, p => match p with
  | .map ps => .map ((ps.filter fun q => !isNull q.2).map fun q => (q.1, pure_ f q.2))
  | p => p
def get? (es : List (Lit × V)) (k : Lit) : Option V := if Maps.has (.map es : V) k = true then some ((DataW.map es).atKey k .nil) else none
def keyB (k : Lit) : By := match k with
 | .string s => s
 | _ => []
def mrgs (m : Option V → List By → V → V × List Opn) (s : List By) : List (Lit × V) → List (Lit × V) → V × List Opn
 | [], es => (.map es, [])
 | (k, q) :: r, es =>
  if isNull q then (match get? es k with
   | none => mrgs m s r es
   | some o => ((mrgs m s r (mdel k es)).1, (0, s ++ [keyB k], o) :: (mrgs m s r (mdel k es)).2))
  else ((mrgs m s r (mput k (m (get? es k) (s ++ [keyB k]) q).1 es)).1, (m (get? es k) (s ++ [keyB k]) q).2 ++ (mrgs m s r (mput k (m (get? es k) (s ++ [keyB k]) q).1 es)).2)
def mrg : Nat → Option V → List By → V → V × List Opn
 | 0, _, _, _ => (.nil, [])
 | f + 1, v, s, p => match v, p with
  | some (.map es), .map ps => mrgs (mrg f) s ps es
  | some o, p => (pure_ (f + 1) p, [(2, s, o)])
  | none, p => (pure_ (f + 1) p, [(1, s, .nil)])
def ukeys (xs bs : List (Lit × V)) : List By := (bs.foldl (fun (l : List (Lit × V)) q => mput q.1 .nil l) xs).map fun p => keyB p.1
noncomputable def lcs : List V → List V → Nat
 | [], _ => 0
 | _ :: _, [] => 0
 | x :: a, y :: b => if veq x y = true then 1 + lcs a b else max (lcs a (y :: b)) (lcs (x :: a) b)
termination_by a b => a.length + b.length
noncomputable def apart : Nat → List V → List V → Nat → Nat → List Nat × List Nat
 | 0, _, _, _, _ => ([], [])
 | _ + 1, [], [], _, _ => ([], [])
 | n + 1, _ :: a, [], k, j => ((k :: (apart n a [] k j).1), (apart n a [] k j).2)
 | n + 1, [], _ :: b, k, j => ((apart n [] b k (j + 1)).1, j :: (apart n [] b k (j + 1)).2)
 | n + 1, x :: a, y :: b, k, j => if lcs a (y :: b) = lcs (x :: a) (y :: b) then ((k :: (apart n a (y :: b) k j).1), (apart n a (y :: b) k j).2)
   else if lcs (x :: a) b = lcs (x :: a) (y :: b) then ((apart n (x :: a) b k (j + 1)).1, j :: (apart n (x :: a) b k (j + 1)).2)
   else apart n a b (k + 1) (j + 1)
def numb (s : List By) (i : Nat) : List By := s ++ [Lib.itoa (i : Int)]
noncomputable def diffA (s : List By) (a b : List V) : List Opn :=
 ((apart (a.length + b.length) a b 0 0).1.map fun (i : Nat) => ((1, numb s i, .nil) : Opn)) ++ (apart (a.length + b.length) a b 0 0).2.map fun (i : Nat) => ((0, numb s i, (b[i]?).getD .nil) : Opn)
def diffO (m : List By → V → V → List Opn) (s : List By) (xs bs : List (Lit × V)) : List By → List Opn
 | [] => []
 | k :: r => (match get? xs (.string k), get? bs (.string k) with
  | _, none => [(1, s ++ [k], .nil)]
  | none, some y => [(0, s ++ [k], y)]
  | some x, some y => m (s ++ [k]) x y) ++ diffO m s xs bs r
noncomputable def diff (n : Int) : Nat → List By → V → V → List Opn
 | 0, _, _, _ => []
 | f + 1, s, a, b => match a, b with
  | .map xs, .map bs => diffO (diff n f) s xs bs (ukeys xs bs)
  | .slice xs x, .slice bs y => if ((xs.length : Int) + 1) * ((bs.length : Int) + 1) ≤ n then diffA s xs bs else if veq (.slice xs x) (.slice bs y) = true then [] else [(2, s, .slice bs y)]
  | a, b => if veq a b = true then [] else [(2, s, b)]
def memsOf (a : V) : List (Lit × V) := match a with
 | .map es => es
 | _ => []
noncomputable def mdfs (m : V → V → Option V) (xs : List (Lit × V)) : List (Lit × V) → List (Lit × V) → Option (List (Lit × V))
 | [], out => some out
 | (k, y) :: r, out => match get? xs k with
  | some x => if veq x y = true then mdfs m xs r out else if isNull y then none else (match m x y with
   | none => none
   | some z => mdfs m xs r (mput k z out))
  | none => if isNull y then none else (match m (.map []) y with
   | none => none
   | some z => mdfs m xs r (mput k z out))
noncomputable def mdf : Nat → V → V → Option V
 | 0, _, _ => none
 | f + 1, a, b => match b with
  | .map bs => (mdfs (mdf f) (memsOf a) bs (((memsOf a).filter fun p => !Maps.has (.map bs : V) p.1).map fun p => (p.1, vWord 0))).map .map
  | b => some b
end Sp
noncomputable def Sp.stPatch (d e : Int) (v : Sp.V × Sp.Inv) (s : Sp.By) : Sp.Ans × (Sp.V × Sp.Inv) := match Sp.readTo s (d + 2) e with
 | (c, none) => ((c, 0, []), v)
 | (_, some p) => match Sp.pread p with
  | .error i => ((10, i, []), v)
  | .ok l => match Sp.dops d 0 v.1 [] l with
   | .error (c, i) => ((c, i, []), v)
   | .ok (x, j) => ((0, 0, []), (x, some j.reverse))
noncomputable def Sp.mergeA (v : Sp.V × Sp.Inv) (p : Sp.V) : Sp.Ans × (Sp.V × Sp.Inv) :=
 if 20000 < (Sp.can top (Sp.mrg top (some v.1) [] p).1).length then ((4, 0, []), v) else ((0, 0, []), ((Sp.mrg top (some v.1) [] p).1, some (Sp.mrg top (some v.1) [] p).2.reverse))
noncomputable def Sp.stMerge (d e : Int) (v : Sp.V × Sp.Inv) (s : Sp.By) : Sp.Ans × (Sp.V × Sp.Inv) := match Sp.readTo s d e with
 | (c, none) => ((c, 0, []), v)
 | (_, some p) => Sp.mergeA v p
def Sp.stInvert (v : Sp.V × Sp.Inv) : Sp.Ans := match v.2 with
 | none => (3, 0, [])
 | some j => (0, 0, Sp.ptext j)
noncomputable def Sp.diffAns (n : Int) (v p : Sp.V) : Sp.Ans := (0, 0, Sp.ptext (Sp.diff n top [] v p))
noncomputable def Sp.stDiff (d e n : Int) (v : Sp.V × Sp.Inv) (s : Sp.By) : Sp.Ans := match Sp.readTo s d e with
 | (c, none) => (c, 0, [])
 | (_, some p) => Sp.diffAns n v.1 p
noncomputable def Sp.mdiffAns (v p : Sp.V) : Sp.Ans := match Sp.mdf top v p with
 | none => (15, 0, [])
 | some x => (0, 0, Sp.can top x)
noncomputable def Sp.stMergeDiff (d e : Int) (v : Sp.V × Sp.Inv) (s : Sp.By) : Sp.Ans := match Sp.readTo s d e with
 | (c, none) => (c, 0, [])
 | (_, some p) => Sp.mdiffAns v.1 p
noncomputable def Sp.amend (d e n : Int) (v : Sp.V × Sp.Inv) (o : Sp.St) : Sp.Ans × (Sp.V × Sp.Inv) :=
 if o.1 = 5 then Sp.stPatch d e v o.2.1 else if o.1 = 6 then Sp.stMerge d e v o.2.1 else if o.1 = 7 then (Sp.stInvert v, v)
 else if o.1 = 8 then (Sp.stDiff d e n v o.2.1, v) else (Sp.stMergeDiff d e v o.2.1, v)
end Go.Proofs.YtdpomdelmdofmaaGreatDoor
/-
  What a script's answers are, as plain functions; walks of within, isConfig, failed.
-/
namespace Go.Proofs.YtdpomdelmdofmaaGreatDoor
open Go.RowKit
def Sp.inB (n a b : Int) : Bool := decide (a ≤ n) && decide (n ≤ b)
def Sp.cfg (d e n : Int) : Bool := Sp.inB d 1 20 && (Sp.inB e 0 400 && Sp.inB n 0 2000)
def Sp.ldd (r : Nat × Option Sp.V) (doc : Sp.Doc) : Sp.Ans × Sp.Doc :=
 match r.2 with
 | some v => ((r.1, 0, []), some (v, none))
 | none => ((r.1, 0, []), doc)
def Sp.gotA (v : Sp.V) (s : Sp.By) : Sp.Ans := match Sp.toks s with
 | none => (9, 0, [])
 | some l => match Sp.find v l with
  | .ok e => (0, 0, Sp.can top e)
  | .error c => (c, 0, [])
noncomputable def Sp.tst (d e : Int) (v : Sp.V) (s t : Sp.By) : Nat := match Sp.toks s with
 | none => 9
 | some l => match Sp.readTo t d e with
  | (c, none) => c
  | (_, some x) => match Sp.find v l with
   | .error c => c
   | .ok y => if veq y x = true then 0 else 14
noncomputable def Sp.ask (d e : Int) (v : Sp.V) (o : Sp.St) : Sp.Ans :=
 if o.1 = 2 then (0, 0, Sp.can top v) else if o.1 = 3 then Sp.gotA v o.2.1 else if o.1 = 4 then (Sp.tst d e v o.2.1 o.2.2, 0, []) else (1, 0, [])
noncomputable def Sp.step (d e n : Int) (doc : Sp.Doc) (o : Sp.St) : Sp.Ans × Sp.Doc :=
 if Sp.cfg d e n then
  (if o.1 < 1 ∨ 9 < o.1 then ((1, 0, []), doc)
   else if o.1 = 1 then Sp.ldd (Sp.readTo o.2.1 d e) doc
   else match doc with
    | none => ((3, 0, []), doc)
    | some v => if o.1 < 5 then (Sp.ask d e v.1 o, doc) else ((Sp.amend d e n v o).1, some (Sp.amend d e n v o).2))
 else ((2, 0, []), doc)
noncomputable def Sp.run (d e n : Int) : Sp.Doc → List Sp.St → List Sp.Ans
 | _, [] => []
 | doc, o :: r => (Sp.step d e n doc o).1 :: Sp.run d e n (Sp.step d e n doc o).2 r
noncomputable def Sp.docAfter (d e n : Int) : Sp.Doc → List Sp.St → Sp.Doc
 | doc, [] => doc
 | doc, o :: r => Sp.docAfter d e n (Sp.step d e n doc o).2 r
theorem Sp.run_len (d e n : Int) : ∀ (l : List Sp.St) (doc : Sp.Doc), (Sp.run d e n doc l).length = l.length := by
 intro l
 induction l with
 | nil => intro doc; rfl
 | cons o r ih => intro doc; simp [Sp.run, ih]
theorem Sp.run_take (d e n : Int) : ∀ (l : List Sp.St) (doc : Sp.Doc) (k : Nat), Sp.run d e n doc (l.take k) = (Sp.run d e n doc l).take k := by
 intro l
 induction l with
 | nil => intro doc k; simp [Sp.run]
 | cons o r ih =>
  intro doc k
  cases k with
  | zero => rfl
  | succ k => simp [Sp.run, ih]
theorem Sp.run_snoc (d e n : Int) : ∀ (l : List Sp.St) (doc : Sp.Doc) (o : Sp.St), Sp.run d e n doc (l ++ [o]) = Sp.run d e n doc l ++ [(Sp.step d e n (Sp.docAfter d e n doc l) o).1] := by
 intro l
 induction l with
 | nil => intro doc o; rfl
 | cons x r ih => intro doc o; simp [Sp.run, Sp.docAfter, ih]
theorem Sp.after_snoc (d e n : Int) : ∀ (l : List Sp.St) (doc : Sp.Doc) (o : Sp.St), Sp.docAfter d e n doc (l ++ [o]) = (Sp.step d e n (Sp.docAfter d e n doc l) o).2 := by
 intro l
 induction l with
 | nil => intro doc o; rfl
 | cons x r ih => intro doc o; simp [Sp.docAfter, ih]
def ansA (a : Sp.Ans) : Value := .agg #[.int .i64 a.1, .int .i64 a.2.1, .string ⟨a.2.2.toArray⟩]
def ansV (c : Nat) (t : Sp.By) : Value := .agg #[.int .i64 c, .int .i64 0, .string ⟨t.toArray⟩]
set_option maxHeartbeats 1000000 in
theorem within_any (n a b : Int) (w : World) : Calls Tryz.prog 52 #[.int .i64 n, .int .i64 a, .int .i64 b] w fun e w' => e = .returned (.bool (Sp.inB n a b)) ∧ w' = w := by
 by_cases h1 : a ≤ n
 ·by_cases h2 : n ≤ b
  ·have e1 : decide (a ≤ n) = true := by simpa using h1
   have e2 : decide (n ≤ b) = true := by simpa using h2
   have HE := hide (show Sp.inB n a b = true by unfold Sp.inB; rw [e1, e2]; rfl)
   clear h1 h2
   go_enter Tryz.func52, Tryz.ntmps52
   go_wp2_with (fail)
   go_ret
   exact ⟨by rw [unhide HE]; rfl, rfl⟩
  ·have e1 : decide (a ≤ n) = true := by simpa using h1
   have e2 : decide (n ≤ b) = false := by simpa using h2
   have HE := hide (show Sp.inB n a b = false by unfold Sp.inB; rw [e1, e2]; rfl)
   clear h1 h2
   go_enter Tryz.func52, Tryz.ntmps52
   go_wp2_with (fail)
   go_ret
   exact ⟨by rw [unhide HE]; rfl, rfl⟩
 ·have e1 : decide (a ≤ n) = false := by simpa using h1
  have HE := hide (show Sp.inB n a b = false by unfold Sp.inB; rw [e1]; rfl)
  clear h1
  go_enter Tryz.func52, Tryz.ntmps52
  go_wp2_with (fail)
  go_ret
  exact ⟨by rw [unhide HE]; rfl, rfl⟩
set_option maxHeartbeats 1000000 in
theorem isConfig_any (d e n : Int) (w : World) : Calls Tryz.prog 40 #[.agg #[.int .i64 d, .int .i64 e, .int .i64 n]] w fun x w' => x = .returned (.bool (Sp.cfg d e n)) ∧ Below w.heap.size w w' := by
 have hb : Below w.heap.size w (w.alloc (.cells #[.int .i64 d, .int .i64 e, .int .i64 n] 23)) := (Below.refl _ _).alloc (Nat.le_refl _) _
 go_enter Tryz.func40, Tryz.ntmps40
 go_wp2_with (fail)
 refine (within_any d 1 20 _).mono ?_
 rintro x w1 ⟨rfl, rfl⟩
 cases h1 : Sp.inB d 1 20 with
 | false =>
  have H1 := hide h1
  clear h1
  simp only
  go_wp2_with (fail)
  go_ret
  exact ⟨by unfold Sp.cfg; rw [unhide H1]; rfl, hb⟩
 | true =>
  have H1 := hide h1
  clear h1
  simp only
  go_wp2_with (fail)
  refine (within_any e 0 400 _).mono ?_
  rintro x w1 ⟨rfl, rfl⟩
  cases h2 : Sp.inB e 0 400 with
  | false =>
   have H2 := hide h2
   clear h2
   simp only
   go_wp2_with (fail)
   go_ret
   exact ⟨by unfold Sp.cfg; rw [unhide H1, unhide H2]; rfl, hb⟩
  | true =>
   have H2 := hide h2
   clear h2
   simp only
   go_wp2_with (fail)
   refine (within_any n 0 2000 _).mono ?_
   rintro x w1 ⟨rfl, rfl⟩
   go_wp2_with (fail)
   go_ret
   exact ⟨by unfold Sp.cfg; rw [unhide H1, unhide H2]; simp, hb⟩
set_option maxHeartbeats 1000000 in
theorem failed_any (c : Nat) (w : World) : Calls Tryz.prog 41 #[.int .i64 c] w fun x w' => x = .returned (ansV c []) ∧ Below w.heap.size w w' := by
 unfold ansV
 go_enter Tryz.func41, Tryz.ntmps41
 go_wp2_with (fail)
 refine bodyPost_ret (v := .agg #[.int .i64 c, .int .i64 0, .string ⟨([] : Sp.By).toArray⟩]) (by simp [results, Tryz.results41, go_sem]) rfl ⟨rfl, ?_⟩
 exact (Below.refl _ w).alloc (Nat.le_refl _) _
end Go.Proofs.YtdpomdelmdofmaaGreatDoor

namespace Go.Proofs.YtdpomdelmdofmaaGreatDoor
open Go.RowKit
def TokAt (w : World) (g o : Nat) (l : List Sp.By) : Prop := g < w.heap.size ∧ ∀ k (hk : k < l.length), w.cell? ⟨g, o + k, none⟩ = some (.string ⟨l[k].toArray⟩)
def Toks (w : World) (v : Value) (l : List Sp.By) : Prop :=
 (l = [] ∧ ∃ a c, v = .slice a 0 c ∧ c ≤ maxLen) ∨ ∃ g o cap, v = .slice (some ⟨g, o, none⟩) l.length cap ∧ l.length ≤ cap ∧ cap ≤ maxLen ∧ TokAt w g o l
theorem Toks.bel {w w' : World} {v : Value} {l : List Sp.By} (h : Toks w v l) (hb : Below w.heap.size w w') : Toks w' v l := by
 rcases h with h | ⟨g, o, cap, rfl, h1, h2, hg, hc⟩
 ·exact Or.inl h
 ·exact Or.inr ⟨g, o, cap, rfl, h1, h2, Nat.lt_of_lt_of_le hg hb.size, fun k hk => (hb.cell (p := ⟨g, o + k, none⟩) hg).trans (hc k hk)⟩
end Go.Proofs.YtdpomdelmdofmaaGreatDoor

namespace Go.Proofs.YtdpomdelmdofmaaGreatDoor
open Go.RowKit
namespace Sp
def kids (a : A) : List A := match a with
 | .agg [.lit (.int _ _), .lit (.int _ _), x] => (match x with
  | .slice al _ => al
  | .map es => es.map Prod.snd
  | _ => [])
 | _ => []
def kid (a : A) (i : Nat) (c : A) : A := match a with
 | .agg [.lit (.int k b), .lit (.int l g), x] => (match x with
  | .slice al _ => .agg [.lit (.int k b), .lit (.int l g), .slice (al.set i c) []]
  | .map es => .agg [.lit (.int k b), .lit (.int l g), .map (es.modify i fun p => (p.1, c))]
  | y => .agg [.lit (.int k b), .lit (.int l g), y])
 | y => y
theorem kids_arr (b g : Nat) (al : List A) : kids (nd b g (.slice al [])) = al := rfl
theorem kids_obj (b g : Nat) (es : List (Lit × A)) : kids (nd b g (.map es)) = es.map Prod.snd := rfl
theorem kids_word (b g k : Nat) : kids (nd b g (vWord k)) = [] := rfl
theorem kids_num (b g : Nat) (n : Nm) : kids (nd b g (vNum n)) = [] := rfl
theorem kids_str (b g : Nat) (s : By) : kids (nd b g (vStr s)) = [] := rfl
theorem kid_arr (b g i : Nat) (al : List A) (c : A) : kid (nd b g (.slice al [])) i c = nd b g (.slice (al.set i c) []) := rfl
theorem kid_obj (b g i : Nat) (es : List (Lit × A)) (c : A) : kid (nd b g (.map es)) i c = nd b g (.map (es.modify i fun p => (p.1, c))) := rfl
end Sp
theorem flat_split {α β : Type} (q : α → List β) : ∀ (l : List α) (i : Nat) (a : α), l[i]? = some a → ∃ l1 l2, l = l1 ++ a :: l2 ∧ l1.length = i
 | [], i, a, h => by simp at h
 | x :: r, 0, a, h => ⟨[], r, by simpa using h, rfl⟩
 | x :: r, i + 1, a, h => by
  obtain ⟨l1, l2, e, e2⟩ := flat_split q r i a (by simpa using h)
  exact ⟨x :: l1, l2, by rw [e]; rfl, by simp [e2]⟩
theorem Al.app {α β : Type} {P : α → β → Prop} : ∀ {l : List α} {m1 m2 : List β}, Al P l (m1 ++ m2) → ∃ l1 l2, l = l1 ++ l2 ∧ Al P l1 m1 ∧ Al P l2 m2
 | l, [], m2, h => ⟨[], l, rfl, trivial, h⟩
 | [], _ :: _, _, h => h.elim
 | a :: r, b :: m1, m2, ⟨h1, h2⟩ => by
  obtain ⟨l1, l2, e, h3, h4⟩ := Al.app h2
  exact ⟨a :: l1, l2, by rw [e]; rfl, ⟨h1, h3⟩, h4⟩
theorem Al.append {α β : Type} {P : α → β → Prop} : ∀ {l1 l2 : List α} {m1 m2 : List β}, Al P l1 m1 → Al P l2 m2 → Al P (l1 ++ l2) (m1 ++ m2)
 | [], _, [], _, _, h => h
 | _ :: _, _, _ :: _, _, ⟨a, b⟩, h => ⟨a, Al.append b h⟩
theorem Pt.app {P : Value → Sp.V → Prop} : ∀ {l : List (Lit × DataW Value)} {m1 m2 : List (Lit × Sp.V)}, Pt P l (m1 ++ m2) → ∃ l1 l2, l = l1 ++ l2 ∧ Pt P l1 m1 ∧ Pt P l2 m2
 | l, [], m2, h => ⟨[], l, rfl, trivial, h⟩
 | [], _ :: _, _, h => h.elim
 | a :: r, b :: m1, m2, ⟨h1, h2⟩ => by
  obtain ⟨l1, l2, e, h3, h4⟩ := Pt.app h2
  exact ⟨a :: l1, l2, by rw [e]; rfl, ⟨h1, h3⟩, h4⟩
theorem Pt.append {P : Value → Sp.V → Prop} : ∀ {l1 l2 : List (Lit × DataW Value)} {m1 m2 : List (Lit × Sp.V)}, Pt P l1 m1 → Pt P l2 m2 → Pt P (l1 ++ l2) (m1 ++ m2)
 | [], _, [], _, _, h => h
 | _ :: _, _, _ :: _, _, ⟨a, b⟩, h => ⟨a, Pt.append b h⟩
theorem modify_at {α : Type} (q : α → α) (a : α) (l2 : List α) : ∀ l1 : List α, (l1 ++ a :: l2).modify l1.length q = l1 ++ q a :: l2
 | [] => rfl
 | x :: r => by simp only [List.cons_append, List.length_cons, List.modify_succ_cons, modify_at q a l2 r]
theorem TRep.kid {f i : Nat} {w w' : World} {v : Value} {a c c' : Sp.A} (h : TRep (f + 1) w v a) (hi : (Sp.kids a)[i]? = some c) (hn : (Sp.fp (f + 1) a).Nodup)
  (hk : ∀ k ∈ Sp.fp (f + 1) a, k ∉ Sp.fp f c → w'.heap[k]? = w.heap[k]?) (hc : ∀ u, TRep f w u c → TRep f w' u c') : TRep (f + 1) w' v (Sp.kid a i c') := by
 obtain ⟨b, g, x, rfl, hv, h⟩ := h
 rcases h with ⟨k, h1, h2, rfl, h⟩ | ⟨n, h2, rfl, h, hbd⟩ | ⟨s, h2, rfl, h⟩ | ⟨al, sl, ps, rfl, h, ho, hs, ha⟩ | ⟨es, n, D, rfl, h, ho, hp⟩
 ·rw [Sp.kids_word] at hi; simp at hi
 ·rw [Sp.kids_num] at hi; simp at hi
 ·rw [Sp.kids_str] at hi; simp at hi
 ·rw [Sp.kids_arr] at hi
  obtain ⟨l1, l2, rfl, hl⟩ := flat_split (Sp.fp f) al i c hi
  rw [Sp.fp_arr, List.flatMap_append, List.flatMap_cons] at hn hk
  obtain ⟨q1, q2, rfl, ha1, ha2⟩ := ha.app
  cases q2 with
  | nil => exact ha2.elim
  | cons u q2 =>
   obtain ⟨hu, ha2⟩ := ha2
   rw [Sp.kid_arr, List.set_append_right _ _ (by omega), show i - l1.length = 0 by omega, List.set_cons_zero]
   obtain ⟨n1, n2⟩ := List.nodup_cons.1 hn
   obtain ⟨n3, n4, n5⟩ := List.nodup_append.1 n2
   obtain ⟨n6, n7, n8⟩ := List.nodup_append.1 n4
   obtain ⟨n9, n10, n11⟩ := List.nodup_append.1 n7
   refine ⟨b, g, _, rfl, hv, Or.inr (Or.inr (Or.inr (Or.inl ⟨_, sl, q1 ++ u :: q2, rfl, h.kept (hk b (by simp) fun hb => n1 ?_), owns_kept ho fun g' hg' => hk g' ?_ fun hb => ?_, hs, Al.append (Al.mem (fun u' d hd hu' => TRep.move (fun k hkc => hk k ?_ fun hb => ?_) hu') ha1) ⟨hc u hu, Al.mem (fun u' d hd hu' => TRep.move (fun k hkc => hk k ?_ fun hb => ?_) hu') ha2⟩⟩)))⟩
   ·exact List.mem_append_right _ (List.mem_append_right _ (List.mem_append_left _ hb))
   ·obtain ⟨rfl, h0⟩ := own_if hs hg'
    simp [h0]
   ·obtain ⟨rfl, h0⟩ := own_if hs hg'
    exact n5 g' (by simp [h0]) g' (List.mem_append_right _ (List.mem_append_left _ hb)) rfl
   ·exact List.mem_cons_of_mem _ (List.mem_append_right _ (List.mem_append_left _ (List.mem_flatMap.2 ⟨d, hd, hkc⟩)))
   ·exact n8 k (List.mem_flatMap.2 ⟨d, hd, hkc⟩) k (List.mem_append_left _ hb) rfl
   ·exact List.mem_cons_of_mem _ (List.mem_append_right _ (List.mem_append_right _ (List.mem_append_right _ (List.mem_flatMap.2 ⟨d, hd, hkc⟩))))
   ·exact n11 k hb k (List.mem_flatMap.2 ⟨d, hd, hkc⟩) rfl
 ·rw [Sp.kids_obj] at hi
  rw [List.getElem?_map] at hi
  obtain ⟨⟨key, c2⟩, hi2, rfl⟩ := Option.map_eq_some_iff.1 hi
  obtain ⟨l1, l2, rfl, hl⟩ := flat_split (fun p => Sp.fp f p.2) es i _ hi2
  rw [Sp.fp_obj, List.flatMap_append, List.flatMap_cons] at hn hk
  obtain ⟨q1, q2, rfl, ha1, ha2⟩ := hp.app
  cases q2 with
  | nil => exact ha2.elim
  | cons u q2 =>
   obtain ⟨⟨ku, xu, eu, hu⟩, ha2⟩ := ha2
   have em : (l1 ++ (key, c2) :: l2).modify i (fun p => (p.1, c')) = l1 ++ (key, c') :: l2 := by
    rw [← hl]; exact modify_at _ _ _ _
   rw [Sp.kid_obj, em]
   obtain ⟨n1, n2⟩ := List.nodup_cons.1 hn
   obtain ⟨n3, n4⟩ := List.nodup_cons.1 n2
   obtain ⟨n6, n7, n8⟩ := List.nodup_append.1 n4
   obtain ⟨n9, n10, n11⟩ := List.nodup_append.1 n7
   refine ⟨b, g, _, rfl, hv, Or.inr (Or.inr (Or.inr (Or.inr ⟨_, n, q1 ++ u :: q2, rfl, h.kept (hk b (by simp) fun hb => n1 ?_), map_kept ho (hk g (by simp) fun hb => n3 ?_), Pt.append (Pt.mem (fun u' d hd hu' => TRep.move (fun k hkc => hk k ?_ fun hb => ?_) hu') ha1) ⟨⟨ku, xu, eu, hc xu hu⟩, Pt.mem (fun u' d hd hu' => TRep.move (fun k hkc => hk k ?_ fun hb => ?_) hu') ha2⟩⟩)))⟩
   ·exact List.mem_cons_of_mem _ (List.mem_append_right _ (List.mem_append_left _ hb))
   ·exact List.mem_append_right _ (List.mem_append_left _ hb)
   ·exact List.mem_cons_of_mem _ (List.mem_cons_of_mem _ (List.mem_append_left _ (List.mem_flatMap.2 ⟨d, hd, hkc⟩)))
   ·exact n8 k (List.mem_flatMap.2 ⟨d, hd, hkc⟩) k (List.mem_append_left _ hb) rfl
   ·exact List.mem_cons_of_mem _ (List.mem_cons_of_mem _ (List.mem_append_right _ (List.mem_append_right _ (List.mem_flatMap.2 ⟨d, hd, hkc⟩))))
   ·exact n11 k hb k (List.mem_flatMap.2 ⟨d, hd, hkc⟩) rfl
end Go.Proofs.YtdpomdelmdofmaaGreatDoor
