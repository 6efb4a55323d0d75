/-
  Plain functions on lists of bytes: what the reader of texts comes to, piece by piece; no program is named here.
-/
import Derived.Lib.DecodeN
import Derived.Lib.RuneBytes
import Derived.Lib.ItoaNum
import Derived.Lib.TrimByte
import GoSem.ClaimWide
import Derived.Test.YtdpomdelmdofmaaGreatDoorProg
import Derived.WalkKit
import Derived.WalkSpells
import Derived.WalkLawsBesides
import Derived.BigQuiet
import Derived.Deep.QuietTactic
import Derived.Shelf.Unicode.DecodeSlow
import Derived.Shelf.Strconv.Itoa3
import Derived.Test.YtdpomdelmdofmaaGreatDoorRows
import Derived.ProofKit
import Derived.OpenShut
import Derived.LaidMore
import Derived.Lay
import Derived.Carry
import Derived.Stop.Joined
namespace Go.Proofs.YtdpomdelmdofmaaGreatDoor.Sp
abbrev By := List UInt8
def isB (c : UInt8) : Bool := c == 32 || c == 9 || c == 10 || c == 13
def isD (c : UInt8) : Bool := decide (48 ≤ c.toNat) && decide (c.toNat ≤ 57)
def pk (l : By) : Nat := match l with | [] => 0 | c :: _ => c.toNat
def tk (l : By) (c : UInt8) : Bool := match l with | [] => false | d :: _ => d == c
def skB : By → By
 | [] => []
 | c :: r => if isB c then skB r else c :: r
def dg : By → By
 | [] => []
 | c :: r => if isD c then c :: dg r else []
def dgR : By → By
 | [] => []
 | c :: r => if isD c then dgR r else c :: r
def frac (l : By) : Option (By × By) :=
 if tk l 46 then (if dg l.tail = [] then none else some (dg l.tail, dgR l.tail)) else some ([], l)
def exNum : By → Int → Int
 | [], n => n
 | c :: r, n => exNum r (min (10 * n + ((c.toNat : Int) - 48)) 1000000)
def expo (l : By) : Option (Int × By) :=
 if tk l 101 || tk l 69 then
  (if tk l.tail 45 then (if dg l.tail.tail = [] then none else some (- exNum (dg l.tail.tail) 0, dgR l.tail.tail))
   else if tk l.tail 43 then (if dg l.tail.tail = [] then none else some (exNum (dg l.tail.tail) 0, dgR l.tail.tail))
   else (if dg l.tail = [] then none else some (exNum (dg l.tail) 0, dgR l.tail)))
 else some (0, l)
abbrev Nm := Bool × By × Int
def mkNm (ng : Bool) (ds : By) (e : Int) : Nm :=
 let d := Lib.trimLeftB ds 48
 let w := Lib.trimRightB d 48
 if w = [] then (false, [], 0) else (ng, w, e + d.length - w.length)
def numB (ng : Bool) (l : By) : Option (Nm × By) :=
 if dg l = [] || (tk l 48 && decide (1 < (dg l).length)) then none
 else match frac (dgR l) with
  | none => none
  | some (f, r) => match expo r with
   | none => none
   | some (e, r') => some (mkNm ng (dg l ++ f) (e - f.length), r')
def num (l : By) : Option (Nm × By) := if tk l 45 then numB true l.tail else numB false l
def hexd (c : Nat) : Option Nat :=
 if 48 ≤ c ∧ c ≤ 57 then some (c - 48) else if 97 ≤ c ∧ c ≤ 102 then some (c - 97 + 10) else if 65 ≤ c ∧ c ≤ 70 then some (c - 65 + 10) else none
def hexs : Nat → Nat → By → Option (Nat × By)
 | 0, n, l => some (n, l)
 | k + 1, n, l => match hexd (pk l) with
  | none => none
  | some d => hexs k (n * 16 + d) l.tail
def scal (l : By) : Option (Nat × By) :=
 match hexs 4 0 l with
 | none => none
 | some (a, r) =>
  if a < 55296 ∨ 57344 ≤ a then some (a, r)
  else if 56320 ≤ a then none
  else if tk r 92 then (if tk r.tail 117 then
   (match hexs 4 0 r.tail.tail with
    | none => none
    | some (b, r') => if b < 56320 ∨ 57344 ≤ b then none else some (65536 + (a - 55296) * 1024 + (b - 56320), r'))
   else none) else none
def escT : List (UInt8 × Nat) := [(34, 34), (92, 92), (47, 47), (98, 8), (102, 12), (110, 10), (114, 13), (116, 9)]
def escIn (l : By) : List (UInt8 × Nat) → Option (Nat × By)
 | [] => none
 | (c, n) :: r => if tk l c then some (n, l.tail) else escIn l r
def esc (l : By) : Option (Nat × By) := if tk l 117 then scal l.tail else escIn l escT
def dec (l : By) : Nat × Nat := if l.length = 0 then (65533, 0) else Utf8.decode ⟨l.toArray⟩ 0
def chr (l : By) : Option (Nat × By) :=
 if tk l 92 then esc l.tail
 else if (dec l).1 < 32 ∨ ((dec l).1 = 65533 ∧ (dec l).2 < 2) then none else some ((dec l).1, l.drop (dec l).2)
def chrs : Nat → By → Option (By × By)
 | 0, _ => none
 | f + 1, l => if tk l 34 then some ([], l.tail) else match chr l with
  | none => none
  | some (c, r) => match chrs f r with
   | none => none
   | some (s, r') => some (Lib.encodeRune c ++ s, r')
def quo (l : By) : Option (By × By) := if tk l 34 then chrs (l.length + 1) l.tail else none
end Go.Proofs.YtdpomdelmdofmaaGreatDoor.Sp

namespace Go.Proofs.YtdpomdelmdofmaaGreatDoor
open Go.RowKit
theorem hide {p : Prop} (h : p) : Hid p := h
theorem unhide {p : Prop} (h : Hid p) : p := h
theorem drewN_two (w : World) (a b : Nat) : (w.drewN a).drewN b = w.drewN (a + b) := by simp only [World.drewN, Nat.add_assoc]
structure KeptX (X : Nat) (w w' : World) : Prop where
 os : w'.os = w.os
 tape : w'.tape = w.tape
 output : w'.output = w.output
 size : w.heap.size ≤ w'.heap.size
 block : ∀ k, k < w.heap.size → k ≠ X → w'.heap[k]? = w.heap[k]?
theorem KeptX.refl (X : Nat) (w : World) : KeptX X w w := ⟨rfl, rfl, rfl, Nat.le_refl _, fun _ _ _ => rfl⟩
theorem KeptX.trans {X : Nat} {a b c : World} (h : KeptX X a b) (k : KeptX X b c) : KeptX X a c :=
 ⟨k.os.trans h.os, k.tape.trans h.tape, k.output.trans h.output, Nat.le_trans h.size k.size, fun i hi hx => (k.block i (Nat.lt_of_lt_of_le hi h.size) hx).trans (h.block i hi hx)⟩
theorem KeptX.drewN {X : Nat} {a w : World} (h : KeptX X a w) (n : Nat) : KeptX X a (w.drewN n) := ⟨h.os, h.tape, h.output, h.size, h.block⟩
theorem KeptX.drew {X : Nat} {a w : World} (h : KeptX X a w) : KeptX X a w.drew := ⟨h.os, h.tape, h.output, h.size, h.block⟩
theorem KeptX.alloc {X : Nat} {a w : World} (h : KeptX X a w) (o : Obj) : KeptX X a (w.alloc o) :=
 h.trans ⟨rfl, rfl, rfl, by simp, fun k hk _ => Below.heap_alloc _ _ _ hk⟩
theorem KeptX.setCell {X : Nat} {a w : World} (h : KeptX X a w) {p : Addr} (hp : p.block = X) (u : Value) : KeptX X a (w.setCell p u) :=
 h.trans ⟨rfl, rfl, rfl, by simp [World.setCell], fun k _ hx => Below.heap_setCell _ _ _ _ (by omega)⟩
theorem KeptX.setCell_new {X : Nat} {a w : World} (h : KeptX X a w) {p : Addr} (hp : a.heap.size ≤ p.block) (u : Value) : KeptX X a (w.setCell p u) :=
 ⟨h.os, h.tape, h.output, by simpa [World.setCell] using h.size, fun k hk hx => (Below.heap_setCell _ _ _ _ (by omega)).trans (h.block k hk hx)⟩
theorem KeptX.of_below {X : Nat} {w w' : World} (h : Below w.heap.size w w') : KeptX X w w' := ⟨h.os, h.tape, h.output, h.size, fun k hk _ => h.block k hk⟩
theorem KeptX.below {X B : Nat} {w w' : World} (h : KeptX X w w') (hB : B ≤ X) (hs : B ≤ w.heap.size) : Below B w w' :=
 ⟨h.os, h.tape, h.output, h.size, fun k hk => h.block k (by omega) (by omega)⟩
theorem KeptX.cell {X : Nat} {w w' : World} (h : KeptX X w w') {p : Addr} (hp : p.block < w.heap.size) (hx : p.block ≠ X) : w'.cell? p = w.cell? p := World.cell?_of_block (w := w) (h.block p.block hp hx)
def RP (w : World) (R : Nat) (t : ByteArray) (p : Nat) (tw : Bool) (dp fr : Int) : Prop :=
 w.heap[R]? = some (.cells #[.string t, .int .i64 p, .bool tw, .int .i64 dp, .int .i64 fr] 155 (0, 0))
section
variable {w : World} {R : Nat} {t : ByteArray} {p : Nat} {tw : Bool} {dp fr : Int}
theorem RP.lt (h : RP w R t p tw dp fr) : R < w.heap.size := (Array.getElem?_eq_some_iff.1 h).1
theorem RP.c0 (h : RP w R t p tw dp fr) : w.cell? ⟨R, 0, none⟩ = some (.string t) := by simp [World.cell?, show w.heap[R]? = _ from h]
theorem RP.c1 (h : RP w R t p tw dp fr) : w.cell? ⟨R, 1, none⟩ = some (.int .i64 p) := by simp [World.cell?, show w.heap[R]? = _ from h]
theorem RP.c2 (h : RP w R t p tw dp fr) : w.cell? ⟨R, 2, none⟩ = some (.bool tw) := by simp [World.cell?, show w.heap[R]? = _ from h]
theorem RP.c3 (h : RP w R t p tw dp fr) : w.cell? ⟨R, 3, none⟩ = some (.int .i64 dp) := by simp [World.cell?, show w.heap[R]? = _ from h]
theorem RP.c4 (h : RP w R t p tw dp fr) : w.cell? ⟨R, 4, none⟩ = some (.int .i64 fr) := by simp [World.cell?, show w.heap[R]? = _ from h]
theorem RP.fz (h : RP w R t p tw dp fr) (o : Nat) : w.frozen? ⟨R, o, none⟩ = false := by simp [World.frozen?, show w.heap[R]? = _ from h]
theorem RP.drewN (h : RP w R t p tw dp fr) (n : Nat) : RP (w.drewN n) R t p tw dp fr := h
theorem RP.drew (h : RP w R t p tw dp fr) : RP w.drew R t p tw dp fr := h
theorem RP.alloc (h : RP w R t p tw dp fr) (o : Obj) : RP (w.alloc o) R t p tw dp fr := (Below.heap_alloc _ _ _ h.lt).trans h
theorem RP.set1 (h : RP w R t p tw dp fr) (q : Nat) : RP (w.setCell ⟨R, 1, none⟩ (.int .i64 q)) R t q tw dp fr := by
 simp only [RP, World.setCell, Array.getElem?_modify]
 rw [if_pos trivial, show w.heap[R]? = _ from h]; rfl
theorem RP.set2 (h : RP w R t p tw dp fr) (q : Bool) : RP (w.setCell ⟨R, 2, none⟩ (.bool q)) R t p q dp fr := by
 simp only [RP, World.setCell, Array.getElem?_modify]
 rw [if_pos trivial, show w.heap[R]? = _ from h]; rfl
theorem RP.set3 (h : RP w R t p tw dp fr) (q : Int) : RP (w.setCell ⟨R, 3, none⟩ (.int .i64 q)) R t p tw q fr := by
 simp only [RP, World.setCell, Array.getElem?_modify]
 rw [if_pos trivial, show w.heap[R]? = _ from h]; rfl
theorem RP.set4 (h : RP w R t p tw dp fr) (q : Int) : RP (w.setCell ⟨R, 4, none⟩ (.int .i64 q)) R t p tw dp q := by
 simp only [RP, World.setCell, Array.getElem?_modify]
 rw [if_pos trivial, show w.heap[R]? = _ from h]; rfl
theorem RP.kept {X : Nat} {w' : World} (h : RP w R t p tw dp fr) (hk : KeptX X w w') (hx : R ≠ X) : RP w' R t p tw dp fr := (hk.block R h.lt hx).trans h
end
theorem drop_cons (t : ByteArray) (p : Nat) (h : p < t.size) : t.data.toList.drop p = t[p] :: t.data.toList.drop (p + 1) := by
 rw [List.drop_eq_getElem_cons (by simpa using h)]; rfl
theorem drop_nil (t : ByteArray) (p : Nat) (h : ¬ p < t.size) : t.data.toList.drop p = [] := by
 apply List.drop_eq_nil_of_le; simp at h ⊢; exact h
structure At (t : ByteArray) (p : Nat) (l : Sp.By) : Prop where
 small : t.size ≤ 2000
 le : p ≤ t.size
 eq : t.data.toList.drop p = l
theorem At.len {t : ByteArray} {p : Nat} {l : Sp.By} (h : At t p l) : l.length = t.size - p := by rw [← h.eq]; simp
theorem At.lt {t : ByteArray} {p : Nat} {c : UInt8} {l : Sp.By} (h : At t p (c :: l)) : p < t.size := by
 have := h.len; simp at this; omega
theorem At.byte {t : ByteArray} {p : Nat} {c : UInt8} {l : Sp.By} (h : At t p (c :: l)) : t[p]'h.lt = c := by
 have h1 := h.eq; rw [drop_cons t p h.lt] at h1; exact (List.cons.inj h1).1
theorem At.next {t : ByteArray} {p : Nat} {c : UInt8} {l : Sp.By} (h : At t p (c :: l)) : At t (p + 1) l :=
 ⟨h.small, h.lt, by have h1 := h.eq; rw [drop_cons t p h.lt] at h1; exact (List.cons.inj h1).2⟩
theorem At.nil {t : ByteArray} {p : Nat} (h : At t p []) : p = t.size := by have h1 := h.len; have h2 := h.le; simp at h1; omega
theorem At.add {t : ByteArray} {p : Nat} {l : Sp.By} (h : At t p l) (n : Nat) (hn : n ≤ l.length) : At t (p + n) (l.drop n) :=
 ⟨h.small, by have := h.len; have := h.le; omega, by rw [← h.eq, List.drop_drop]⟩
structure AtL (t : ByteArray) (p : Nat) (l : Sp.By) : Prop where
 small : t.size ≤ 1048576
 le : p ≤ t.size
 eq : t.data.toList.drop p = l
section
variable {t : ByteArray} {p : Nat}
theorem At.toL {l : Sp.By} (h : At t p l) : AtL t p l := ⟨Nat.le_trans h.small (by decide), h.le, h.eq⟩
theorem AtL.len {l : Sp.By} (h : AtL t p l) : l.length = t.size - p := by rw [← h.eq]; simp
theorem AtL.lt {c : UInt8} {l : Sp.By} (h : AtL t p (c :: l)) : p < t.size := by
 have := h.len; simp at this; omega
theorem AtL.byte {c : UInt8} {l : Sp.By} (h : AtL t p (c :: l)) : t[p]'h.lt = c := by
 have h1 := h.eq; rw [drop_cons t p h.lt] at h1; exact (List.cons.inj h1).1
theorem AtL.next {c : UInt8} {l : Sp.By} (h : AtL t p (c :: l)) : AtL t (p + 1) l :=
 ⟨h.small, h.lt, by have h1 := h.eq; rw [drop_cons t p h.lt] at h1; exact (List.cons.inj h1).2⟩
theorem AtL.nil (h : AtL t p []) : p = t.size := by have h1 := h.len; have h2 := h.le; simp at h1; omega
theorem AtL.add {l : Sp.By} (h : AtL t p l) (n : Nat) (hn : n ≤ l.length) : AtL t (p + n) (l.drop n) :=
 ⟨h.small, by have := h.len; have := h.le; omega, by rw [← h.eq, List.drop_drop]⟩
end
def RD (w : World) (R : Nat) (t : ByteArray) (l : Sp.By) (tw : Bool) (dp fr : Int) : Prop := ∃ p, At t p l ∧ RP w R t p tw dp fr
theorem RD.lt {w : World} {R : Nat} {t : ByteArray} {l : Sp.By} {tw : Bool} {dp fr : Int} (h : RD w R t l tw dp fr) : R < w.heap.size := by obtain ⟨p, _, h⟩ := h; exact h.lt
theorem RD.drewN {w : World} {R : Nat} {t : ByteArray} {l : Sp.By} {tw : Bool} {dp fr : Int} (h : RD w R t l tw dp fr) (n : Nat) : RD (w.drewN n) R t l tw dp fr := h
theorem RD.alloc {w : World} {R : Nat} {t : ByteArray} {l : Sp.By} {tw : Bool} {dp fr : Int} (h : RD w R t l tw dp fr) (o : Obj) : RD (w.alloc o) R t l tw dp fr := by obtain ⟨p, a, h⟩ := h; exact ⟨p, a, h.alloc o⟩
theorem RD.kept {w w' : World} {R X : Nat} {t : ByteArray} {l : Sp.By} {tw : Bool} {dp fr : Int} (h : RD w R t l tw dp fr) (hk : KeptX X w w') (hx : R ≠ X) : RD w' R t l tw dp fr := by obtain ⟨p, a, h⟩ := h; exact ⟨p, a, h.kept hk hx⟩
def left (w : World) (R : Nat) : Nat :=
 match w.heap[R]? with
 | some (.cells cs _ _) => (match cs.toList with | (.string t) :: (.int _ p) :: _ => t.size - p.toNat | _ => 0)
 | _ => 0
theorem RD.left {w : World} {R : Nat} {t : ByteArray} {l : Sp.By} {tw : Bool} {dp fr : Int} (h : RD w R t l tw dp fr) : left w R = l.length := by
 obtain ⟨p, a, h⟩ := h
 simp [Go.Proofs.YtdpomdelmdofmaaGreatDoor.left, show w.heap[R]? = _ from h, a.len]
abbrev NG : Nat := 12
def escCells : Array Value := #[.int .u8 34, .int .i32 34, .int .u8 92, .int .i32 92, .int .u8 47, .int .i32 47, .int .u8 98, .int .i32 8, .int .u8 102, .int .i32 12, .int .u8 110, .int .i32 10, .int .u8 114, .int .i32 13, .int .u8 116, .int .i32 9]
def wordCells : Array Value := #[.string ⟨#[110, 117, 108, 108]⟩, .string ⟨#[116, 114, 117, 101]⟩, .string ⟨#[102, 97, 108, 115, 101]⟩]
def pescCells : Array Value := #[.string ⟨#[126, 48]⟩, .int .u8 126, .string ⟨#[126, 49]⟩, .int .u8 47]
def PTab (w : World) : Prop := ∃ t fr, w.heap[4]? = some (.cells pescCells t fr)
def Rng (w : World) : Prop := ∃ ev, w.cell? ⟨9, 0, none⟩ = some ev ∧ (ev = .nilIface ∨ ∃ te pe, ev = .iface te pe)
def Mx (w : World) : Prop := ∃ m, w.cell? ⟨6, 0, none⟩ = some (.int .i64 m)
structure Laid (w : World) : Prop where
 ng : NG ≤ w.heap.size
 esc : ∃ t fr, w.heap[7]? = some (.cells escCells t fr)
 words : ∃ t fr, w.heap[0]? = some (.cells wordCells t fr)
 utf8 : Lib.Utf8Tabs 1 2 w
 pow : ∃ t fr, w.heap[5]? = some (.cells (Lib.pow10Tab.map fun z => Value.int .u64 z).toArray t fr)
 pesc : PTab w
 rng : Rng w
 mx : Mx w
theorem Laid.below {w w' : World} (h : Laid w) (hb : Below NG w w') : Laid w' := by
 have hc : ∀ g o, g < NG → w'.cell? ⟨g, o, none⟩ = w.cell? ⟨g, o, none⟩ := fun g o hg => hb.cell (p := ⟨g, o, none⟩) hg
 refine ⟨Nat.le_trans h.ng hb.size, ?_, ?_, ⟨fun c hc' => by rw [hc _ _ (by decide)]; exact h.utf8.1 c hc', fun i hi => ⟨by rw [hc _ _ (by decide)]; exact (h.utf8.2 i hi).1, by rw [hc _ _ (by decide)]; exact (h.utf8.2 i hi).2⟩⟩, ?_, ?_, ?_, ?_⟩
 ·obtain ⟨t, fr, e⟩ := h.esc; exact ⟨t, fr, (hb.block _ (by decide)).trans e⟩
 ·obtain ⟨t, fr, e⟩ := h.words; exact ⟨t, fr, (hb.block _ (by decide)).trans e⟩
 ·obtain ⟨t, fr, e⟩ := h.pow; exact ⟨t, fr, (hb.block _ (by decide)).trans e⟩
 ·obtain ⟨t, fr, e⟩ := h.pesc; exact ⟨t, fr, (hb.block _ (by decide)).trans e⟩
 ·obtain ⟨ev, h1, h2⟩ := h.rng; exact ⟨ev, (hc _ _ (by decide)).trans h1, h2⟩
 ·obtain ⟨m, h1⟩ := h.mx; exact ⟨m, (hc _ _ (by decide)).trans h1⟩
theorem Laid.kept {X : Nat} {w w' : World} (h : Laid w) (hk : KeptX X w w') (hX : NG ≤ X) : Laid w' := h.below (hk.below hX h.ng)
end Go.Proofs.YtdpomdelmdofmaaGreatDoor

namespace Go.Proofs.YtdpomdelmdofmaaGreatDoor
open Go.ChangeShapes Go.WideShapes Go.ChangeAt Go.RowKit
def flat1 {H : Type} : DataW H → List Value
 | .lit (.int k z) => [.int k z]
 | .lit (.string s) => [.string ⟨s.toArray⟩]
 | _ => []
def flat2 {H : Type} : DataW H → List Value
 | .agg [a, b] => flat1 a ++ flat1 b
 | _ => []
theorem chunks {α β : Type} (F : β → List α) (c : Nat) : ∀ (ds : List β) (l : List α), l.length = ds.length * c → (∀ r x, ds[r]? = some x → (l.drop (r * c)).take c = F x) → l = ds.flatMap F
 | [], l, h, _ => by simpa using h
 | d :: ds, l, h, hx => by
  have h0 := hx 0 d rfl
  simp only [Nat.zero_mul, List.drop_zero] at h0
  have hr := chunks F c ds (l.drop c) (by rw [List.length_drop, h, List.length_cons, Nat.succ_mul]; omega) (fun r x hr => by
   have := hx (r + 1) x hr
   rw [List.drop_drop]
   rwa [show c + r * c = (r + 1) * c by rw [Nat.succ_mul]; omega])
  rw [List.flatMap_cons, ← h0, ← hr, List.take_append_drop]
theorem array_cells {H : Type} {enc : TypeId × Value → H} {P : Program} {w : World} {base : Nat} {spare : Nat → Bool} {held : Bool} {fuel : Nat} {t e n : Nat} {cs : List Value} {ds : List (DataW H)} {q : List MemPlace}
  (ht : P.underlying t = some (.array n e)) (hc : P.cellsOf t = n * P.cellsOf e) (F : DataW H → List Value)
  (hF : ∀ m l d p, DataW.trod enc P w base spare held m e l = some (d, p) → l = F d)
  (h : DataW.trod enc P w base spare held fuel t cs = some (.agg ds, q)) : cs = ds.flatMap F := by
 obtain ⟨xs, m, _, ex, hl, hn, hel⟩ := DataW.trod_array ht h
 have ed : ds = xs.map (·.1) := DataW.agg.inj (Prod.mk.inj ex).1
 subst ed
 refine chunks F (P.cellsOf e) _ cs (by rw [hl, hc, List.length_map, hn]) fun r x hr => ?_
 rw [List.getElem?_map] at hr
 obtain ⟨y, hy, rfl⟩ := Option.map_eq_some_iff.1 hr
 have hlt : r < n := by rw [← hn]; exact (List.getElem?_eq_some_iff.1 hy).1
 exact hF m _ y.1 y.2 ((hel r hlt).trans hy)
theorem int_cells {H : Type} {enc : TypeId × Value → H} {P : Program} {w : World} {base : Nat} {spare : Nat → Bool} {held : Bool} {e : Nat} {k : IntKind} (he : P.underlying e = some (.int k)) :
  ∀ m l d p, DataW.trod enc P w base spare held m e l = some (d, p) → l = flat1 d := by
 intro m l d p h
 obtain ⟨z, rfl, ex, _⟩ := DataW.trod_int he h
 rw [(Prod.mk.inj ex).1]; rfl
theorem string_cells {H : Type} {enc : TypeId × Value → H} {P : Program} {w : World} {base : Nat} {spare : Nat → Bool} {held : Bool} {e : Nat} (he : P.underlying e = some .string) :
  ∀ m l d p, DataW.trod enc P w base spare held m e l = some (d, p) → l = flat1 d := by
 intro m l d p h
 obtain ⟨s, rfl, ex, _⟩ := DataW.trod_string he h
 rw [(Prod.mk.inj ex).1]
 simp [flat1]
theorem pair_flat {H : Type} {enc : TypeId × Value → H} {P : Program} {w : World} {base : Nat} {spare : Nat → Bool} {held : Bool} {e : Nat} {f0 f1 : Field} {k0 k1 : IntKind} (he : P.underlying e = some (.struct #[f0, f1])) (ce : P.cellsOf e = 2)
  (o0 : f0.offset = 0) (o1 : f1.offset = 1) (u0 : P.underlying f0.type = some (.int k0)) (u1 : P.underlying f1.type = some (.int k1)) (c0 : P.cellsOf f0.type = 1) (c1 : P.cellsOf f1.type = 1) :
  ∀ m l d p, DataW.trod enc P w base spare held m e l = some (d, p) → l = flat2 d := by
 intro m l d p h
 obtain ⟨xs, m', _, ex, hl, hn, hel⟩ := DataW.trod_struct he h
 rw [ce] at hl
 match l, hl, xs, hn with
 | [v0, v1], _, [y0, y1], _ =>
  have g0 := hel 0 f0 rfl
  have g1 := hel 1 f1 rfl
  simp [o0, o1, c0, c1] at g0 g1
  obtain ⟨z0, e0, x0, _⟩ := DataW.trod_int u0 g0
  obtain ⟨z1, e1, x1, _⟩ := DataW.trod_int u1 g1
  simp only [Prod.mk.injEq] at ex
  simp only [List.cons.injEq, and_true] at e0 e1
  simp [ex.1, e0, e1, x0, x1, flat2, flat1]
theorem spair_flat {H : Type} {enc : TypeId × Value → H} {P : Program} {w : World} {base : Nat} {spare : Nat → Bool} {held : Bool} {e : Nat} {f0 f1 : Field} {k1 : IntKind} (he : P.underlying e = some (.struct #[f0, f1])) (ce : P.cellsOf e = 2)
  (o0 : f0.offset = 0) (o1 : f1.offset = 1) (u0 : P.underlying f0.type = some .string) (u1 : P.underlying f1.type = some (.int k1)) (c0 : P.cellsOf f0.type = 1) (c1 : P.cellsOf f1.type = 1) :
  ∀ m l d p, DataW.trod enc P w base spare held m e l = some (d, p) → l = flat2 d := by
 intro m l d p h
 obtain ⟨xs, m', _, ex, hl, hn, hel⟩ := DataW.trod_struct he h
 rw [ce] at hl
 match l, hl, xs, hn with
 | [v0, v1], _, [y0, y1], _ =>
  have g0 := hel 0 f0 rfl
  have g1 := hel 1 f1 rfl
  simp [o0, o1, c0, c1] at g0 g1
  obtain ⟨z0, e0, x0, _⟩ := DataW.trod_string u0 g0
  obtain ⟨z1, e1, x1, _⟩ := DataW.trod_int u1 g1
  simp only [Prod.mk.injEq] at ex
  simp only [List.cons.injEq, and_true] at e0 e1
  simp [ex.1, e0, e1, x0, x1, flat2, flat1]
theorem block_of {P : Program} {w : World} {n : String} {g : Nat} {cs : Array Value} {l : List Value} (hg : P.globalNamed n = some g) (h : w.var? P n = some cs) (hl : cs.toList = l) : ∃ t fr, w.heap[g]? = some (.cells l.toArray t fr) := by
 subst hl
 simp only [World.var?, hg, Option.bind_some] at h
 split at h
 ·rename_i cs' t' fr' e
  obtain rfl := Option.some.inj h
  exact ⟨t', fr', by rw [e, Array.toArray_toList]⟩
 ·cases h
end Go.Proofs.YtdpomdelmdofmaaGreatDoor
