/-
  Run of no step; walks of the statement's own pick, step, told.
-/
import Derived.Test.YtdpomdelmdofmaaGreatDoorPart35
import Derived.Test.YtdpomdelmdofmaaGreatDoorPart16
namespace Go.Proofs.YtdpomdelmdofmaaGreatDoor
open Go.RowKit
set_option maxHeartbeats 1000000 in
theorem pick_any (c:Int) (m:Nat) (h0:-9223372036854775808 ≤ c) (h1:c ≤ 9223372036854775807) (hm:0 < m) (hm2:m ≤ 4611686018427387904) (w:World) :
  Calls Tryz.prog 23 #[.int .i64 c,.int .i64 m] w fun x w'=>(∃ k:Nat,k < m ∧ x = .returned (.int .i64 k)) ∧ w' = w:=by
 by_cases hc:c < 0
 ·have e1:decide (c < 0) = true:=by simpa using hc
  go_enter Tryz.func23,Tryz.ntmps23
  go_wp2_with (fail)
  go_ret
  have e2:-(c + 1).tmod (m:Int) = (-(c + 1)) % (m:Int):=by
   rw [← Int.neg_tmod,Int.tmod_eq_emod_of_nonneg (by omega)]
  have e3:=Int.emod_nonneg (-(c + 1)) (show (m:Int) ≠ 0 by omega)
  have e4:=Int.emod_lt_of_pos (-(c + 1)) (show (0:Int) < m by omega)
  refine ⟨⟨((-(c + 1)) % (m:Int)).toNat,by omega,?_⟩,rfl⟩
  rw [e2,Int.toNat_of_nonneg e3]
  rfl
 ·have e1:decide (c < 0) = false:=by simpa using hc
  go_enter Tryz.func23,Tryz.ntmps23
  go_wp2_with (fail)
  go_ret
  have e3:=Int.emod_nonneg c (show (m:Int) ≠ 0 by omega)
  have e4:=Int.emod_lt_of_pos c (show (0:Int) < m by omega)
  refine ⟨⟨(c % (m:Int)).toNat,by omega,?_⟩,rfl⟩
  rw [Int.toNat_of_nonneg e3]
  rfl
set_option maxHeartbeats 1000000 in
theorem kstep_any (k:Int) (s t:ByteArray) (w:World):Calls Tryz.prog 26 #[.int .i64 k,.string s,.string t] w fun x w'=>x = .returned (.agg #[.int .i64 k,.string s,.string t]) ∧ Below w.heap.size w w':=by
 go_enter Tryz.func26,Tryz.ntmps26
 go_wp2_with (fail)
 refine bodyPost_ret (v:=.agg #[.int .i64 k,.string s,.string t]) (by simp [results,Tryz.results26,go_sem]) rfl ⟨rfl,?_⟩
 exact (Below.refl _ w).alloc (Nat.le_refl _) _
set_option maxHeartbeats 1000000 in
theorem told_yes (t:Sp.By) (w:World):Calls Tryz.prog 30 #[ansV 0 t,.string ⟨t.toArray⟩] w fun x w'=>x = .returned (.bool true) ∧ Below w.heap.size w w':=by
 unfold ansV
 go_enter Tryz.func30,Tryz.ntmps30
 go_wp2_with (fail)
 go_ret
 exact ⟨rfl,(Below.refl _ w).alloc (Nat.le_refl _) _⟩
end Go.Proofs.YtdpomdelmdofmaaGreatDoor

namespace Go.Proofs.YtdpomdelmdofmaaGreatDoor
def Sp.t1:Sp.By:=[32,91,49,46,48,44,32,50,93]
def Sp.t2:Sp.By:=[91,49,44,50,93]
def Sp.t3:Sp.By:=[91]
end Go.Proofs.YtdpomdelmdofmaaGreatDoor

namespace Go.Proofs.YtdpomdelmdofmaaGreatDoor
def Sp.pl (c:UInt8):Prop:=33 ≤ c.toNat ∧ c.toNat ≠ 34 ∧ c.toNat ≠ 92
end Go.Proofs.YtdpomdelmdofmaaGreatDoor

namespace Go.Proofs.YtdpomdelmdofmaaGreatDoor
open Go.RowKit
def RunEnd (m:Nat) (a:List Sp.Ans) (w:World) (x:Ending) (w':World):Prop:=∃ A cs,x = .returned (.slice (some ⟨A,0,none⟩) m m) ∧ w.heap.size ≤ A ∧ w'.heap[A]? = some (.cells cs 46 (0,0)) ∧ AnsC cs m a ∧ Below w.heap.size w w'
end Go.Proofs.YtdpomdelmdofmaaGreatDoor
